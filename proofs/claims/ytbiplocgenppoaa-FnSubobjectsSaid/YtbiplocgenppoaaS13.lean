import Derived.Test.YtbiplocgenppoaaS4
import Derived.Test.YtbiplocgenppoaaS10
import Derived.Test.YtbiplocgenppoaaS12
set_option maxHeartbeats 1000000
set_option maxRecDepth 100000
set_option linter.unusedSimpArgs false
set_option linter.unusedVariables false
set_option linter.unusedSectionVars false
namespace Go.Proofs.Ytbiplocgenppoaa
open _root_.Go.Proofs.Try
open Go.RowKit
theorem mem_bxlo {w0 w : World} {is : List Itm} {n B : Nat} {t : TypeId} {cs : List Value} (M : Mem w0 w is) (h : is[n]? = some (bxI B t cs)) : Bx w B t cs ∧ w0.heap.size ≤ B := by
 obtain ⟨S, hS, hb, hs⟩ := mem_get M h
 exact ⟨hb, hS _ hs⟩
theorem bxV_kept {w0 w w' : World} {is : List Itm} {n B : Nat} {t : TypeId} {cs : List Value} (M : Mem w0 w is) (h : is[n]? = some (bxI B t cs)) (hk : ∀ k, w0.heap.size ≤ k → k < w.heap.size → w'.heap[k]? = w.heap[k]?) : BxV w' B t (.agg cs.toArray) := by
 obtain ⟨hb, hl⟩ := mem_bxlo M h
 exact (hk B hl (bx_lt hb)).trans hb
noncomputable def idxF (p : Nat → Prop) (n : Nat) : Int := match firstN p n with
 | some i => (i : Int)
 | none => -1
theorem idxF_t {p : Nat → Prop} {n k : Nat} (hk : k < n) (h : p k) (h2 : ∀ j, j < k → ¬ p j) : idxF p n = (k : Int) := by unfold idxF; rw [firstN_some hk h h2]
theorem idxF_f {p : Nat → Prop} {n : Nat} (h2 : ∀ j, j < n → ¬ p j) : idxF p n = -1 := by unfold idxF; rw [firstN_none h2]
theorem idxF_ex {p : Nat → Prop} {n : Nat} : bP (∃ i, i < n ∧ p i) = decide (0 ≤ idxF p n) := by
 by_cases h : ∃ i, i < n ∧ p i
 ·obtain ⟨i, hi, hp⟩ := h
  have hl := leastN_spec (p := fun i => i < n ∧ p i) ⟨hi, hp⟩
  have hno : ∀ j, j < leastN (fun i => i < n ∧ p i) → ¬ p j := fun j hj hp => by
   have := (leastN_spec (p := fun i => i < n ∧ p i) (n := j) ⟨by have := hl.1.1; omega, hp⟩).2
   omega
  rw [bP_t ⟨i, hi, hp⟩, idxF_t hl.1.1 hl.1.2 hno]; simp
 rw [bP_f h, idxF_f fun j hj hp => h ⟨j, hj, hp⟩]; rfl
theorem before1_any (w : World) (g : Int) (B : Nat) (v : Value) (c : Cat) (h : RdC w v c) (hS : ShapeP c) (hbB : BxV w B 27 v) (D : Nat) (f : Int) (hbD : BxV w D 2 (.agg [.int .i64 f].toArray)) (f0 : 0 ≤ f) (f1 : f < c.s.length) (g0 : 0 ≤ g) (g1 : g < c.s.length) :
  Calls Try.prog 74 #[.int .i64 g, .pointer (some ⟨B, 0, none⟩), .pointer (some ⟨D, 0, none⟩)] w (RetI w (bef c f g)) := by
 have h0 := h
 obtain ⟨va, vb, vc, vd, ve, vf, vg, vh, rfl, h1, h2, h3, h4, _⟩ := h.lists
 have hA := arrP hS f0 f1
 have hB := arrP hS g0 g1
 have a3 := hA.fm; have a4 := hA.row; have b3 := hB.fm; have b4 := hB.row
 go_enter func74, Try.ntmps74
 refine gc_enter (N := 9) rfl (look_cons (k := 0) rfl (look_cons (k := 1) rfl (look_cons (k := 2) rfl (look_nil _)))) ?_
 refine gc_sr fun K1 hK1 => ?_
 refine gas ?_
 refine gnt (hK1 _ _ ?_)
 refine gc_sr fun K2 hK2 => ?_
 refine gv (qt_loadRS hbB rfl rfl underlying27 rfl (by kernel_rfl)) ?_
 refine gm ?_
 refine gv (qt_loadRB hbD rfl rfl underlying2 rfl rfl) ?_
 refine g_q (.free rfl) rfl rfl (qt_call rfl func30 rfl (by decide) rfl (fun w M => then_any w _ _ _ _ (mem_rdC M h0) (by first | assumption | omega) (by first | assumption | omega) (by first | assumption | omega) (by first | assumption | omega))) ?_
 refine gas ?_
 refine gnt (hK2 _ _ ?_)
 refine gc_ret ?_
 refine ret_1 rfl rfl  (fun w M => ?_)
 exact ⟨rfl, M.1⟩
theorem before_any (w : World) (W0 : World) (v : Value) (c : Cat) (f : Int) (h : RdC W0 v c) (hB : Below W0.heap.size W0 w) (hS : ShapeP c) (f0 : 0 ≤ f) (f1 : f < c.s.length) :
  Calls Try.prog 50 #[v, .int .i64 f] w (RetFv W0 w (SpI c.s.length (bef c f))) := by
 have h0 := h
 obtain ⟨va, vb, vc, vd, ve, vf, vg, vh, rfl, h1, h2, h3, h4, _⟩ := h.lists
 go_enter func50, Try.ntmps50
 refine gc_enter (N := 6) rfl (look_cons (k := 0) rfl (look_cons (k := 1) rfl (look_nil _))) ?_
 refine gc_sr fun K1 hK1 => ?_
 refine gop fun K3 hK3 => ?_
 refine go_box rfl rfl rfl rfl rfl ?_
 intro B2
 refine hK3 _ _ ?_
 refine gop fun K5 hK5 => ?_
 refine go_box rfl rfl rfl rfl rfl ?_
 intro B4
 refine hK5 _ _ ?_
 refine gas ?_
 refine gnt (hK1 _ _ ?_)
 refine gc_sr fun K6 hK6 => ?_
 refine gv (qt_makeF rfl rfl) ?_
 refine gas ?_
 refine gnt (hK6 _ _ ?_)
 refine gc_ret ?_
 refine ret_1 rfl rfl  (fun w M => ?_)
 exact ⟨_, rfl, fun w' hb hk => ⟨⟨_, _, _, rfl⟩, fun g g0 g1 => callsV_f (bnd := []) (vs := [_]) (caps := [_, _]) func74 rfl (by decide) (before1_any w' g _ _ c (rdC_below hb h0) hS (bxV_kept (n := 0) M rfl hk) _ f (bxV_kept (n := 1) M rfl hk) f0 f1 g0 g1)⟩, M.1⟩
theorem behind1_any (w : World) (g : Int) (B : Nat) (v : Value) (c : Cat) (h : RdC w v c) (hS : ShapeP c) (hbB : BxV w B 27 v) (D : Nat) (f : Int) (hbD : BxV w D 2 (.agg [.int .i64 f].toArray)) (f0 : 0 ≤ f) (f1 : f < c.s.length) (g0 : 0 ≤ g) (g1 : g < c.s.length) :
  Calls Try.prog 80 #[.int .i64 g, .pointer (some ⟨B, 0, none⟩), .pointer (some ⟨D, 0, none⟩)] w (RetI w (beh c f g)) := by
 have h0 := h
 obtain ⟨va, vb, vc, vd, ve, vf, vg, vh, rfl, h1, h2, h3, h4, _⟩ := h.lists
 have hA := arrP hS f0 f1
 have hB := arrP hS g0 g1
 have a3 := hA.fm; have a4 := hA.row; have b3 := hB.fm; have b4 := hB.row
 go_enter func80, Try.ntmps80
 refine gc_enter (N := 9) rfl (look_cons (k := 0) rfl (look_cons (k := 1) rfl (look_cons (k := 2) rfl (look_nil _)))) ?_
 refine gc_sr fun K1 hK1 => ?_
 refine gas ?_
 refine gnt (hK1 _ _ ?_)
 refine gc_sr fun K2 hK2 => ?_
 refine gv (qt_loadRS hbB rfl rfl underlying27 rfl (by kernel_rfl)) ?_
 refine gv (qt_loadRB hbD rfl rfl underlying2 rfl rfl) ?_
 refine gm ?_
 refine g_q (.free rfl) rfl rfl (qt_call rfl func30 rfl (by decide) rfl (fun w M => then_any w _ _ _ _ (mem_rdC M h0) (by first | assumption | omega) (by first | assumption | omega) (by first | assumption | omega) (by first | assumption | omega))) ?_
 refine gas ?_
 refine gnt (hK2 _ _ ?_)
 refine gc_ret ?_
 refine ret_1 rfl rfl  (fun w M => ?_)
 exact ⟨rfl, M.1⟩
theorem behind_any (w : World) (W0 : World) (v : Value) (c : Cat) (f : Int) (h : RdC W0 v c) (hB : Below W0.heap.size W0 w) (hS : ShapeP c) (f0 : 0 ≤ f) (f1 : f < c.s.length) :
  Calls Try.prog 59 #[v, .int .i64 f] w (RetFv W0 w (SpI c.s.length (beh c f))) := by
 have h0 := h
 obtain ⟨va, vb, vc, vd, ve, vf, vg, vh, rfl, h1, h2, h3, h4, _⟩ := h.lists
 go_enter func59, Try.ntmps59
 refine gc_enter (N := 6) rfl (look_cons (k := 0) rfl (look_cons (k := 1) rfl (look_nil _))) ?_
 refine gc_sr fun K1 hK1 => ?_
 refine gop fun K3 hK3 => ?_
 refine go_box rfl rfl rfl rfl rfl ?_
 intro B2
 refine hK3 _ _ ?_
 refine gop fun K5 hK5 => ?_
 refine go_box rfl rfl rfl rfl rfl ?_
 intro B4
 refine hK5 _ _ ?_
 refine gas ?_
 refine gnt (hK1 _ _ ?_)
 refine gc_sr fun K6 hK6 => ?_
 refine gv (qt_makeF rfl rfl) ?_
 refine gas ?_
 refine gnt (hK6 _ _ ?_)
 refine gc_ret ?_
 refine ret_1 rfl rfl  (fun w M => ?_)
 exact ⟨_, rfl, fun w' hb hk => ⟨⟨_, _, _, rfl⟩, fun g g0 g1 => callsV_f (bnd := []) (vs := [_]) (caps := [_, _]) func80 rfl (by decide) (behind1_any w' g _ _ c (rdC_below hb h0) hS (bxV_kept (n := 0) M rfl hk) _ f (bxV_kept (n := 1) M rfl hk) f0 f1 g0 g1)⟩, M.1⟩
theorem canc1_any (w : World) (u : Value) (φ : Int → Int) (m : Nat) (hu : ∀ w', Below w.heap.size w w' → SpI m φ w' u) (D E : Nat) (g k : Int) (hbD : BxV w D 2 (.agg [.int .i64 g].toArray)) (hbE : BxV w E 2 (.agg [.int .i64 k].toArray)) (g0 : 0 ≤ g) (g1 : g < m) (k0 : 0 ≤ k) (k1 : k < m) :
  Calls Try.prog 75 #[u, .pointer (some ⟨D, 0, none⟩), .pointer (some ⟨E, 0, none⟩)] w (RetB w (bP (φ g = -1 ∨ φ g ≠ φ k))) := by
 go_enter func75, Try.ntmps75
 refine gc_enter (N := 18) rfl (look_cons (k := 0) rfl (look_cons (k := 1) rfl (look_cons (k := 2) rfl (look_nil _)))) ?_
 refine gc_sr fun K1 hK1 => ?_
 refine gas ?_
 refine gnt (hK1 _ _ ?_)
 refine gc_seq fun K2 hK2 => ?_
 refine gc_draw (by kernel_rfl) ?_
 refine gdv (qt_move rfl rfl) ?_
 refine gdv (qt_loadRB hbD rfl rfl underlying2 rfl rfl) ?_
 refine gd_q (.free rfl) rfl rfl (qt_callV rfl rfl rfl (fun w M => (hu w M.1).2 _ (by assumption) (by assumption))) ?_
 refine gdv (qt_eql rfl rfl rfl) ?_
 refine gd_splitv (.free rfl) rfl rfl (qt_move rfl rfl) (fun hs1_4 => ?_) (fun hs1_4 => ?_)
 ·try simp only [sA] at hs1_4
  refine gdsk ?_
  refine gdsk ?_
  refine gdsk ?_
  refine gdsk ?_
  refine gdsk ?_
  refine gdsk ?_
  refine gdsk ?_
  refine gdv (qt_pick_t rfl rfl rfl) ?_
  refine gdv (qt_assign rfl rfl) ?_
  refine gd_nil ?_
  refine gk_then (hK2 _ _ ?_)
  refine gc_ret ?_
  refine ret_1 rfl rfl  (fun w M => ?_)
  rw [bP_t (.inl hs1_4)]; exact ⟨rfl, M.1⟩
 try simp only [sA] at hs1_4
 refine gdvh (qt_move rfl rfl) ?_
 refine gdvh (qt_loadRB hbD rfl rfl underlying2 rfl rfl) ?_
 refine gd_q (.held _ _ _ rfl rfl rfl) rfl rfl (qt_callV rfl rfl rfl (fun w M => (hu w M.1).2 _ (by assumption) (by assumption))) ?_
 refine gdvh (qt_move rfl rfl) ?_
 refine gdvh (qt_loadRB hbE rfl rfl underlying2 rfl rfl) ?_
 refine gd_q (.held _ _ _ rfl rfl rfl) rfl rfl (qt_callV rfl rfl rfl (fun w M => (hu w M.1).2 _ (by assumption) (by assumption))) ?_
 refine gdvh (qt_neq rfl rfl rfl) ?_
 refine gdv (qt_pick_f rfl rfl rfl) ?_
 refine gdv (qt_assign rfl rfl) ?_
 refine gd_nil ?_
 refine gk_then (hK2 _ _ ?_)
 refine gc_ret ?_
 refine ret_1 rfl rfl  (fun w M => ?_)
 rw [show bP (φ g = -1 ∨ φ g ≠ φ k) = decide (φ g ≠ φ k) from by rw [← bP_dec]; exact bP_congr ⟨fun h => h.resolve_left hs1_4, .inr⟩]; exact ⟨rfl, M.1⟩
theorem idxFunc_any (w : World) (u : Value) (us : List Value) (fv : Value) (p : Nat → Prop) (hu : RdV w u us) (hf : ∀ w', Below w.heap.size w w' → ∀ i, i < us.length → CallsV fv [us.getD i undef] w' (RetB w' (bP (p i)))) :
  Calls Try.prog 91 #[u, fv] w (RetI w (idxF p us.length)) := by
 have hul : us.length ≤ 17592186044415 := by obtain ⟨_, _, _, hl, _⟩ := hu; exact hl
 obtain ⟨ua, uc, rfl⟩ := rdV_form hu
 go_enter func91, Try.ntmps91
 refine gc_enter (N := 19) rfl (look_cons (k := 0) rfl (look_cons (k := 1) rfl (look_nil _))) ?_
 refine gc_sr fun K1 hK1 => ?_
 refine gas ?_
 refine gnt (hK1 _ _ ?_)
 refine gc_seq fun K2 hK2 => ?_
 refine gc_sr fun K3 hK3 => ?_
 refine gm ?_
 refine gv (qt_len rfl rfl ulEV (fun w M => lenV_V (mem_rdV M hu))) ?_
 refine gm ?_
 refine gnt (hK3 _ _ ?_)
 refine gc_block ?_
 try simp only [sL]
 refine gc_loopT ([(0, _), (1, _), (7, _)] : Env) (fun s : Nat => (fun (k : Nat) => (([(8, .int .i64 (k : Int))] : Env), ([] : List (Nat × Itm)), k ≤ us.length ∧ ∀ j : Nat, j < k → ¬ p j, us.length - k)) s) (0) (by repeat first | exact sub_nil | refine sub_cons rfl ?_) rfl ⟨Nat.zero_le _, fun j hj => absurd hj (by omega)⟩ ?_
 rintro k hinv KL4 hKL4
 simp only [sU, sL] at hinv hKL4 ⊢
 obtain ⟨hk, hno⟩ := hinv
 refine gc_sr fun K5 hK5 => ?_
 refine gv (qt_lss rfl rfl rfl) ?_
 refine gnt (hK5 _ _ ?_)
 refine gc_seq fun K6 hK6 => ?_
 refine gc_cond rfl (fun hc0 => ?_) (fun hc0 => ?_)
 ·try simp only [sA] at hc0
  refine gc_skip ?_
  refine gk_then (hK6 _ _ ?_)
  refine gc_seq fun K7 hK7 => ?_
  refine gc_block ?_
  refine gc_sr fun K8 hK8 => ?_
  refine gm ?_
  refine gas ?_
  refine gnt (hK8 _ _ ?_)
  refine gc_sr fun K9 hK9 => ?_
  refine gm ?_
  refine gm ?_
  refine gm ?_
  refine gv (qt_index rfl rfl rfl ulEV szEV (fun w M => lenA_V (mem_rdV M hu)) (by omega) (by omega)) ?_
  refine gv (qt_loadV rfl rfl underlying77 rfl (fun w M => mem_rdV M hu) (by omega) (by omega)) ?_
  refine g_q (.free rfl) rfl rfl (qt_callV rfl rfl rfl (fun w M => hf w M.1 k (by omega))) ?_
  refine gnt (hK9 _ _ ?_)
  refine gc_cond rfl (fun hc1 => ?_) (fun hc1 => ?_)
  ·try simp only [sA] at hc1
   refine gc_sr fun K10 hK10 => ?_
   refine gm ?_
   refine gas ?_
   refine gnt (hK10 _ _ ?_)
   refine gc_ret ?_
   refine gk_block_ret ?_
   refine gk_then_ret ?_
   refine gk_then_ret ?_
   refine gk_block_ret ?_
   refine gk_then_ret ?_
   refine ret_1 rfl rfl  (fun w M => ?_)
   rw [idxF_t (by omega) (bP_t' hc1) hno]; exact ⟨rfl, M.1⟩
  try simp only [sA] at hc1
  refine gc_skip ?_
  refine gk_block ?_
  refine gk_then (hK7 _ _ ?_)
  refine gc_region ?_
  refine gv (qt_add rfl rfl rfl (by omega)) ?_
  refine gm ?_
  refine g_nil ?_
  refine gk_then (gk_take 0 ?_)
  refine gk_sub ?hs_11 (hKL4 (k + 1) ?hi_11 ?hm_11)
  case hs_11 => repeat first | exact sub_nil | refine sub_cons rfl ?_
  case hi_11 => exact ⟨by omega, all_next hno (bP_f' hc1)⟩
  case hm_11 => omega
 try simp only [sA] at hc0
 refine gc_exit ?_
 refine gk_then_exit ?_
 refine gk_then_exit ?_
 refine gk_block_hit ?_
 refine gk_then (hK2 _ _ ?_)
 refine gc_sr fun K12 hK12 => ?_
 refine gas ?_
 refine gnt (hK12 _ _ ?_)
 refine gc_ret ?_
 refine ret_1 rfl rfl  (fun w M => ?_)
 rw [idxF_f fun j hj => hno j (by omega)]; exact ⟨rfl, M.1⟩
theorem conFunc_any (w : World) (u : Value) (us : List Value) (fv : Value) (p : Nat → Prop) (hu : RdV w u us) (hf : ∀ w', Below w.heap.size w w' → ∀ i, i < us.length → CallsV fv [us.getD i undef] w' (RetB w' (bP (p i)))) :
  Calls Try.prog 76 #[u, fv] w (RetB w (bP (∃ i, i < us.length ∧ p i))) := by
 go_enter func76, Try.ntmps76
 refine gc_enter (N := 9) rfl (look_cons (k := 0) rfl (look_cons (k := 1) rfl (look_nil _))) ?_
 refine gc_sr fun K1 hK1 => ?_
 refine gas ?_
 refine gnt (hK1 _ _ ?_)
 refine gc_sr fun K2 hK2 => ?_
 refine gm ?_
 refine gm ?_
 refine g_q (.free rfl) rfl rfl (qt_call rfl func91 rfl (by decide) rfl (fun w M => idxFunc_any w _ (us) _ (p) (mem_rdV M hu) (fun w' hb i hi => hf w' (M.1.trans (hb.mono M.1.size)) i hi))) ?_
 refine gv (qt_geq rfl rfl rfl) ?_
 refine gas ?_
 refine gnt (hK2 _ _ ?_)
 refine gc_ret ?_
 refine ret_1 rfl rfl  (fun w M => ?_)
 rw [idxF_ex]; exact ⟨rfl, M.1⟩
def cancTo (fs : List (Int → Int)) (k l : Nat) : Prop := ∀ g h : Nat, (g < k ∨ g = k ∧ h < l) → h < g → ∃ φ ∈ fs, φ g = -1 ∨ φ g ≠ φ h
theorem cancTo_row {fs : List (Int → Int)} {k : Nat} (h : cancTo fs k k) : cancTo fs (k + 1) 0 := fun g x h1 h2 => h g x (by omega) h2
theorem cancTo_next {fs : List (Int → Int)} {k l : Nat} (h : cancTo fs k l) (hn : ∃ φ ∈ fs, φ k = -1 ∨ φ k ≠ φ l) : cancTo fs k (l + 1) := fun g x h1 h2 => by
 by_cases he : g = k ∧ x = l
 ·obtain ⟨rfl, rfl⟩ := he; exact hn
 exact h g x (by omega) h2
theorem canc_end {fs : List (Int → Int)} {m : Nat} (h : cancTo fs m 0) : cancP fs m := fun g x h1 h2 => h g x (by omega) h1
theorem ex_at {fs : List (Int → Int)} {P : (Int → Int) → Prop} : (∃ i, i < fs.length ∧ P (fs.getD i id)) ↔ ∃ φ ∈ fs, P φ := by
 constructor
 ·rintro ⟨i, hi, hp⟩
  rw [List.getD_eq_getElem?_getD, List.getElem?_eq_getElem hi] at hp
  exact ⟨_, List.getElem_mem hi, hp⟩
 rintro ⟨φ, hm, hp⟩
 obtain ⟨i, hi, rfl⟩ := List.getElem_of_mem hm
 exact ⟨i, hi, by rw [List.getD_eq_getElem?_getD, List.getElem?_eq_getElem hi]; exact hp⟩
theorem isCancelled_any (w : World) (v : Value) (c : Cat) (u : Value) (us : List Value) (fs : List (Int → Int)) (h : RdC w v c) (hn40 : c.s.length ≤ 40) (hu : RdV w u us) (hl : us.length = fs.length) (hf : ∀ w', Below w.heap.size w w' → ∀ i, i < us.length → SpI c.s.length (fs.getD i id) w' (us.getD i undef)) :
  Calls Try.prog 53 #[v, u] w (RetB w (bP (cancP fs c.s.length))) := by
 have h0 := h
 obtain ⟨va, vb, vc, vd, ve, vf, vg, vh, rfl, h1, h2, h3, h4, _⟩ := h.lists
 go_enter func53, Try.ntmps53
 refine gc_enter (N := 24) rfl (look_cons (k := 0) rfl (look_cons (k := 1) rfl (look_nil _))) ?_
 refine gc_sr fun K1 hK1 => ?_
 refine gop fun K3 hK3 => ?_
 refine go_box rfl rfl rfl rfl rfl ?_
 intro B2
 refine hK3 _ _ ?_
 refine gas ?_
 refine gnt (hK1 _ _ ?_)
 refine gc_seq fun K4 hK4 => ?_
 refine gc_sr fun K5 hK5 => ?_
 refine gv (qts underlying27 (n := 0)) ?_
 refine g_q (.free rfl) rfl rfl (qt_call rfl func31 rfl (by decide) rfl (fun w M => arrows_any w _ _ (mem_rdC M h0))) ?_
 refine gm ?_
 refine gnt (hK5 _ _ ?_)
 refine gc_block ?_
 try simp only [sL]
 refine gc_loopT ([(0, _), (1, _), (2, _), (9, _)] : Env) (fun s : Nat => (fun (k : Nat) => (([(10, .int .i64 (k : Int))] : Env), ([] : List (Nat × Itm)), k ≤ c.s.length ∧ cancTo fs k 0, c.s.length - k)) s) (0) (by repeat first | exact sub_nil | refine sub_cons rfl ?_) rfl ⟨Nat.zero_le _, fun g x h1 => absurd h1 (by omega)⟩ ?_
 rintro k hinv KL6 hKL6
 simp only [sU, sL] at hinv hKL6 ⊢
 obtain ⟨hk, hno⟩ := hinv
 refine gc_sr fun K7 hK7 => ?_
 refine gv (qt_lss rfl rfl rfl) ?_
 refine gnt (hK7 _ _ ?_)
 refine gc_seq fun K8 hK8 => ?_
 refine gc_cond rfl (fun hc0 => ?_) (fun hc0 => ?_)
 ·try simp only [sA] at hc0
  refine gc_skip ?_
  refine gk_then (hK8 _ _ ?_)
  refine gc_seq fun K9 hK9 => ?_
  refine gc_block ?_
  refine gc_sr fun K10 hK10 => ?_
  refine gm ?_
  refine gop fun K12 hK12 => ?_
  refine go_alloc (z := (.int .i64 0)) (cs := [.int .i64 0]) rfl rfl rfl (fun w => by kernel_rfl) rfl ?_
  intro B11
  refine hK12 _ _ ?_
  refine gop fun K13 hK13 => ?_
  refine go_storeB (n := 1) rfl rfl rfl rfl (by kernel_rfl) rfl rfl rfl (by first | decide | simp) ?_
  refine hK13 _ _ ?_
  refine gnt (hK10 _ _ ?_)
  refine gc_sr fun K14 hK14 => ?_
  refine gv (qtl underlying2 (n := 1)) ?_
  refine gm ?_
  refine gnt (hK14 _ _ ?_)
  refine gc_block ?_
  try simp only [sL]
  refine gc_loopT ([(0, _), (1, _), (2, _), (5, _), (9, _), (10, _), (11, _), (13, _)] : Env) (fun s : Nat => (fun (l : Nat) => (([(14, .int .i64 (l : Int))] : Env), ([] : List (Nat × Itm)), l ≤ k ∧ cancTo fs k l, k - l)) s) (0) (by repeat first | exact sub_nil | refine sub_cons rfl ?_) rfl ⟨Nat.zero_le _, hno⟩ ?_
  rintro l hinv KL15 hKL15
  simp only [sU, sL] at hinv hKL15 ⊢
  obtain ⟨hl1, hno1⟩ := hinv
  refine gc_sr fun K16 hK16 => ?_
  refine gv (qt_lss rfl rfl rfl) ?_
  refine gnt (hK16 _ _ ?_)
  refine gc_seq fun K17 hK17 => ?_
  refine gc_cond rfl (fun hc1 => ?_) (fun hc1 => ?_)
  ·try simp only [sA] at hc1
   refine gc_skip ?_
   refine gk_then (hK17 _ _ ?_)
   refine gc_seq fun K18 hK18 => ?_
   refine gc_block ?_
   refine gc_sr fun K19 hK19 => ?_
   refine gm ?_
   refine gop fun K21 hK21 => ?_
   refine go_alloc (z := (.int .i64 0)) (cs := [.int .i64 0]) rfl rfl rfl (fun w => by kernel_rfl) rfl ?_
   intro B20
   refine hK21 _ _ ?_
   refine gop fun K22 hK22 => ?_
   refine go_storeB (n := 2) rfl rfl rfl rfl (by kernel_rfl) rfl rfl rfl (by first | decide | simp) ?_
   refine hK22 _ _ ?_
   refine gnt (hK19 _ _ ?_)
   refine gc_sr fun K23 hK23 => ?_
   refine gv (qt_makeF rfl rfl) ?_
   refine gas ?_
   refine gnt (hK23 _ _ ?_)
   refine gc_sr fun K24 hK24 => ?_
   refine gm ?_
   refine gm ?_
   refine g_q (.free rfl) rfl rfl (qt_call rfl func76 rfl (by decide) rfl (fun w M => conFunc_any w _ (us) _ (fun i => (fs.getD i id) (k : Int) = -1 ∨ (fs.getD i id) (k : Int) ≠ (fs.getD i id) (l : Int)) (mem_rdV M hu) (fun w' hb i hi => callsV_f (bnd := []) (vs := [_]) (caps := [_, _]) func75 rfl (by decide) (canc1_any w' _ (fs.getD i id) c.s.length (fun w'' hb' => hf w'' ((M.1.trans (hb.mono M.1.size)).trans (hb'.mono (Nat.le_trans M.1.size hb.size))) i hi) _ _ (k : Int) (l : Int) (bxV_below hb (bxV_of (n := 1) M rfl)) (bxV_below hb (bxV_of (n := 2) M rfl)) (by omega) (by omega) (by omega) (by omega))))) ?_
   refine gv (qt_not rfl rfl) ?_
   refine gnt (hK24 _ _ ?_)
   refine gc_cond rfl (fun hc2 => ?_) (fun hc2 => ?_)
   ·try simp only [sA] at hc2
    refine gc_sr fun K25 hK25 => ?_
    refine gas ?_
    refine gnt (hK25 _ _ ?_)
    refine gc_ret ?_
    refine gk_block_ret ?_
    refine gk_then_ret ?_
    refine gk_then_ret ?_
    refine gk_block_ret ?_
    refine gk_block_ret ?_
    refine gk_then_ret ?_
    refine gk_then_ret ?_
    refine gk_block_ret ?_
    refine gk_then_ret ?_
    refine ret_1 rfl rfl  (fun w M => ?_)
    rw [bP_f (fun hc : cancP fs c.s.length => bP_f' hc2 (hl ▸ (ex_at (fs := fs) (P := fun φ => φ (k : Int) = -1 ∨ φ (k : Int) ≠ φ (l : Int))).2 (hc k l (by omega) (by omega))))]; exact ⟨rfl, M.1⟩
   try simp only [sA] at hc2
   refine gc_skip ?_
   refine gk_block ?_
   refine gk_then (hK18 _ _ ?_)
   refine gc_region ?_
   refine gv (qt_add rfl rfl rfl (by omega)) ?_
   refine gm ?_
   refine g_nil ?_
   refine gk_then (gk_take 2 ?_)
   refine gk_sub ?hs_26 (hKL15 (l + 1) ?hi_26 ?hm_26)
   case hs_26 => repeat first | exact sub_nil | refine sub_cons rfl ?_
   case hi_26 => exact ⟨by omega, cancTo_next hno1 ((ex_at (fs := fs) (P := fun φ => φ (k : Int) = -1 ∨ φ (k : Int) ≠ φ (l : Int))).1 (hl ▸ bP_t' hc2))⟩
   case hm_26 => omega
  try simp only [sA] at hc1
  refine gc_exit ?_
  refine gk_then_exit ?_
  refine gk_then_exit ?_
  refine gk_block_hit ?_
  refine gk_block ?_
  refine gk_then (hK9 _ _ ?_)
  refine gc_region ?_
  refine gv (qt_add rfl rfl rfl (by omega)) ?_
  refine gm ?_
  refine g_nil ?_
  obtain rfl : k = l := by omega
  refine gk_then (gk_take 1 ?_)
  refine gk_sub ?hs_27 (hKL6 (k + 1) ?hi_27 ?hm_27)
  case hs_27 => repeat first | exact sub_nil | refine sub_cons rfl ?_
  case hi_27 => exact ⟨by omega, cancTo_row hno1⟩
  case hm_27 => omega
 try simp only [sA] at hc0
 refine gc_exit ?_
 refine gk_then_exit ?_
 refine gk_then_exit ?_
 refine gk_block_hit ?_
 refine gk_then (hK4 _ _ ?_)
 refine gc_sr fun K28 hK28 => ?_
 refine gas ?_
 refine gnt (hK28 _ _ ?_)
 refine gc_ret ?_
 refine ret_1 rfl rfl  (fun w M => ?_)
 obtain rfl : k = c.s.length := by omega
 rw [bP_t (canc_end hno)]; exact ⟨rfl, M.1⟩
theorem isMono_any (w : World) (v : Value) (c : Cat) (f : Int) (h : RdC w v c) (hS : ShapeP c) (f0 : 0 ≤ f) (f1 : f < c.s.length) :
  Calls Try.prog 24 #[v, .int .i64 f] w (RetB w (bP (monoP c f))) := by
 have h0 := h
 obtain ⟨va, vb, vc, vd, ve, vf, vg, vh, rfl, h1, h2, h3, h4, _⟩ := h.lists
 have hn40 := hS.n40
 go_enter func24, Try.ntmps24
 refine gc_enter (N := 11) rfl (look_cons (k := 0) rfl (look_cons (k := 1) rfl (look_nil _))) ?_
 refine gc_sr fun K1 hK1 => ?_
 refine gop fun K3 hK3 => ?_
 refine go_box rfl rfl rfl rfl rfl ?_
 intro B2
 refine hK3 _ _ ?_
 refine gas ?_
 refine gnt (hK1 _ _ ?_)
 refine gc_seq fun K4 hK4 => ?_
 try simp only [sL]
 refine ga_start _ (fun w M => M) ?_
 refine gav 0 rfl (qts underlying27 (n := 0)) ?_
 refine gav 1 rfl (qts underlying27 (n := 0)) ?_
 refine gav 2 rfl (qt_move rfl rfl) ?_
 refine gao 3 fun K6 hK6 => ?_
 refine go_callFv rfl rfl rfl func50 rfl (by decide) rfl (fun w M => before_any w (_) _ _ _ (h0) (M.1) (by first | assumption | omega) (by first | assumption | omega) (by first | assumption | omega)) ?_
 intro fv5
 refine hK6 _ _ (fun w M => (mem_take 1 M :)) ?_
 refine gao 4 fun K8 hK8 => ?_
 refine go_sliceV1 rfl rfl rfl rfl ulSV (fun w M => (mem_fv0 (n := 1) M rfl).1.cells) ?_
 intro B7
 refine hK8 _ _ (fun w M => (mem_take 1 M :)) ?_
 refine gao 5 fun K9 hK9 => ?_
 refine go_q rfl rfl (qt_call rfl func53 rfl (by decide) rfl (fun w M => isCancelled_any w _ _ _ (_) ([bef c f]) (mem_rdC M h0) (by first | assumption | omega) (rdV_bx (mem_bx (n := 2) M rfl)) (rfl) (fun w' hb i hi => by
   have e : i = 0 := by simpa using hi
   subst e; exact mem_fv (n := 1) M rfl hb))) ?_
 refine hK9 _ _ (fun w M => (mem_take 1 M :)) ?_
 refine gav 6 rfl (qt_assign rfl rfl) ?_
 refine ga_done (by kernel_rfl) ?_
 refine gk_then (hK4 _ _ ?_)
 refine gc_ret ?_
 refine ret_1 rfl rfl  (fun w M => ?_)
 exact ⟨rfl, M.1⟩
theorem isEpi_any (w : World) (v : Value) (c : Cat) (f : Int) (h : RdC w v c) (hS : ShapeP c) (f0 : 0 ≤ f) (f1 : f < c.s.length) :
  Calls Try.prog 34 #[v, .int .i64 f] w (RetB w (bP (epiP c f))) := by
 have h0 := h
 obtain ⟨va, vb, vc, vd, ve, vf, vg, vh, rfl, h1, h2, h3, h4, _⟩ := h.lists
 have hn40 := hS.n40
 go_enter func34, Try.ntmps34
 refine gc_enter (N := 11) rfl (look_cons (k := 0) rfl (look_cons (k := 1) rfl (look_nil _))) ?_
 refine gc_sr fun K1 hK1 => ?_
 refine gop fun K3 hK3 => ?_
 refine go_box rfl rfl rfl rfl rfl ?_
 intro B2
 refine hK3 _ _ ?_
 refine gas ?_
 refine gnt (hK1 _ _ ?_)
 refine gc_seq fun K4 hK4 => ?_
 try simp only [sL]
 refine ga_start _ (fun w M => M) ?_
 refine gav 0 rfl (qts underlying27 (n := 0)) ?_
 refine gav 1 rfl (qts underlying27 (n := 0)) ?_
 refine gav 2 rfl (qt_move rfl rfl) ?_
 refine gao 3 fun K6 hK6 => ?_
 refine go_callFv rfl rfl rfl func59 rfl (by decide) rfl (fun w M => behind_any w (_) _ _ _ (h0) (M.1) (by first | assumption | omega) (by first | assumption | omega) (by first | assumption | omega)) ?_
 intro fv5
 refine hK6 _ _ (fun w M => (mem_take 1 M :)) ?_
 refine gao 4 fun K8 hK8 => ?_
 refine go_sliceV1 rfl rfl rfl rfl ulSV (fun w M => (mem_fv0 (n := 1) M rfl).1.cells) ?_
 intro B7
 refine hK8 _ _ (fun w M => (mem_take 1 M :)) ?_
 refine gao 5 fun K9 hK9 => ?_
 refine go_q rfl rfl (qt_call rfl func53 rfl (by decide) rfl (fun w M => isCancelled_any w _ _ _ (_) ([beh c f]) (mem_rdC M h0) (by first | assumption | omega) (rdV_bx (mem_bx (n := 2) M rfl)) (rfl) (fun w' hb i hi => by
   have e : i = 0 := by simpa using hi
   subst e; exact mem_fv (n := 1) M rfl hb))) ?_
 refine hK9 _ _ (fun w M => (mem_take 1 M :)) ?_
 refine gav 6 rfl (qt_assign rfl rfl) ?_
 refine ga_done (by kernel_rfl) ?_
 refine gk_then (hK4 _ _ ?_)
 refine gc_ret ?_
 refine ret_1 rfl rfl  (fun w M => ?_)
 exact ⟨rfl, M.1⟩
theorem solutions_any (w : World) (v : Value) (c : Cat) (u : Value) (φ : Int → Int) (x : Int) (h : RdC w v c) (hn40 : c.s.length ≤ 40) (hu : ∀ w', Below w.heap.size w w' → SpI c.s.length φ w' u) :
  Calls Try.prog 49 #[v, u, .int .i64 x] w (RetL w (solL φ x c.s.length)) := by
 have h0 := h
 obtain ⟨va, vb, vc, vd, ve, vf, vg, vh, rfl, h1, h2, h3, h4, _⟩ := h.lists
 go_enter func49, Try.ntmps49
 refine gc_enter (N := 25) rfl (look_cons (k := 0) rfl (look_cons (k := 1) rfl (look_cons (k := 2) rfl (look_nil _)))) ?_
 refine gc_sr fun K1 hK1 => ?_
 refine gop fun K3 hK3 => ?_
 refine go_box rfl rfl rfl rfl rfl ?_
 intro B2
 refine hK3 _ _ ?_
 refine gas ?_
 refine gnt (hK1 _ _ ?_)
 refine gc_sr fun K4 hK4 => ?_
 refine gas ?_
 refine gnt (hK4 _ _ ?_)
 refine gc_seq fun K5 hK5 => ?_
 refine gc_seq fun K6 hK6 => ?_
 refine gc_nilS ?_
 refine gc_region ?_
 refine gv (qts underlying27 (n := 0)) ?_
 refine g_q (.free rfl) rfl rfl (qt_call rfl func31 rfl (by decide) rfl (fun w M => arrows_any w _ _ (mem_rdC M h0))) ?_
 refine gm ?_
 refine gnt (hK6 _ _ ?_)
 refine gc_block ?_
 try simp only [sL]
 refine gc_loopT ([(0, _), (1, _), (2, _), (3, _), (6, _), (10, _)] : Env) (fun s : Nat × (Option Addr) × Nat => (fun (k : Nat) (a : Option Addr) (q : Nat) => (([(7, .slice a (solL φ x k).length q), (11, .int .i64 (k : Int))] : Env), ([(1, own1I (.slice a (solL φ x k).length q) (solL φ x k))] : List (Nat × Itm)), k ≤ c.s.length, c.s.length - k)) s.1 s.2.1 s.2.2) (0, _, _) (by repeat first | exact sub_nil | refine sub_cons rfl ?_) rfl (Nat.zero_le _) ?_
 rintro ⟨k, a, q⟩ hinv KL7 hKL7
 simp only [sU, sL] at hinv hKL7 ⊢
 have hk := hinv
 have hl := sol_len φ x k
 refine gc_sr fun K8 hK8 => ?_
 refine gv (qt_lss rfl rfl rfl) ?_
 refine gnt (hK8 _ _ ?_)
 refine gc_seq fun K9 hK9 => ?_
 refine gc_cond rfl (fun hc0 => ?_) (fun hc0 => ?_)
 ·try simp only [sA] at hc0
  refine gc_skip ?_
  refine gk_then (hK9 _ _ ?_)
  refine gc_seq fun K10 hK10 => ?_
  refine gc_block ?_
  refine gc_sr fun K11 hK11 => ?_
  refine gm ?_
  refine gas ?_
  refine gnt (hK11 _ _ ?_)
  refine gc_sr fun K12 hK12 => ?_
  refine gm ?_
  refine gm ?_
  refine g_q (.free rfl) rfl rfl (qt_callV rfl rfl rfl (fun w M => (hu w M.1).2 (k : Int) (by omega) (by omega))) ?_
  refine gm ?_
  refine gv (qt_eql rfl rfl rfl) ?_
  refine gnt (hK12 _ _ ?_)
  refine gc_cond rfl (fun hc1 => ?_) (fun hc1 => ?_)
  ·try simp only [sA] at hc1
   refine gc_region ?_
   refine gm ?_
   refine gm ?_
   refine gop fun K14 hK14 => ?_
   refine go_slice1 rfl rfl rfl rfl underlying24 ?_
   intro B13
   refine hK14 _ _ ?_
   refine gop fun K16 hK16 => ?_
   refine go_append (n := 1) (m := 2) rfl rfl rfl underlying24 rfl rfl rfl rfl (by omega) ?_
   intro va15 vc15
   refine hK16 _ _ ?_
   refine gas ?_
   refine g_nil ?_
   refine gk_block ?_
   refine gk_then (hK10 _ _ ?_)
   refine gc_region ?_
   refine gv (qt_add rfl rfl rfl (by omega)) ?_
   refine gm ?_
   refine g_nil ?_
   rw [sol_t hc1]
   refine gk_then (gk_take 2 ?_)
   refine gk_sub ?hs_17 (hKL7 (k + 1, _, _) ?hi_17 ?hm_17)
   case hs_17 => repeat first | exact sub_nil | refine sub_cons rfl ?_
   case hi_17 => omega
   case hm_17 => omega
  try simp only [sA] at hc1
  refine gc_skip ?_
  refine gk_block ?_
  refine gk_then (hK10 _ _ ?_)
  refine gc_region ?_
  refine gv (qt_add rfl rfl rfl (by omega)) ?_
  refine gm ?_
  refine g_nil ?_
  rw [sol_f hc1]
  refine gk_then (gk_take 2 ?_)
  refine gk_sub ?hs_18 (hKL7 (k + 1, _, _) ?hi_18 ?hm_18)
  case hs_18 => repeat first | exact sub_nil | refine sub_cons rfl ?_
  case hi_18 => omega
  case hm_18 => omega
 try simp only [sA] at hc0
 refine gc_exit ?_
 refine gk_then_exit ?_
 refine gk_then_exit ?_
 refine gk_block_hit ?_
 refine gk_then (hK5 _ _ ?_)
 refine gc_sr fun K19 hK19 => ?_
 refine gm ?_
 refine gas ?_
 refine gnt (hK19 _ _ ?_)
 refine gc_ret ?_
 refine ret_1 rfl rfl  (fun w M => ?_)
 obtain rfl : k = c.s.length := by omega
 exact ⟨_, rfl, mem_own1 (n := 1) M rfl, M.1⟩
end Go.Proofs.Ytbiplocgenppoaa
namespace Go.Proofs.Ytbiplocgenppoaa
open _root_.Go.Proofs.Try
open Go.RowKit
theorem addR_cases (r : Int → Int → Prop) (out : List (List Int)) (m : Int) : (∃ i, i < out.length ∧ mutR r m (row2 out (i : Int)) ∧ addR r out m = out.set i (row2 out (i : Int) ++ [m])) ∨ addR r out m = out ++ [[m]] := by
  by_cases hx : ∃ i, i < out.length ∧ mutR r m (row2 out (i : Int)) ∧ ∀ j : Nat, j < i → ¬ mutR r m (row2 out (j : Int))
  · obtain ⟨i, hi, h1, h2⟩ := hx
    exact .inl ⟨i, hi, h1, addR_old hi h1 h2⟩
  refine .inr (addR_new fun j hj hm => ?_)
  have := leastN_spec (p := fun j => j < out.length ∧ mutR r m (row2 out (j : Int))) ⟨hj, hm⟩
  refine hx ⟨_, this.1.1, this.1.2, fun i hi hc => ?_⟩
  have := (leastN_spec (p := fun j => j < out.length ∧ mutR r m (row2 out (j : Int))) (n := i) ⟨by have := this.1.1; omega, hc⟩).2
  omega
def totR (rows : List (List Int)) : Nat := (rows.map List.length).sum
theorem totR_app (rows : List (List Int)) (l : List Int) : totR (rows ++ [l]) = totR rows + l.length := by simp [totR]
theorem totR_set : ∀ (rows : List (List Int)) (i : Nat) (m : Int), i < rows.length → totR (rows.set i (row2 rows (i : Int) ++ [m])) = totR rows + 1
  | [], i, m, h => by simp at h
  | l :: rows, 0, m, _ => by
    rw [List.set_cons_zero, show row2 (l :: rows) ((0 : Nat) : Int) = l from rfl]
    simp only [totR, List.map_cons, List.sum_cons, List.length_append, List.length_singleton]; omega
  | l :: rows, i + 1, m, h => by
    have ih := totR_set rows i m (by simpa using h)
    rw [List.set_cons_succ, show row2 (l :: rows) ((i + 1 : Nat) : Int) = row2 rows (i : Int) from by simp [row2]]
    simp only [totR, List.map_cons, List.sum_cons] at ih ⊢; omega
theorem offR_tot (rows : List (List Int)) : ∀ k, k ≤ rows.length → offR rows k = totR (rows.take k) := by
  intro k
  induction k with
  | zero => intro _; rfl
  | succ k ih =>
    intro hk
    rw [List.take_succ_eq_append_getElem (show k < rows.length by omega), totR_app, ← ih (by omega)]
    show offR rows k + (rows.getD k []).length = _
    rw [List.getD_eq_getElem?_getD, List.getElem?_eq_getElem (show k < rows.length by omega)]; rfl
theorem offR_all (rows : List (List Int)) : offR rows rows.length = totR rows := by rw [offR_tot rows _ (Nat.le_refl _), List.take_length]
theorem at0_snoc {l : List Int} {m : Int} {k : Nat} (h : k < (l ++ [m]).length) : (k < l.length ∧ at0 (l ++ [m]) (k : Int) = at0 l (k : Int)) ∨ at0 (l ++ [m]) (k : Int) = m := by
  rw [List.length_append, List.length_singleton] at h
  rw [at0_nat, at0_nat, List.getD_eq_getElem?_getD, List.getD_eq_getElem?_getD]
  rcases Nat.lt_or_ge k l.length with h1 | h1
  · exact .inl ⟨h1, by rw [List.getElem?_append_left h1]⟩
  refine .inr ?_
  rw [List.getElem?_append_right h1, show k - l.length = 0 by omega]; rfl
structure SubI (r : Int → Int → Prop) (xs : List Int) (out : List (List Int)) : Prop where
  ne : ∀ i : Nat, i < out.length → row2 out (i : Int) ≠ []
  mem : ∀ i : Nat, i < out.length → ∀ y ∈ row2 out (i : Int), y ∈ xs
  mu : ∀ i : Nat, i < out.length → ∀ k : Nat, 1 ≤ k → k < (row2 out (i : Int)).length → mutR r (at0 (row2 out (i : Int)) (k : Int)) (row2 out (i : Int))
  tot : totR out = xs.length
theorem sub_add {r : Int → Int → Prop} {xs : List Int} {out : List (List Int)} {m : Int} (h : SubI r xs out) : SubI r (xs ++ [m]) (addR r out m) := by
  rcases addR_cases r out m with ⟨i, hi, h1, e⟩ | e
  · rw [e]
    refine ⟨fun j hj => ?_, fun j hj => ?_, fun j hj k hk1 hk => ?_, by rw [totR_set _ _ _ hi, h.tot, List.length_append, List.length_singleton]⟩
    · rw [row2_set hi]; split
      · simp
      exact h.ne j (by simpa using hj)
    · rw [row2_set hi]; split
      · intro y hy
        rcases List.mem_append.1 hy with hy | hy
        · exact List.mem_append_left _ (h.mem i hi y hy)
        exact List.mem_append_right _ hy
      exact fun y hy => List.mem_append_left _ (h.mem j (by simpa using hj) y hy)
    rw [row2_set hi] at hk ⊢
    by_cases e2 : i = j
    · rw [if_pos e2] at hk ⊢
      have hd := at0_head (m := m) (h.ne i hi)
      unfold mutR; rw [hd]
      rcases at0_snoc hk with ⟨h2, h3⟩ | h3
      · rw [h3]; exact h.mu i hi k hk1 h2
      rw [h3]; exact h1
    rw [if_neg e2] at hk ⊢
    exact h.mu j (by simpa using hj) k hk1 hk
  rw [e]
  refine ⟨fun j hj => ?_, fun j hj => ?_, fun j hj k hk1 hk => ?_, by rw [totR_app, h.tot, List.length_append]⟩
  · rcases Nat.lt_or_ge j out.length with h1 | h1
    · rw [row2_app h1]; exact h.ne j h1
    obtain rfl : j = out.length := by simp at hj; omega
    rw [row2_new]; simp
  · rcases Nat.lt_or_ge j out.length with h1 | h1
    · rw [row2_app h1]; exact fun y hy => List.mem_append_left _ (h.mem j h1 y hy)
    obtain rfl : j = out.length := by simp at hj; omega
    rw [row2_new]; exact fun y hy => List.mem_append_right _ hy
  rcases Nat.lt_or_ge j out.length with h1 | h1
  · rw [row2_app h1] at hk ⊢; exact h.mu j h1 k hk1 hk
  obtain rfl : j = out.length := by simp at hj; omega
  rw [row2_new] at hk
  simp at hk; omega
theorem sub_cls (r : Int → Int → Prop) (xs : List Int) : SubI r xs (clsR r xs) := by
  have key : ∀ k, k ≤ xs.length → SubI r (xs.take k) (clsR r (xs.take k)) := by
    intro k
    induction k with
    | zero => intro _; exact ⟨fun i h => absurd h (by simp [clsR]), fun i h => absurd h (by simp [clsR]), fun i h => absurd h (by simp [clsR]), rfl⟩
    | succ k ih =>
      intro hk
      rw [List.take_succ_eq_append_getElem (show k < xs.length by omega), clsR_app]
      exact sub_add (ih (by omega))
  have := key xs.length (Nat.le_refl _)
  rwa [List.take_length] at this
theorem epi_iff {c : Cat} {f : Int} : epiP c f ↔ ∀ g h : Nat, g < c.s.length → h < c.s.length → c.th f (g : Int) ≠ -1 → c.th f (g : Int) = c.th f (h : Int) → g = h := by
  have key : epiP c f ↔ ∀ g h : Nat, h < g → g < c.s.length → c.th f (g : Int) = -1 ∨ c.th f (g : Int) ≠ c.th f (h : Int) := by
    unfold epiP cancP
    refine ⟨fun hm g h hg hn => ?_, fun hm g h hg hn => ⟨beh c f, List.mem_singleton.2 rfl, hm g h hg hn⟩⟩
    obtain ⟨φ, hφ, hq⟩ := hm g h hg hn
    rw [List.mem_singleton.1 hφ] at hq
    exact hq
  rw [key]
  constructor
  · intro hm g h hg hh h1 he
    rcases Nat.lt_trichotomy g h with hl | hl | hl
    · rcases hm h g hl hh with h2 | h2
      · exact absurd (he.trans h2) h1
      exact absurd he.symm h2
    · exact hl
    rcases hm g h hl hg with h2 | h2
    · exact absurd h2 h1
    exact absurd he h2
  intro hm g h hl hg
  by_cases h1 : c.th f (g : Int) = -1
  · exact .inl h1
  refine .inr fun he => ?_
  have := hm g h hg (by omega) h1 he
  omega
theorem sec_epi {c : Cat} (hC : IsCat c) {f : Int} (f0 : 0 ≤ f) (f1 : f < c.s.length) (h : 0 < (secL c f).length) : epiP c f := by
  have hS := hC.toShapeP
  obtain ⟨r, hr⟩ := List.exists_mem_of_length_pos h
  obtain ⟨j, hj, hj2, rfl⟩ := sol_mem.1 hr
  have hq := (sec_iff hS f0 f1 (g := (j : Int)) (by omega) (by omega)).2 hj2
  refine epi_iff.2 fun g x hg hx h1 he => ?_
  have e1 := th_m1 hS (f := f) (g := (g : Int)) f0 f1 (by omega) (by omega) h1
  have e2 := th_m1 hS (f := f) (g := (x : Int)) f0 f1 (by omega) (by omega) (by rw [← he]; exact h1)
  have a1 := assocI hC (f := (j : Int)) (g := f) (h := (g : Int)) (by omega) (by omega) f0 f1 (by omega) (by omega) hq.2.1 e1
  have a2 := assocI hC (f := (j : Int)) (g := f) (h := (x : Int)) (by omega) (by omega) f0 f1 (by omega) (by omega) hq.2.1 e2
  rw [hq.2.2] at a1 a2
  rw [e1, (unitL hC (f := (g : Int)) (by omega) (by omega)).1] at a1
  rw [e2, (unitL hC (f := (x : Int)) (by omega) (by omega)).1] at a2
  rw [he] at a1
  omega
theorem kind_31 {c : Cat} (hC : IsCat c) {f : Int} (f0 : 0 ≤ f) (f1 : f < c.s.length) (h : hasInv c f) : kindN c f = 31 := by
  obtain ⟨g, h1, h2⟩ := inv_both h
  have r1 : 0 < (retL c f).length := List.length_pos_of_mem h1
  have r2 : 0 < (secL c f).length := List.length_pos_of_mem h2
  unfold kindN
  rw [addK_t (bP_t h), addK_t (decide_eq_true (by omega)), addK_t (decide_eq_true (by omega)), addK_t (bP_t (sec_epi hC f0 f1 r2)), addK_t (bP_t (ret_mono hC f0 f1 r1))]
  rfl
theorem kind_odd (c : Cat) (f : Int) : ∃ q : Nat, (kindN c f = 2 * (q : Int) + 1 ∧ monoP c f) ∨ (kindN c f = 2 * (q : Int) ∧ ¬ monoP c f) := by
  have key : ∀ (s : Int) (b1 b2 b3 b4 : Bool), ∃ q : Nat, addK (addK (addK (addK s 2 b1) 4 b2) 8 b3) 16 b4 = 2 * (q : Int) + s := by
    intro s b1 b2 b3 b4
    refine ⟨(bif b1 then 1 else 0) + (bif b2 then 2 else 0) + (bif b3 then 4 else 0) + (bif b4 then 8 else 0), ?_⟩
    cases b1 <;> cases b2 <;> cases b3 <;> cases b4 <;> simp [addK] <;> omega
  obtain ⟨q, hq⟩ := key (addK 0 1 (bP (monoP c f))) (bP (epiP c f)) (decide (0 < ((retL c f).length : Int))) (decide (0 < ((secL c f).length : Int))) (bP (hasInv c f))
  refine ⟨q, ?_⟩
  by_cases h : monoP c f
  · exact .inl ⟨by unfold kindN; rw [hq, addK_t (bP_t h)]; rfl, h⟩
  exact .inr ⟨by unfold kindN; rw [hq, addK_f (bP_f h)]; omega, h⟩
theorem sol_oneS {φ : Int → Int} {v : Int} {m j : Nat} (hj : j < m) (h : ∀ i : Nat, i < m → (φ (i : Int) = v ↔ i = j)) : solL φ v m = [(j : Int)] := by
  have key : ∀ k, k ≤ m → solL φ v k = if j < k then [(j : Int)] else [] := by
    intro k
    induction k with
    | zero => intro _; rw [sol_zero, if_neg (by omega)]
    | succ k ih =>
      intro hk
      have ih := ih (by omega)
      by_cases hp : φ (k : Int) = v
      · have hkj := (h k (by omega)).1 hp
        subst hkj
        rw [← sol_t hp, ih, if_neg (by omega), if_pos (by omega)]; rfl
      have hkj : ¬ k = j := fun e => hp ((h k (by omega)).2 e)
      rw [← sol_f hp, ih]
      by_cases hjk : j < k
      · rw [if_pos hjk, if_pos (by omega)]
      rw [if_neg hjk, if_neg (by omega)]
  rw [key m (Nat.le_refl _), if_pos hj]
theorem lift_one {c : Cat} (hC : IsCat c) {m h : Int} (m0 : 0 ≤ m) (m1 : m < c.s.length) (h0 : 0 ≤ h) (h1 : h < c.s.length) (hm : monoP c m) (hh : monoP c h) (b1 : belP c m h) (b2 : belP c h m) : ∃ j : Nat, j < c.s.length ∧ solL (bef c h) m c.s.length = [(j : Int)] ∧ kindN c (j : Int) = 31 := by
  have hS := hC.toShapeP
  obtain ⟨j, hj, hj2⟩ := b1
  obtain ⟨l, hl, hl2⟩ := b2
  have e1 := (lift_iff hS m0 h0 h1 (h := (j : Int)) (by omega) (by omega)).2 hj2
  have e2 := (lift_iff hS h0 m0 m1 (h := (l : Int)) (by omega) (by omega)).2 hl2
  have c1 : at0 c.t (l : Int) = at0 c.s (j : Int) := by rw [e2.2.1, e1.1]
  have c2 : at0 c.t (j : Int) = at0 c.s (l : Int) := by rw [e1.2.1, e2.1]
  have t1 := th_ends hS (f := (l : Int)) (g := (j : Int)) (by omega) (by omega) (by omega) (by omega) c1
  have t2 := th_ends hS (f := (j : Int)) (g := (l : Int)) (by omega) (by omega) (by omega) (by omega) c2
  have a1 := assocI hC (f := (l : Int)) (g := (j : Int)) (h := h) (by omega) (by omega) (by omega) (by omega) h0 h1 c1 e1.2.1
  have a2 := assocI hC (f := (j : Int)) (g := (l : Int)) (h := m) (by omega) (by omega) (by omega) (by omega) m0 m1 c2 e2.2.1
  rw [e1.2.2, e2.2.2] at a1
  rw [e2.2.2, e1.2.2] at a2
  have i1 := arrP hS h0 h1
  have i2 := arrP hS m0 m1
  have d1 := hS.idn (x := at0 c.s h) i1.s0 (by have := i1.s1; have := hS.el; omega)
  have d2 := hS.idn (x := at0 c.s m) i2.s0 (by have := i2.s1; have := hS.el; omega)
  obtain ⟨p, hp⟩ := Int.eq_ofNat_of_zero_le t1.1.1
  obtain ⟨q, hq⟩ := Int.eq_ofNat_of_zero_le d1.1
  obtain ⟨p2, hp2⟩ := Int.eq_ofNat_of_zero_le t2.1.1
  obtain ⟨q2, hq2⟩ := Int.eq_ofNat_of_zero_le d2.1
  have u1 : p = q := mono_iff.1 hh p q (by have := t1.1.2; omega) (by have := d1.2.1; omega) (by rw [← hp, a1]; omega) (by rw [← hp, ← hq, a1, (unitL hC h0 h1).1])
  have u2 : p2 = q2 := mono_iff.1 hm p2 q2 (by have := t2.1.2; omega) (by have := d2.2.1; omega) (by rw [← hp2, a2]; omega) (by rw [← hp2, ← hq2, a2, (unitL hC m0 m1).1])
  have v1 : c.th (l : Int) (j : Int) = at0 c.e (at0 c.s h) := by rw [hp, hq, u1]
  have v2 : c.th (j : Int) (l : Int) = at0 c.e (at0 c.s m) := by rw [hp2, hq2, u2]
  refine ⟨j, hj, sol_oneS hj fun i hi => ⟨fun e => ?_, fun e => by rw [e]; exact hj2⟩, kind_31 hC (by omega) (by omega) ?_⟩
  · exact mono_iff.1 hh i j hi hj (by rw [show c.th (i : Int) h = m from e]; omega) (by rw [show c.th (i : Int) h = m from e]; exact e1.2.2.symm)
  exact hasInv_of (g := (l : Int)) (by omega) (by omega) c2.symm c1 ⟨by rw [v2, e1.1], by rw [v1, e1.2.1]⟩
end Go.Proofs.Ytbiplocgenppoaa
