import Derived.Test.YtbiplocgenppoaaS4
import Derived.Test.YtbiplocgenppoaaS11
import Derived.Test.YtbiplocgenppoaaS17
import Derived.Test.YtbiplocgenppoaaS14
set_option maxHeartbeats 1000000
set_option maxRecDepth 100000
set_option linter.unusedSimpArgs false
set_option linter.unusedVariables false
set_option linter.unusedSectionVars false
namespace Go.Proofs.Ytbiplocgenppoaa
open _root_.Go.Proofs.Try
open Go.RowKit
theorem rep_neg {b j : Nat} (h : j < b) : at0 (List.replicate b (-1)) (j : Int) = -1 := by
 rw [at0_nat]; simp [List.getD_eq_getElem?_getD, List.getElem?_replicate, h]
theorem sum_shape {c d : Cat} (hS : ShapeP c) (gS : ShapeP d) (hn : c.ob + d.ob ≤ 8) (hm : c.s.length + d.s.length ≤ 40) : ShapeP (sumM c d) := by
 have ob0 := hS.ob0; have el := hS.el; have tl := hS.tl; have ml := hS.ml
 have ob0' := gS.ob0; have el' := gS.el; have tl' := gS.tl; have ml' := gS.ml
 have hrl : ∀ f : Nat, f < c.s.length → (row2 c.m (f : Int)).length = c.s.length := fun f hf => by rw [row2_of, Int.toNat_natCast]; exact hS.rl f (by omega)
 have hrw : ∀ f : Nat, f < c.s.length → row2 (sumM c d).m (f : Int) = row2 c.m (f : Int) ++ List.replicate d.s.length (-1) := fun f hf => by
  show row2 (growR _ _ _) _ = _
  rw [growR_l (by rw [rowsF_len]; omega), rowsF_row _ (by omega), if_pos hf]
 have hrw2 : ∀ f : Nat, c.s.length ≤ f → f < c.s.length + d.s.length → row2 (sumM c d).m (f : Int) = smR c d (f - c.s.length) := fun f h1 h2 => by
  show row2 (growR _ _ _) _ = _
  rw [growR_r (by rw [rowsF_len]; omega) _ (by rw [rowsF_len]; omega), rowsF_len, ml]
 refine shape_by (N := (c.ob + d.ob).toNat) (m := c.s.length + d.s.length) (S := fun f => if f < c.s.length then at0 c.s (f : Int) else smS c d (f - c.s.length)) (T := fun f => if f < c.s.length then at0 c.t (f : Int) else smT c d (f - c.s.length))
  (E := fun x => if x < c.e.length then at0 c.e (x : Int) else smE c d (x - c.e.length)) (M := fun f g => if f < c.s.length then (if g < c.s.length then at0 (row2 c.m (f : Int)) (g : Int) else -1) else smX c d (f - c.s.length) g)
  (by show c.ob + d.ob = _; omega) (by omega) hm (grow_len _ _ _) (by show (grow _ _ _).length = _; rw [grow_len, tl]) (by show (grow _ _ _).length = _; rw [grow_len]; omega) (by show (growR _ _ _).length = _; rw [growR_len, rowsF_len, ml])
  (fun f hf => ?_) (fun f hf => ?_) (fun f hf => ?_) (fun x hx => ?_) (fun f g hf hg => ?_) (fun f hf => ?_) (fun f hf => ?_) (fun x hx => ?_) (fun f g hf hg => ?_)
 ·by_cases h : f < c.s.length
  ·rw [hrw f h, List.length_append, hrl f h, List.length_replicate]
  rw [hrw2 f (by omega) hf, smR, tabTo_len]
 ·show at0 (grow _ _ _) _ = _
  by_cases h : f < c.s.length
  ·rw [if_pos h, grow_l h]
  rw [if_neg h, grow_r (by omega) (by omega)]
 ·show at0 (grow _ _ _) _ = _
  by_cases h : f < c.s.length
  ·rw [if_pos h, grow_l (by omega)]
  rw [if_neg h, grow_r (by omega) (by omega), tl]
 ·show at0 (grow _ _ _) _ = _
  by_cases h : x < c.e.length
  ·rw [if_pos h, grow_l h]
  rw [if_neg h, grow_r (by omega) (by omega)]
 ·by_cases h : f < c.s.length
  ·rw [if_pos h, hrw f h]
   by_cases h' : g < c.s.length
   ·rw [if_pos h', app_l (by rw [hrl f h]; exact h')]
   rw [if_neg h', app_r (by rw [hrl f h]; omega), hrl f h, rep_neg (by omega)]
  rw [if_neg h, hrw2 f (by omega) hf, smR, tabTo_at _ hg]
 ·by_cases h : f < c.s.length
  ·have := allP_at hS.sa (k := f) h
   rw [if_pos h]; omega
  have := allP_at gS.sa (k := f - c.s.length) (by omega)
  rw [if_neg h]; unfold smS; omega
 ·by_cases h : f < c.s.length
  ·have := allP_at hS.ta (k := f) (by omega)
   rw [if_pos h]; omega
  have := allP_at gS.ta (k := f - c.s.length) (by omega)
  rw [if_neg h]; unfold smT; omega
 ·by_cases h : x < c.e.length
  ·obtain ⟨k, hk, h1, h2, h3⟩ := shape_id hS h
   simp only [if_pos h, hk, Int.toNat_natCast, if_pos h1]
   exact ⟨by omega, by omega, h2, h3⟩
  obtain ⟨k, hk, h1, h2, h3⟩ := shape_id gS (x := x - c.e.length) (by omega)
  have e1 : smE c d (x - c.e.length) = ((c.s.length + k : Nat) : Int) := by unfold smE; rw [hk]; omega
  simp only [if_neg h, e1, Int.toNat_natCast, if_neg (show ¬ c.s.length + k < c.s.length by omega), show c.s.length + k - c.s.length = k from by omega]
  refine ⟨by omega, by omega, ?_, ?_⟩
  ·unfold smS; omega
  unfold smT; omega
 by_cases h : f < c.s.length
 ·by_cases h' : g < c.s.length
  ·simp only [if_pos h, if_pos h']
   refine ⟨fun he => ?_, fun he => (hS.co f g h h').2 he⟩
   obtain ⟨k, hk, h1, h2, h3⟩ := shape_co hS h h' he
   simp only [hk, Int.toNat_natCast, if_pos h1]
   exact ⟨by omega, by omega, h2, h3⟩
  have p1 := allP_at hS.ta (k := f) (by omega)
  have p2 := allP_at gS.sa (k := g - c.s.length) (by omega)
  simp only [if_pos h, if_neg h']
  refine ⟨fun he => ?_, fun _ => trivial⟩
  unfold smS at he; omega
 by_cases h' : g < c.s.length
 ·have p1 := allP_at gS.ta (k := f - c.s.length) (by omega)
  have p2 := allP_at hS.sa (k := g) (by omega)
  simp only [if_neg h, if_pos h', smX]
  refine ⟨fun he => ?_, fun _ => trivial⟩
  unfold smT at he; omega
 simp only [if_neg h, if_neg h', smX]
 refine ⟨fun he => ?_, fun he => ?_⟩
 ·obtain ⟨k, hk, h1, h2, h3⟩ := shape_co gS (f := f - c.s.length) (g := g - c.s.length) (by omega) (by omega) (by unfold smS smT at he; omega)
  have e1 : smC c d (f - c.s.length) (g - c.s.length) = ((c.s.length + k : Nat) : Int) := by unfold smC; rw [hk, if_pos (by omega)]; omega
  simp only [e1, Int.toNat_natCast, if_neg (show ¬ c.s.length + k < c.s.length by omega), show c.s.length + k - c.s.length = k from by omega]
  refine ⟨by omega, by omega, ?_, ?_⟩
  ·unfold smS; omega
  unfold smT; omega
 have := (gS.co (f - c.s.length) (g - c.s.length) (by omega) (by omega)).2 (by unfold smS smT at he; omega)
 unfold Cat.th at this
 unfold smC
 rw [this]; rfl
end Go.Proofs.Ytbiplocgenppoaa
namespace Go.Proofs.Ytbiplocgenppoaa
open _root_.Go.Proofs.Try
open Go.RowKit
def peR (r : List (List Int)) (i k : Nat) : List (Ent Bool) := ((List.range k).filter fun (j : Nat) => decide (at0 (row2 r (i : Int)) (j : Int) = 1)).map fun (j : Nat) => ((i : Int), (j : Int), true)
def peL (r : List (List Int)) (i k : Nat) : List (Ent Bool) := (List.range i).flatMap (fun a => peR r a r.length) ++ peR r i k
def fsL (r : List (List Int)) (i k : Nat) : List Int := (peL r i k).map fun e => e.1
def tsL (r : List (List Int)) (i k : Nat) : List Int := (peL r i k).map fun e => e.2.1
theorem fsL_len (r : List (List Int)) (i k : Nat) : (fsL r i k).length = (peL r i k).length := by simp [fsL]
theorem tsL_len (r : List (List Int)) (i k : Nat) : (tsL r i k).length = (fsL r i k).length := by simp [tsL, fsL]
theorem peL_row (r : List (List Int)) (i : Nat) : peL r i r.length = peL r (i + 1) 0 := by simp [peL, peR, List.range_succ]
theorem peL_t {r : List (List Int)} {i k : Nat} (h : at0 (row2 r (i : Int)) (k : Int) = 1) : peL r i k ++ [((i : Int), (k : Int), true)] = peL r i (k + 1) := by simp [peL, peR, List.range_succ, h]
theorem peL_f {r : List (List Int)} {i k : Nat} (h : ¬ at0 (row2 r (i : Int)) (k : Int) = 1) : peL r i k = peL r i (k + 1) := by simp [peL, peR, List.range_succ, h]
theorem fsL_t {r : List (List Int)} {i k : Nat} (h : at0 (row2 r (i : Int)) (k : Int) = 1) : fsL r i k ++ [(i : Int)] = fsL r i (k + 1) := by unfold fsL; rw [← peL_t h]; simp
theorem tsL_t {r : List (List Int)} {i k : Nat} (h : at0 (row2 r (i : Int)) (k : Int) = 1) : tsL r i k ++ [(k : Int)] = tsL r i (k + 1) := by unfold tsL; rw [← peL_t h]; simp
theorem fsL_f {r : List (List Int)} {i k : Nat} (h : ¬ at0 (row2 r (i : Int)) (k : Int) = 1) : fsL r i k = fsL r i (k + 1) := by unfold fsL; rw [← peL_f h]
theorem tsL_f {r : List (List Int)} {i k : Nat} (h : ¬ at0 (row2 r (i : Int)) (k : Int) = 1) : tsL r i k = tsL r i (k + 1) := by unfold tsL; rw [← peL_f h]
theorem fsL_row (r : List (List Int)) (i : Nat) : fsL r i r.length = fsL r (i + 1) 0 := by unfold fsL; rw [peL_row]
theorem tsL_row (r : List (List Int)) (i : Nat) : tsL r i r.length = tsL r (i + 1) 0 := by unfold tsL; rw [peL_row]
theorem peR_len (r : List (List Int)) (i k : Nat) : (peR r i k).length ≤ k := by
 simp only [peR, List.length_map]; exact Nat.le_trans (List.length_filter_le _ _) (by simp)
theorem peL_len {r : List (List Int)} (hn : r.length ≤ 8) (i k : Nat) : (peL r i k).length ≤ i * 8 + k := by
 unfold peL
 have h2 := peR_len r i k
 have h1 : ∀ m : Nat, ((List.range m).flatMap fun a => peR r a r.length).length ≤ m * 8 := by
  intro m
  induction m with
  | zero => simp
  | succ m ih =>
   have h3 := peR_len r m r.length
   simp only [List.range_succ, List.flatMap_append, List.length_append, List.flatMap_cons, List.flatMap_nil, List.append_nil]
   omega
 have := h1 i
 simp only [List.length_append]
 omega
theorem peL_in {r : List (List Int)} {i k : Nat} {e : Ent Bool} (h : e ∈ peL r i k) : ∃ a b : Nat, e = ((a : Int), (b : Int), true) ∧ at0 (row2 r (a : Int)) (b : Int) = 1 ∧ (a < i ∧ b < r.length ∨ a = i ∧ b < k) := by
 simp only [peL, peR, List.mem_append, List.mem_flatMap, List.mem_map, List.mem_filter, List.mem_range, decide_eq_true_eq] at h
 rcases h with ⟨a, ha, b, ⟨hb, hr⟩, rfl⟩ | ⟨b, ⟨hb, hr⟩, rfl⟩
 ·exact ⟨a, b, rfl, hr, .inl ⟨ha, hb⟩⟩
 exact ⟨i, b, rfl, hr, .inr ⟨rfl, hb⟩⟩
def numR (r : List (List Int)) (k : Nat) : List (List Int) := rowsTo (fun i => tabTo (fun j => ((fsL r i j).length : Int)) r.length) k
theorem num_len (r : List (List Int)) (k : Nat) : (numR r k).length = k := rowsTo_len _ _
theorem num_row {r : List (List Int)} {k i : Nat} (h : i < k) : row2 (numR r k) (i : Int) = tabTo (fun j => ((fsL r i j).length : Int)) r.length := rowsTo_at _ h
theorem num_at {r : List (List Int)} {k i j : Nat} (h : i < k) (hj : j < r.length) : at0 (row2 (numR r k) (i : Int)) (j : Int) = ((fsL r i j).length : Int) := by rw [num_row h, tabTo_at _ hj]
theorem num_atI {r : List (List Int)} {k : Nat} {i j : Int} (i0 : 0 ≤ i) (i1 : i < k) (j0 : 0 ≤ j) (j1 : j < r.length) : at0 (row2 (numR r k) i) j = ((fsL r i.toNat j.toNat).length : Int) := by
 obtain ⟨a, rfl⟩ := Int.eq_ofNat_of_zero_le i0
 obtain ⟨b, rfl⟩ := Int.eq_ofNat_of_zero_le j0
 exact num_at (by omega) (by omega)
theorem num_rowI {r : List (List Int)} {k : Nat} {i : Int} (i0 : 0 ≤ i) (i1 : i < k) : (row2 (numR r k) i).length = r.length := by
 obtain ⟨a, rfl⟩ := Int.eq_ofNat_of_zero_le i0
 rw [num_row (by omega), tabTo_len]
def psF (r : List (List Int)) : List Int := fsL r r.length 0
def psT (r : List (List Int)) : List Int := tsL r r.length 0
def psM (r : List (List Int)) (f g : Nat) : Int := if at0 (psT r) (f : Int) = at0 (psF r) (g : Int) then ((fsL r (at0 (psF r) (f : Int)).toNat (at0 (psT r) (g : Int)).toNat).length : Int) else -1
theorem psM_t {r : List (List Int)} {f g : Nat} (h : at0 (psT r) (f : Int) = at0 (psF r) (g : Int)) : psM r f g = ((fsL r (at0 (psF r) (f : Int)).toNat (at0 (psT r) (g : Int)).toNat).length : Int) := if_pos h
theorem psM_f {r : List (List Int)} {f g : Nat} (h : ¬ at0 (psT r) (f : Int) = at0 (psF r) (g : Int)) : psM r f g = -1 := if_neg h
def posetC (r : List (List Int)) : Cat := ⟨r.length, psF r, psT r, tabTo (fun x => ((fsL r x x).length : Int)) r.length, rowsTo (fun f => tabTo (fun g => psM r f g) (psF r).length) (psF r).length⟩
theorem psF_at {r : List (List Int)} {f : Nat} (h : f < (psF r).length) : (0 ≤ at0 (psF r) (f : Int) ∧ at0 (psF r) (f : Int) < r.length) ∧ (0 ≤ at0 (psT r) (f : Int) ∧ at0 (psT r) (f : Int) < r.length) ∧ at0 (row2 r (at0 (psF r) (f : Int))) (at0 (psT r) (f : Int)) = 1 := by
 have hl : f < (peL r r.length 0).length := by rw [← fsL_len]; exact h
 obtain ⟨a, b, he, hr, hc⟩ := peL_in (List.getElem_mem hl)
 have h1 : at0 (psF r) (f : Int) = a := by rw [at0_nat]; simp [psF, fsL, List.getD_eq_getElem?_getD, List.getElem?_eq_getElem hl, he]
 have h2 : at0 (psT r) (f : Int) = b := by rw [at0_nat]; simp [psT, tsL, List.getD_eq_getElem?_getD, List.getElem?_eq_getElem hl, he]
 rw [h1, h2]
 refine ⟨by omega, by omega, hr⟩
theorem specPoset_any (w : World) (u : Value) (r : List (List Int)) (hu : Rd2 w u r) (hsq : SquareP r 2) (hn : r.length ≤ 8) :
  Calls Try.prog 85 #[u] w (RetC w (posetC r)) := by
 obtain ⟨ua, uc, rfl⟩ := rd2_form hu
 have hpl := peL_len hn r.length 0
 have hpf := fsL_len r r.length 0
 have hpt := tsL_len r r.length 0
 have hF : (psF r).length = (fsL r r.length 0).length := rfl
 have hT : (psT r).length = (tsL r r.length 0).length := rfl
 go_enter func85, Try.ntmps85
 refine gc_enter (N := 133) rfl (look_cons (k := 0) rfl (look_nil _)) ?_
 refine gc_sr fun K1 hK1 => ?_
 refine gop fun K3 hK3 => ?_
 refine galC ?_
 intro B2
 refine hK3 _ _ ?_
 refine gnt (hK1 _ _ ?_)
 refine gc_sr fun K4 hK4 => ?_
 refine gm ?_
 refine gv (qt_len rfl rfl ulE2 (fun w M => lenV_rd2 hu)) ?_
 refine gas ?_
 refine gnt (hK4 _ _ ?_)
 refine gc_sr fun K5 hK5 => ?_
 refine gop fun K7 hK7 => ?_
 refine go_sliceR0 rfl rfl rfl underlying25 ?_
 intro B6
 refine hK7 _ _ ?_
 refine gas ?_
 refine gnt (hK5 _ _ ?_)
 refine gc_sr fun K8 hK8 => ?_
 refine gm ?_
 refine gop fun K10 hK10 => ?_
 refine go_slice0 rfl rfl rfl underlying24 ?_
 intro B9
 refine hK10 _ _ ?_
 refine gop fun K12 hK12 => ?_
 refine go_slice0 rfl rfl rfl underlying24 ?_
 intro B11
 refine hK12 _ _ ?_
 refine gop fun K14 hK14 => ?_
 refine go_slice0 rfl rfl rfl underlying24 ?_
 intro B13
 refine hK14 _ _ ?_
 refine gop fun K16 hK16 => ?_
 refine go_sliceR0 rfl rfl rfl underlying25 ?_
 intro B15
 refine hK16 _ _ ?_
 refine gv (qt_build rfl rfl bt_Category) ?_
 refine gop fun K18 hK18 => ?_
 refine galC ?_
 intro B17
 refine hK18 _ _ ?_
 refine gop fun K19 hK19 => ?_
 refine gss 6 ?_
 refine hK19 _ _ ?_
 refine gnt (hK8 _ _ ?_)
 refine gc_seq fun K20 hK20 => ?_
 refine gc_sr fun K21 hK21 => ?_
 refine gas ?_
 refine gnt (hK21 _ _ ?_)
 refine gc_block ?_
 try simp only [sL]
 refine gc_loopT ([(0, _), (2, _), (3, _), (5, _)] : Env) (fun s : Nat × (Option Addr) × Nat × (Option Addr) × Nat × (Option Addr) × Nat × (List Value) => (fun (k : Nat) (a1 : Option Addr) (q1 : Nat) (a2 : Option Addr) (q2 : Nat) (an : Option Addr) (qn : Nat) (us : List Value) => (([(4, .slice an (numR r k).length qn), (6, .int .i64 (k : Int))] : Env), ([(1, own2U (.slice an (numR r k).length qn) us (numR r k)), (2, own1I (.slice a1 (fsL r k 0).length q1) (fsL r k 0)), (3, own1I (.slice a2 (tsL r k 0).length q2) (tsL r k 0)), (6, bxI B17 27 [.int .i64 r.length, .slice a1 (fsL r k 0).length q1, .slice a2 (tsL r k 0).length q2, .slice (some ⟨B13, 0, none⟩) 0 0, .slice (some ⟨B15, 0, none⟩) 0 0])] : List (Nat × Itm)), k ≤ r.length, r.length - k)) s.1 s.2.1 s.2.2.1 s.2.2.2.1 s.2.2.2.2.1 s.2.2.2.2.2.1 s.2.2.2.2.2.2.1 s.2.2.2.2.2.2.2) (0, _, _, _, _, _, _, _) (by repeat first | exact sub_nil | refine sub_cons rfl ?_) rfl (Nat.zero_le _) ?_
 rintro ⟨k, a1, q1, a2, q2, an, qn, us⟩ hinv KL22 hKL22
 simp only [sU, sL] at hinv hKL22 ⊢
 have hk := hinv
 have hp1 := peL_len hn k 0
 have hp2 := fsL_len r k 0
 have hp3 := tsL_len r k 0
 have hp4 := num_len r k
 refine gc_seq fun K23 hK23 => ?_
 refine gc_sr fun K24 hK24 => ?_
 refine gm ?_
 refine gm ?_
 refine gv (qt_lss rfl rfl rfl) ?_
 refine gnt (hK24 _ _ ?_)
 refine gc_cond rfl (fun hc0 => ?_) (fun hc0 => ?_)
 ·try simp only [sA] at hc0
  refine gc_skip ?_
  refine gk_then (hK23 _ _ ?_)
  refine gc_seq fun K25 hK25 => ?_
  refine gc_block ?_
  refine gc_sr fun K26 hK26 => ?_
  refine gop fun K28 hK28 => ?_
  refine go_slice0 rfl rfl rfl underlying24 ?_
  intro B27
  refine hK28 _ _ ?_
  refine gas ?_
  refine gnt (hK26 _ _ ?_)
  refine gc_seq fun K29 hK29 => ?_
  refine gc_sr fun K30 hK30 => ?_
  refine gas ?_
  refine gnt (hK30 _ _ ?_)
  refine gc_block ?_
  try simp only [sL]
  refine gc_loopT ([(0, _), (2, _), (3, _), (4, _), (5, _), (6, _), (25, _)] : Env) (fun s : Nat × (Option Addr) × Nat × (Option Addr) × Nat × (Option Addr) × Nat => (fun (l : Nat) (b1 : Option Addr) (p1 : Nat) (b2 : Option Addr) (p2 : Nat) (e : Option Addr) (z : Nat) => (([(7, .slice e (tabTo (fun j => ((fsL r k j).length : Int)) l).length z), (8, .int .i64 (l : Int))] : Env), ([(2, own1I (.slice b1 (fsL r k l).length p1) (fsL r k l)), (3, own1I (.slice b2 (tsL r k l).length p2) (tsL r k l)), (6, bxI B17 27 [.int .i64 r.length, .slice b1 (fsL r k l).length p1, .slice b2 (tsL r k l).length p2, .slice (some ⟨B13, 0, none⟩) 0 0, .slice (some ⟨B15, 0, none⟩) 0 0]), (7, own1I (.slice e (tabTo (fun j => ((fsL r k j).length : Int)) l).length z) (tabTo (fun j => ((fsL r k j).length : Int)) l))] : List (Nat × Itm)), l ≤ r.length, r.length - l)) s.1 s.2.1 s.2.2.1 s.2.2.2.1 s.2.2.2.2.1 s.2.2.2.2.2.1 s.2.2.2.2.2.2) (0, _, _, _, _, _, _) (by repeat first | exact sub_nil | refine sub_cons rfl ?_) rfl (Nat.zero_le _) ?_
  rintro ⟨l, b1, p1, b2, p2, e, z⟩ hinv KL31 hKL31
  simp only [sU, sL] at hinv hKL31 ⊢
  have hl := hinv
  have hr1 := peL_len hn k l
  have hr2 := fsL_len r k l
  have hr3 := tsL_len r k l
  have hr4 := tabTo_len (fun j => ((fsL r k j).length : Int)) l
  refine gc_seq fun K32 hK32 => ?_
  refine gc_sr fun K33 hK33 => ?_
  refine gm ?_
  refine gm ?_
  refine gv (qt_lss rfl rfl rfl) ?_
  refine gnt (hK33 _ _ ?_)
  refine gc_cond rfl (fun hc1 => ?_) (fun hc1 => ?_)
  ·try simp only [sA] at hc1
   refine gc_skip ?_
   refine gk_then (hK32 _ _ ?_)
   refine gc_seq fun K34 hK34 => ?_
   refine gc_block ?_
   refine gc_sr fun K35 hK35 => ?_
   refine gm ?_
   refine gv (qtf underlying27 (z := 0) (off := 1)) ?_
   refine gv (qtl underlying24 (n := 6)) ?_
   refine gv (qln (fun w M => lenV_own1 (n := 2) rfl M)) ?_
   refine gop fun K37 hK37 => ?_
   refine go_slice1 rfl rfl rfl rfl underlying24 ?_
   intro B36
   refine hK37 _ _ ?_
   refine gop fun K39 hK39 => ?_
   refine go_append (n := 7) (m := 8) rfl rfl rfl underlying24 rfl rfl rfl rfl (by omega) ?_
   intro va38 vc38
   refine hK39 _ _ ?_
   refine gas ?_
   refine gnt (hK35 _ _ ?_)
   refine gc_seq fun K40 hK40 => ?_
   have hq1 := sq_at hsq (i := k) (j := l) (by omega) (by omega)
   have hq2 := (hsq k (by omega)).1
   refine gc_region ?_
   refine gm ?_
   refine gm ?_
   refine gv (qti2 (fun w M => lenA_rd2 hu)) ?_
   refine g_load2 (.free rfl) rfl rfl rfl rfl underlying24 rfl hu (by omega) (by omega) ?_
   intro ra41 rc41 hr41
   refine gm ?_
   refine gv (qti (fun w M => lenA_rd hr41)) ?_
   refine gv (qtd (fun w M => mem_rd M hr41)) ?_
   refine gv (qt_eql rfl rfl rfl) ?_
   refine gnt (hK40 _ _ ?_)
   refine gc_cond rfl (fun hc2 => ?_) (fun hc2 => ?_)
   ·try simp only [sA] at hc2
    refine gc_sr fun K42 hK42 => ?_
    refine gv (qtf underlying27 (z := 0) (off := 1)) ?_
    refine gv (qtl underlying24 (n := 6)) ?_
    refine gm ?_
    refine gop fun K44 hK44 => ?_
    refine go_slice1 rfl rfl rfl rfl underlying24 ?_
    intro B43
    refine hK44 _ _ ?_
    refine gop fun K46 hK46 => ?_
    refine go_append (n := 2) (m := 9) rfl rfl rfl underlying24 rfl rfl rfl rfl (by omega) ?_
    intro va45 vc45
    refine hK46 _ _ ?_
    refine gv (qtf underlying27 (z := 0) (off := 1)) ?_
    refine gop fun K47 hK47 => ?_
    refine go_storeB (n := 6) rfl rfl rfl rfl (by kernel_rfl) rfl rfl rfl (by first | decide | simp) ?_
    refine hK47 _ _ ?_
    refine gnt (hK42 _ _ ?_)
    refine gc_region ?_
    refine gv (qtf underlying27 (z := 0) (off := 2)) ?_
    refine gv (qtl underlying24 (n := 6)) ?_
    refine gm ?_
    refine gop fun K49 hK49 => ?_
    refine go_slice1 rfl rfl rfl rfl underlying24 ?_
    intro B48
    refine hK49 _ _ ?_
    refine gop fun K51 hK51 => ?_
    refine go_append (n := 3) (m := 10) rfl rfl rfl underlying24 rfl rfl rfl rfl (by omega) ?_
    intro va50 vc50
    refine hK51 _ _ ?_
    refine gv (qtf underlying27 (z := 0) (off := 2)) ?_
    refine gop fun K52 hK52 => ?_
    refine go_storeB (n := 6) rfl rfl rfl rfl (by kernel_rfl) rfl rfl rfl (by first | decide | simp) ?_
    refine hK52 _ _ ?_
    refine g_nil ?_
    refine gk_block ?_
    refine gk_then (hK34 _ _ ?_)
    refine gc_region ?_
    refine gm ?_
    refine gv (qt_add rfl rfl rfl (by omega)) ?_
    refine gas ?_
    refine g_nil ?_
    simp only [fsL_t hc2, tsL_t hc2, tabTo_succ]
    refine gk_then (gk_take 8 ?_)
    refine gk_sub ?hs_53 (hKL31 (l + 1, _, _, _, _, _, _) ?hi_53 ?hm_53)
    case hs_53 => repeat first | exact sub_nil | refine sub_cons rfl ?_
    case hi_53 => omega
    case hm_53 => omega
   try simp only [sA] at hc2
   refine gc_skip ?_
   refine gk_block ?_
   refine gk_then (hK34 _ _ ?_)
   refine gc_region ?_
   refine gm ?_
   refine gv (qt_add rfl rfl rfl (by omega)) ?_
   refine gas ?_
   refine g_nil ?_
   simp only [tabTo_succ]
   rw [fsL_f hc2, tsL_f hc2]
   refine gk_then (gk_take 8 ?_)
   refine gk_sub ?hs_54 (hKL31 (l + 1, _, _, _, _, _, _) ?hi_54 ?hm_54)
   case hs_54 => repeat first | exact sub_nil | refine sub_cons rfl ?_
   case hi_54 => omega
   case hm_54 => omega
  try simp only [sA] at hc1
  refine gc_exit ?_
  refine gk_then_exit ?_
  refine gk_then_exit ?_
  refine gk_block_hit ?_
  refine gk_then (hK29 _ _ ?_)
  refine gc_region ?_
  refine gm ?_
  refine gm ?_
  refine gop fun K56 hK56 => ?_
  refine go_sliceR1 (m := 7) rfl rfl rfl rfl underlying25 rfl ?_
  intro B55
  refine hK56 _ _ ?_
  refine gop fun K58 hK58 => ?_
  refine go_appendRow (n := 1) (m := 7) (m' := 6) rfl rfl rfl underlying25 rfl rfl rfl rfl rfl (by omega) ?_
  intro va57 vc57
  refine hK58 _ _ ?_
  refine gas ?_
  refine g_nil ?_
  refine gk_block ?_
  refine gk_then (hK25 _ _ ?_)
  refine gc_region ?_
  refine gm ?_
  refine gv (qt_add rfl rfl rfl (by omega)) ?_
  refine gas ?_
  refine g_nil ?_
  obtain rfl : l = r.length := by omega
  rw [fsL_row, tsL_row]
  simp only [numR, rowsTo_succ]
  refine gk_then (gk_take 7 ?_)
  refine gk_sub ?hs_59 (hKL22 (k + 1, _, _, _, _, _, _, _) ?hi_59 ?hm_59)
  case hs_59 => repeat first | exact sub_nil | refine sub_cons rfl ?_
  case hi_59 => omega
  case hm_59 => omega
 try simp only [sA] at hc0
 refine gc_exit ?_
 refine gk_then_exit ?_
 refine gk_then_exit ?_
 refine gk_block_hit ?_
 refine gk_then (hK20 _ _ ?_)
 refine gc_seq fun K60 hK60 => ?_
 refine gc_sr fun K61 hK61 => ?_
 refine gas ?_
 refine gnt (hK61 _ _ ?_)
 refine gc_block ?_
 obtain rfl : k = r.length := by omega
 simp only [show fsL r r.length 0 = psF r from rfl, show tsL r r.length 0 = psT r from rfl]
 try simp only [sL]
 refine gc_loopT ([(0, _), (2, _), (3, _), (4, _), (5, _), (6, _), (25, _)] : Env) (fun s : Nat × (Option Addr) × Nat => (fun (k : Nat) (b : Option Addr) (p : Nat) => (([(9, .int .i64 (k : Int))] : Env), ([(4, own1I (.slice b (tabTo (fun x => ((fsL r x x).length : Int)) k).length p) (tabTo (fun x => ((fsL r x x).length : Int)) k)), (6, bxI B17 27 [.int .i64 r.length, .slice a1 (psF r).length q1, .slice a2 (psT r).length q2, .slice b (tabTo (fun x => ((fsL r x x).length : Int)) k).length p, .slice (some ⟨B15, 0, none⟩) 0 0])] : List (Nat × Itm)), k ≤ r.length, r.length - k)) s.1 s.2.1 s.2.2) (0, _, _) (by repeat first | exact sub_nil | refine sub_cons rfl ?_) rfl (Nat.zero_le _) ?_
 rintro ⟨k, b, p⟩ hinv KL62 hKL62
 simp only [sU, sL] at hinv hKL62 ⊢
 have hk := hinv
 have hr4 := tabTo_len (fun x => ((fsL r x x).length : Int)) k
 refine gc_seq fun K63 hK63 => ?_
 refine gc_sr fun K64 hK64 => ?_
 refine gm ?_
 refine gm ?_
 refine gv (qt_lss rfl rfl rfl) ?_
 refine gnt (hK64 _ _ ?_)
 refine gc_cond rfl (fun hc3 => ?_) (fun hc3 => ?_)
 ·try simp only [sA] at hc3
  refine gc_skip ?_
  refine gk_then (hK63 _ _ ?_)
  refine gc_seq fun K65 hK65 => ?_
  refine gc_block ?_
  have hq3 := num_row (r := r) (k := r.length) (i := k) (by omega)
  have hq4 : (row2 (numR r r.length) (k : Int)).length = r.length := by rw [hq3, tabTo_len]
  have hq5 := num_len r r.length
  try simp only [sL]
  refine ga_start _ (fun w M => mem_erase 4 (mem_erase 6 (M))) ?_
  refine gav 0 rfl (qtf underlying27 (z := 0) (off := 3)) ?_
  refine gav 2 rfl (qt_move rfl rfl) ?_
  refine gav 3 rfl (qt_move rfl rfl) ?_
  refine gav 4 rfl (qti2 (fun w M => lenA_U (n := 1) rfl M)) ?_
  refine gav 5 rfl (qt_loadU (n := 1) rfl rfl underlying24 rfl rfl (by omega) (by omega)) ?_
  refine gav 6 rfl (qt_move rfl rfl) ?_
  refine gav 7 rfl (qt_index rfl rfl rfl ulE1 szE1 (fun w M => lenA_row (n := 1) rfl (by omega) (by omega) M) (by omega) (by omega)) ?_
  refine gav 8 rfl (qt_load1 rfl rfl underlying2 rfl (fun w M => mem_rowU (n := 1) M rfl (by omega) (by omega)) (by omega) (by omega)) ?_
  refine gat 1 9 (fun K66 hK66 => ?_) (fun K66 hK66 => ?_)
  ·refine gov (qtl underlying24 (n := 6)) ?_
   refine hK66 _ _ (fun w M => (ms0 4 6 7 M :)) ?_
   refine gao 9 fun K69 hK69 => ?_
   refine go_slice1 rfl rfl rfl rfl underlying24 ?_
   intro B68
   refine hK69 _ _ (fun w M => (ms0 4 6 7 M :)) ?_
   refine gao 10 fun K71 hK71 => ?_
   refine go_append (n := 4) (m := 7) rfl rfl rfl underlying24 rfl rfl rfl rfl (by omega) ?_
   intro va70 vc70
   refine hK71 _ _ (fun w M => (ms0 4 6 7 M :)) ?_
   refine gav 11 rfl (qtf underlying27 (z := 0) (off := 3)) ?_
   refine gao 12 fun K72 hK72 => ?_
   refine go_storeB (n := 6) rfl rfl rfl rfl (by kernel_rfl) rfl rfl rfl (by first | decide | simp) ?_
   refine hK72 _ _ (fun w M => (ms0 4 6 7 M :)) ?_
   refine ga_done (by kernel_rfl) ?_
   refine gk_block ?_
   refine gk_then (hK65 _ _ ?_)
   refine gc_region ?_
   refine gm ?_
   refine gv (qt_add rfl rfl rfl (by omega)) ?_
   refine gas ?_
   refine g_nil ?_
   simp only [num_at (r := r) (k := r.length) (i := k) (j := k) (by omega) (by omega), tabTo_succ]
   refine gk_then (gk_take 7 ?_)
   refine gk_sub ?hs_73 (hKL62 (k + 1, _, _) ?hi_73 ?hm_73)
   case hs_73 => repeat first | exact sub_nil | refine sub_cons rfl ?_
   case hi_73 => omega
   case hm_73 => omega
  refine go_slice1 rfl rfl rfl rfl underlying24 ?_
  intro B74
  refine hK66 _ _ (fun w M => (ms0 4 6 7 M :)) ?_
  refine gao 1 fun K76 hK76 => ?_
  refine gov (qtl underlying24 (n := 6)) ?_
  refine hK76 _ _ (fun w M => (ms0 4 6 7 M :)) ?_
  refine gao 10 fun K78 hK78 => ?_
  refine go_append (n := 4) (m := 7) rfl rfl rfl underlying24 rfl rfl rfl rfl (by omega) ?_
  intro va77 vc77
  refine hK78 _ _ (fun w M => (ms0 4 6 7 M :)) ?_
  refine gav 11 rfl (qtf underlying27 (z := 0) (off := 3)) ?_
  refine gao 12 fun K79 hK79 => ?_
  refine go_storeB (n := 6) rfl rfl rfl rfl (by kernel_rfl) rfl rfl rfl (by first | decide | simp) ?_
  refine hK79 _ _ (fun w M => (ms0 4 6 7 M :)) ?_
  refine ga_done (by kernel_rfl) ?_
  refine gk_block ?_
  refine gk_then (hK65 _ _ ?_)
  refine gc_region ?_
  refine gm ?_
  refine gv (qt_add rfl rfl rfl (by omega)) ?_
  refine gas ?_
  refine g_nil ?_
  simp only [num_at (r := r) (k := r.length) (i := k) (j := k) (by omega) (by omega), tabTo_succ]
  refine gk_then (gk_take 7 ?_)
  refine gk_sub ?hs_80 (hKL62 (k + 1, _, _) ?hi_80 ?hm_80)
  case hs_80 => repeat first | exact sub_nil | refine sub_cons rfl ?_
  case hi_80 => omega
  case hm_80 => omega
 try simp only [sA] at hc3
 refine gc_exit ?_
 refine gk_then_exit ?_
 refine gk_then_exit ?_
 refine gk_block_hit ?_
 refine gk_then (hK60 _ _ ?_)
 refine gc_seq fun K81 hK81 => ?_
 refine gc_sr fun K82 hK82 => ?_
 refine gas ?_
 refine gnt (hK82 _ _ ?_)
 refine gc_block ?_
 obtain rfl : k = r.length := by omega
 try simp only [sL]
 refine gc_loopT ([(0, _), (2, _), (3, _), (4, _), (5, _), (6, _), (9, _), (25, _), (66, _)] : Env) (fun s : Nat × (Option Addr) × Nat × (List Value) => (fun (k : Nat) (b4 : Option Addr) (p4 : Nat) (us : List Value) => (([(10, .int .i64 (k : Int))] : Env), ([(5, own2U (.slice b4 (rowsTo (fun f => tabTo (fun g => psM r f g) (psF r).length) k).length p4) us (rowsTo (fun f => tabTo (fun g => psM r f g) (psF r).length) k)), (6, bxI B17 27 [.int .i64 r.length, .slice a1 (psF r).length q1, .slice a2 (psT r).length q2, .slice b (tabTo (fun x => ((fsL r x x).length : Int)) r.length).length p, .slice b4 (rowsTo (fun f => tabTo (fun g => psM r f g) (psF r).length) k).length p4])] : List (Nat × Itm)), k ≤ (psF r).length, (psF r).length - k)) s.1 s.2.1 s.2.2.1 s.2.2.2) (0, _, _, _) (by repeat first | exact sub_nil | refine sub_cons rfl ?_) rfl (Nat.zero_le _) ?_
 rintro ⟨k, b4, p4, us⟩ hinv KL83 hKL83
 simp only [sU, sL] at hinv hKL83 ⊢
 have hk := hinv
 have hr4 := rowsTo_len (fun f => tabTo (fun g => psM r f g) (psF r).length) k
 refine gc_seq fun K84 hK84 => ?_
 refine gc_sr fun K85 hK85 => ?_
 refine gm ?_
 refine gv (qtf underlying27 (z := 0) (off := 1)) ?_
 refine gv (qtl underlying24 (n := 6)) ?_
 refine gv (qln (fun w M => lenV_own1 (n := 2) rfl M)) ?_
 refine gv (qt_lss rfl rfl rfl) ?_
 refine gnt (hK85 _ _ ?_)
 refine gc_cond rfl (fun hc4 => ?_) (fun hc4 => ?_)
 ·try simp only [sA] at hc4
  refine gc_skip ?_
  refine gk_then (hK84 _ _ ?_)
  refine gc_seq fun K86 hK86 => ?_
  refine gc_block ?_
  refine gc_sr fun K87 hK87 => ?_
  refine gop fun K89 hK89 => ?_
  refine go_slice0 rfl rfl rfl underlying24 ?_
  intro B88
  refine hK89 _ _ ?_
  refine gas ?_
  refine gnt (hK87 _ _ ?_)
  refine gc_seq fun K90 hK90 => ?_
  refine gc_sr fun K91 hK91 => ?_
  refine gas ?_
  refine gnt (hK91 _ _ ?_)
  refine gc_block ?_
  try simp only [sL]
  refine gc_loopT ([(0, _), (2, _), (3, _), (4, _), (5, _), (6, _), (9, _), (10, _), (25, _), (66, _), (85, _)] : Env) (fun s : Nat × (Option Addr) × Nat => (fun (l : Nat) (e : Option Addr) (z : Nat) => (([(11, .slice e (tabTo (fun g => psM r k g) l).length z), (12, .int .i64 (l : Int))] : Env), ([(7, own1I (.slice e (tabTo (fun g => psM r k g) l).length z) (tabTo (fun g => psM r k g) l))] : List (Nat × Itm)), l ≤ (psF r).length, (psF r).length - l)) s.1 s.2.1 s.2.2) (0, _, _) (by repeat first | exact sub_nil | refine sub_cons rfl ?_) rfl (Nat.zero_le _) ?_
  rintro ⟨l, e, z⟩ hinv KL92 hKL92
  simp only [sU, sL] at hinv hKL92 ⊢
  have hl := hinv
  have hr5 := tabTo_len (fun g => psM r k g) l
  refine gc_seq fun K93 hK93 => ?_
  refine gc_sr fun K94 hK94 => ?_
  refine gm ?_
  refine gv (qtf underlying27 (z := 0) (off := 1)) ?_
  refine gv (qtl underlying24 (n := 6)) ?_
  refine gv (qln (fun w M => lenV_own1 (n := 2) rfl M)) ?_
  refine gv (qt_lss rfl rfl rfl) ?_
  refine gnt (hK94 _ _ ?_)
  refine gc_cond rfl (fun hc5 => ?_) (fun hc5 => ?_)
  ·try simp only [sA] at hc5
   refine gc_skip ?_
   refine gk_then (hK93 _ _ ?_)
   refine gc_seq fun K95 hK95 => ?_
   refine gc_block ?_
   refine gc_sr fun K96 hK96 => ?_
   refine gas ?_
   refine gnt (hK96 _ _ ?_)
   refine gc_seq fun K97 hK97 => ?_
   refine gc_seq fun K98 hK98 => ?_
   have hf := psF_at (r := r) (f := k) (by omega)
   have hg := psF_at (r := r) (f := l) (by omega)
   have f1 := hf.1.1; have f2 := hf.1.2; have g1 := hg.2.1.1; have g2 := hg.2.1.2
   have hq4 := num_rowI (r := r) (k := r.length) f1 f2
   have hq5 := num_len r r.length
   refine gc_draw (by kernel_rfl) ?_
   refine gdv (qtf underlying27 (z := 0) (off := 2)) ?_
   refine gdv (qtl underlying24 (n := 6)) ?_
   refine gdv (qt_move rfl rfl) ?_
   refine gdv (qti (fun w M => lenA_own1 (n := 3) rfl M)) ?_
   refine gdv (qtd (fun w M => (mem_own1 (n := 3) M rfl).rd)) ?_
   refine gdv (qtf underlying27 (z := 0) (off := 1)) ?_
   refine gdv (qtl underlying24 (n := 6)) ?_
   refine gdv (qt_move rfl rfl) ?_
   refine gdv (qti (fun w M => lenA_own1 (n := 2) rfl M)) ?_
   refine gdv (qtd (fun w M => (mem_own1 (n := 2) M rfl).rd)) ?_
   refine gdv (qt_eql rfl rfl rfl) ?_
   refine gd_nil ?_
   refine gk_then (hK98 _ _ ?_)
   refine gc_cond rfl (fun hc6 => ?_) (fun hc6 => ?_)
   ·try simp only [sA] at hc6
    refine gc_draw (by kernel_rfl) ?_
    refine gdv (qt_move rfl rfl) ?_
    refine gdv (qtf underlying27 (z := 0) (off := 1)) ?_
    refine gdv (qtl underlying24 (n := 6)) ?_
    refine gdv (qt_move rfl rfl) ?_
    refine gdv (qti (fun w M => lenA_own1 (n := 2) rfl M)) ?_
    refine gdv (qtd (fun w M => (mem_own1 (n := 2) M rfl).rd)) ?_
    refine gdv (qti2 (fun w M => lenA_U (n := 1) rfl M)) ?_
    refine gdv (qt_loadU (n := 1) rfl rfl underlying24 rfl rfl (by omega) (by omega)) ?_
    refine gdv (qtf underlying27 (z := 0) (off := 2)) ?_
    refine gdv (qtl underlying24 (n := 6)) ?_
    refine gdv (qt_move rfl rfl) ?_
    refine gdv (qti (fun w M => lenA_own1 (n := 3) rfl M)) ?_
    refine gdv (qtd (fun w M => (mem_own1 (n := 3) M rfl).rd)) ?_
    refine gdv (qt_index rfl rfl rfl ulE1 szE1 (fun w M => lenA_row (n := 1) rfl (by omega) (by omega) M) (by omega) (by omega)) ?_
    refine gdv (qt_load1 rfl rfl underlying2 rfl (fun w M => mem_rowU (n := 1) M rfl (by omega) (by omega)) (by omega) (by omega)) ?_
    refine gdv (qt_assign rfl rfl) ?_
    refine gd_nil ?_
    refine gk_then (hK97 _ _ ?_)
    refine gc_region ?_
    refine gm ?_
    refine gm ?_
    refine gop fun K100 hK100 => ?_
    refine go_slice1 rfl rfl rfl rfl underlying24 ?_
    intro B99
    refine hK100 _ _ ?_
    refine gop fun K102 hK102 => ?_
    refine go_append (n := 7) (m := 8) rfl rfl rfl underlying24 rfl rfl rfl rfl (by omega) ?_
    intro va101 vc101
    refine hK102 _ _ ?_
    refine gas ?_
    refine g_nil ?_
    refine gk_block ?_
    refine gk_then (hK95 _ _ ?_)
    refine gc_region ?_
    refine gm ?_
    refine gv (qt_add rfl rfl rfl (by omega)) ?_
    refine gas ?_
    refine g_nil ?_
    have hv : at0 (row2 (numR r r.length) (at0 (psF r) (k : Int))) (at0 (psT r) (l : Int)) = psM r k l := (num_atI f1 f2 g1 g2).trans (psM_t hc6).symm
    rw [hv]
    simp only [tabTo_succ]
    refine gk_then (gk_take 8 ?_)
    refine gk_sub ?hs_103 (hKL92 (l + 1, _, _) ?hi_103 ?hm_103)
    case hs_103 => repeat first | exact sub_nil | refine sub_cons rfl ?_
    case hi_103 => omega
    case hm_103 => omega
   try simp only [sA] at hc6
   refine gc_skip ?_
   refine gk_then (hK97 _ _ ?_)
   refine gc_region ?_
   refine gm ?_
   refine gm ?_
   refine gop fun K105 hK105 => ?_
   refine go_slice1 rfl rfl rfl rfl underlying24 ?_
   intro B104
   refine hK105 _ _ ?_
   refine gop fun K107 hK107 => ?_
   refine go_append (n := 7) (m := 8) rfl rfl rfl underlying24 rfl rfl rfl rfl (by omega) ?_
   intro va106 vc106
   refine hK107 _ _ ?_
   refine gas ?_
   refine g_nil ?_
   refine gk_block ?_
   refine gk_then (hK95 _ _ ?_)
   refine gc_region ?_
   refine gm ?_
   refine gv (qt_add rfl rfl rfl (by omega)) ?_
   refine gas ?_
   refine g_nil ?_
   have hv : (-1 : Int) = psM r k l := (psM_f hc6).symm
   rw [hv]
   simp only [tabTo_succ]
   refine gk_then (gk_take 8 ?_)
   refine gk_sub ?hs_108 (hKL92 (l + 1, _, _) ?hi_108 ?hm_108)
   case hs_108 => repeat first | exact sub_nil | refine sub_cons rfl ?_
   case hi_108 => omega
   case hm_108 => omega
  try simp only [sA] at hc5
  refine gc_exit ?_
  refine gk_then_exit ?_
  refine gk_then_exit ?_
  refine gk_block_hit ?_
  refine gk_then (hK90 _ _ ?_)
  refine gc_region ?_
  refine gv (qtf underlying27 (z := 0) (off := 4)) ?_
  refine gv (qtl underlying25 (n := 6)) ?_
  refine gm ?_
  refine gop fun K110 hK110 => ?_
  refine go_sliceR1 (m := 7) rfl rfl rfl rfl underlying25 rfl ?_
  intro B109
  refine hK110 _ _ ?_
  refine gop fun K112 hK112 => ?_
  refine go_appendRow (n := 5) (m := 7) (m' := 6) rfl rfl rfl underlying25 rfl rfl rfl rfl rfl (by omega) ?_
  intro va111 vc111
  refine hK112 _ _ ?_
  refine gv (qtf underlying27 (z := 0) (off := 4)) ?_
  refine gop fun K113 hK113 => ?_
  refine go_storeB (n := 6) rfl rfl rfl rfl (by kernel_rfl) rfl rfl rfl (by first | decide | simp) ?_
  refine hK113 _ _ ?_
  refine g_nil ?_
  refine gk_block ?_
  refine gk_then (hK86 _ _ ?_)
  refine gc_region ?_
  refine gm ?_
  refine gv (qt_add rfl rfl rfl (by omega)) ?_
  refine gas ?_
  refine g_nil ?_
  obtain rfl : l = (psF r).length := by omega
  simp only [rowsTo_succ]
  refine gk_then (gk_take 7 ?_)
  refine gk_sub ?hs_114 (hKL83 (k + 1, _, _, _) ?hi_114 ?hm_114)
  case hs_114 => repeat first | exact sub_nil | refine sub_cons rfl ?_
  case hi_114 => omega
  case hm_114 => omega
 try simp only [sA] at hc4
 refine gc_exit ?_
 refine gk_then_exit ?_
 refine gk_then_exit ?_
 refine gk_block_hit ?_
 refine gk_then (hK81 _ _ ?_)
 refine gc_sr fun K115 hK115 => ?_
 refine gv (qts underlying27 (n := 6)) ?_
 refine gop fun K116 hK116 => ?_
 refine gss 0 ?_
 refine hK116 _ _ ?_
 refine gnt (hK115 _ _ ?_)
 refine gc_ret ?_
 refine ret_S (n := 0) rfl rfl underlying27 rfl (by kernel_rfl) rfl (fun w M => ?_)
 obtain rfl : k = (psF r).length := by omega
 exact ⟨_, rfl, ownC_star (c := posetC r) (mem_pick (n := 5) (mem_pick (n := 5) (mem_pick (n := 5) (mem_pick (n := 5) (M) rfl) rfl) rfl) rfl).2, M.1⟩
end Go.Proofs.Ytbiplocgenppoaa
namespace Go.Proofs.Ytbiplocgenppoaa
open _root_.Go.Proofs.Try
open Go.RowKit
theorem peL_pk (r : List (List Int)) (i : Nat) : ∀ d k : Nat, peL r i k <+: peL r i (k + d)
  | 0, k => List.prefix_refl _
  | d + 1, k => by
    refine (peL_pk r i d k).trans ?_
    by_cases h : at0 (row2 r (i : Int)) ((k + d : Nat) : Int) = 1
    · rw [← Nat.add_assoc, ← peL_t h]; exact List.prefix_append _ _
    rw [← Nat.add_assoc, ← peL_f h]; exact List.prefix_refl _
theorem peL_pi (r : List (List Int)) (i : Nat) : ∀ d : Nat, peL r i 0 <+: peL r (i + d) 0
  | 0 => List.prefix_refl _
  | d + 1 => by
    refine (peL_pi r i d).trans ?_
    rw [← Nat.add_assoc, ← peL_row]
    have := peL_pk r (i + d) r.length 0
    rwa [Nat.zero_add] at this
theorem peL_pre {r : List (List Int)} {i k : Nat} (hi : i < r.length) (hk : k ≤ r.length) : peL r i k <+: peL r r.length 0 := by
  have h1 := peL_pk r i (r.length - k) k
  rw [show k + (r.length - k) = r.length from by omega, peL_row] at h1
  have h2 := peL_pi r (i + 1) (r.length - (i + 1))
  rw [show i + 1 + (r.length - (i + 1)) = r.length from by omega] at h2
  exact h1.trans h2
theorem pe_at {r : List (List Int)} {a b : Nat} (ha : a < r.length) (hb : b < r.length) (h : at0 (row2 r (a : Int)) (b : Int) = 1) : (fsL r a b).length < (psF r).length ∧ at0 (psF r) ((fsL r a b).length : Int) = a ∧ at0 (psT r) ((fsL r a b).length : Int) = b := by
  obtain ⟨t, ht⟩ := peL_pre (r := r) (i := a) (k := b + 1) ha (by omega)
  rw [← peL_t h] at ht
  have hl : (fsL r a b).length = (peL r a b).length := fsL_len r a b
  have hg : (peL r r.length 0)[(peL r a b).length]? = some ((a : Int), (b : Int), true) := by
    rw [← ht, List.append_assoc, List.getElem?_append_right (Nat.le_refl _), Nat.sub_self]; rfl
  have hlt := (List.getElem?_eq_some_iff.1 hg).1
  refine ⟨by rw [psF, fsL_len, fsL_len]; exact hlt, ?_, ?_⟩
  · rw [hl, at0_nat, psF, fsL, List.getD_eq_getElem?_getD, List.getElem?_map, hg]; rfl
  rw [hl, at0_nat, psT, tsL, List.getD_eq_getElem?_getD, List.getElem?_map, hg]; rfl
structure PreP (r : List (List Int)) : Prop where
  refl : ∀ i : Nat, i < r.length → at0 (row2 r (i : Int)) (i : Int) = 1
  trans : ∀ i j k : Nat, i < r.length → j < r.length → k < r.length → at0 (row2 r (i : Int)) (j : Int) = 1 → at0 (row2 r (j : Int)) (k : Int) = 1 → at0 (row2 r (i : Int)) (k : Int) = 1
theorem pos_shape {r : List (List Int)} (hP : PreP r) (hn : r.length ≤ 8) (hm : (psF r).length ≤ 40) : ShapeP (posetC r) := by
  have htl : (psT r).length = (psF r).length := tsL_len _ _ _
  refine shape_by (N := r.length) (m := (psF r).length) (S := fun f => at0 (psF r) (f : Int)) (T := fun f => at0 (psT r) (f : Int)) (E := fun x => ((fsL r x x).length : Int)) (M := psM r) rfl hn hm rfl htl (tabTo_len _ _) (rowsTo_len _ _)
    (fun f hf => by show (row2 (rowsTo _ _) _).length = _; rw [rowsTo_at _ hf, tabTo_len]) (fun f hf => rfl) (fun f hf => rfl) (fun x hx => by show at0 (tabTo _ _) _ = _; rw [tabTo_at _ hx]) (fun f g hf hg => by show at0 (row2 (rowsTo _ _) _) _ = _; rw [rowsTo_at _ hf, tabTo_at _ hg])
    (fun f hf => (psF_at hf).1) (fun f hf => (psF_at hf).2.1) (fun x hx => ?_) (fun f g hf hg => ?_)
  · have h := pe_at hx hx (hP.refl x hx)
    simp only [Int.toNat_natCast]
    exact ⟨by omega, by omega, h.2.1, h.2.2⟩
  refine ⟨fun he => ?_, fun he => psM_f he⟩
  obtain ⟨⟨a0, a1⟩, ⟨b0, b1⟩, hab⟩ := psF_at hf
  obtain ⟨⟨c0, c1⟩, ⟨d0, d1⟩, hcd⟩ := psF_at hg
  obtain ⟨a, ha⟩ := Int.eq_ofNat_of_zero_le a0
  obtain ⟨b, hb⟩ := Int.eq_ofNat_of_zero_le b0
  obtain ⟨d, hd⟩ := Int.eq_ofNat_of_zero_le d0
  have he : at0 (psT r) (f : Int) = at0 (psF r) (g : Int) := he
  rw [psM_t he, ha, hd, Int.toNat_natCast, Int.toNat_natCast]
  rw [← he, hb, hd] at hcd
  rw [ha, hb] at hab
  have h := pe_at (a := a) (b := d) (by omega) (by omega) (hP.trans a b d (by omega) (by omega) (by omega) hab hcd)
  simp only [Int.toNat_natCast]
  exact ⟨by omega, by omega, h.2.1, h.2.2⟩
end Go.Proofs.Ytbiplocgenppoaa
namespace Go.Proofs.Ytbiplocgenppoaa
open _root_.Go.Proofs.Try
open Go.RowKit
theorem war_in {R Q D : Nat → Nat → Prop} {k : Nat} (h : ∀ a b, Q a b ↔ R a b ∨ (D a b ∧ R a k ∧ R k b)) : (∀ a, Q a k ↔ R a k) ∧ ∀ b, Q k b ↔ R k b :=
  ⟨fun a => ⟨fun hq => ((h a k).1 hq).elim id fun x => x.2.1, fun hr => (h a k).2 (.inl hr)⟩, fun b => ⟨fun hq => ((h k b).1 hq).elim id fun x => x.2.2, fun hr => (h k b).2 (.inl hr)⟩⟩
def WarP (R : Nat → Nat → Prop) (k : Nat) : Prop := ∀ l, l < k → ∀ i j, R i l → R l j → R i j
theorem war_0 (R : Nat → Nat → Prop) : WarP R 0 := fun l hl => absurd hl (by omega)
theorem war_step {R Q : Nat → Nat → Prop} {k : Nat} (hR : WarP R k) (h : ∀ a b, Q a b ↔ R a b ∨ (R a k ∧ R k b)) : WarP Q (k + 1) := fun l hl i j h1 h2 => by
  have h1 := (h i l).1 h1
  have h2 := (h l j).1 h2
  refine (h i j).2 ?_
  by_cases hk : l = k
  · subst hk
    exact .inr ⟨h1.elim id fun x => x.1, h2.elim id fun x => x.2⟩
  have hlk : l < k := by omega
  rcases h1 with a | ⟨a, b⟩ <;> rcases h2 with c | ⟨c, d⟩
  · exact .inl (hR l hlk i j a c)
  · exact .inr ⟨hR l hlk i k a c, d⟩
  · exact .inr ⟨a, hR l hlk k j b c⟩
  exact .inr ⟨a, d⟩
def relA (r : List (List Int)) (i j : Nat) : Prop := at0 (row2 r (i : Int)) (j : Int) = 1
theorem preP_war {r : List (List Int)} (hd : ∀ i : Nat, i < r.length → relA r i i) (hW : WarP (fun i j => i < r.length ∧ j < r.length ∧ relA r i j) r.length) : PreP r where
  refl i hi := hd i hi
  trans i j k hi hj hk h1 h2 := (hW j hj i k ⟨hi, hj, h1⟩ ⟨hj, hk, h2⟩).2.2
end Go.Proofs.Ytbiplocgenppoaa
namespace Go.Proofs.Ytbiplocgenppoaa
open _root_.Go.Proofs.Try
open Go.RowKit
section
variable {w0 : World} {is : List Itm} {Q : Exit → Act → World → Prop} {o : Oper} {N : Frm} {e : Env} {v : Value} {K : Act → World → Prop}
theorem go_storeU {t : TypeId} {x y : Operand} {n : Nat} {us : List Value} {rows : List (List Int)} {i j z : Int} (hd : o.dst = none) (hop : o.op = .store t x y) (hx : evo e x = some (eltP (us.getD i.toNat undef) j)) (hy : evo e y = some (.int .i64 z))
    (hs : (Try.prog.info? t).map (·.size) = some 1) (hi : is[n]? = some (own2U v us rows)) (i0 : 0 ≤ i) (i1 : i < rows.length) (j0 : 0 ≤ j) (j1 : j < (row2 rows i).length)
    (hk : GK w0 (is.set n (own2U v us (rows.set i.toNat ((row2 rows i).set j.toNat z)))) N K e) : GO w0 is N o e Q K := by
  intro w ac M F
  obtain ⟨S, hS, hp, hset⟩ := mem_set M hi
  have hp' : Own2U v us rows w S := hp
  obtain ⟨h1, h2, h3, h4, h5, h6⟩ := hp'
  have hlt : i.toNat < rows.length := by omega
  have hrow := h4 i.toNat hlt
  have hj : j.toNat < (rows.getD i.toNat []).length := by have : (row2 rows i).length = (rows.getD i.toNat []).length := rfl; omega
  obtain ⟨a, cap, hu, hf⟩ := sl_form hrow.1
  obtain ⟨g, rfl⟩ := hf j.toNat hj
  have hsl := hrow.1
  rw [hu] at hsl
  have hcell := sl_cell hsl hj
  have hfz := sl_frozen hsl j.toNat
  have hst := sl_set hsl j.toNat z
  have hgS : S g := hrow.2.2 g (by rw [hu]; rfl)
  have hne : ∀ u : Value, (∀ q, u.ownBlock = some q → q ≠ g) → u.ownBlock = none ∨ u.ownBlock ≠ some g := fun u hq => by
    cases hb : u.ownBlock with
    | none => exact .inl rfl
    | some q => exact .inr fun e => hq q hb (by simpa using e)
  refine go_skip (w' := w.setCell ⟨g, j.toNat, none⟩ (.int .i64 z)) hd F ?_ fun ac F => hk _ ac (hset _ _ ⟨hst.2.os, hst.2.tape, hst.2.output, hst.2.size, fun q hq hs => hst.2.block q hq fun e => hs (by rw [Option.some.inj e]; exact hgS)⟩ ⟨by simpa using h1, by simpa using h2, ?_, fun m hm => ?_, fun m m' hm hm' => h5 m m' hm (by simpa using hm'), fun q hq => .inl (h6 q hq)⟩) F
  · intro ρ F; have hx := F _ _ hx; have hy := F _ _ hy
    have he : eltP (us.getD i.toNat undef) j = .pointer (some ⟨g, j.toNat, none⟩) := by rw [hu]; simp [eltP]
    rw [he] at hx
    simp [execOp, hop, hx, hy, run_store1 hs (u := .int .i64 z) rfl rfl hcell hfz]
  · have := own_agree h3 (w' := w.setCell ⟨g, j.toNat, none⟩ (.int .i64 z)) fun q hq hv => hst.2.block q hq fun e => by
      have hqg : q = g := by have := Option.some.inj e; omega
      exact hrow.2.1 g (by rw [hu]; rfl) (by rw [hv, hqg])
    simpa using this
  simp only [List.length_set] at hm
  rw [getD_set2 rows i.toNat _ [] m (by omega)]
  by_cases hmi : m = i.toNat
  · subst hmi
    rw [if_pos rfl, hu]
    exact ⟨hst.1, by rw [← hu]; exact hrow.2.1, fun q hq => .inl (hrow.2.2 q (by rw [hu]; exact hq))⟩
  rw [if_neg hmi]
  refine ⟨sl_kept (h4 m hm).1 hst.2 (hne _ fun q hq e => ?_), (h4 m hm).2.1, fun q hq => .inl ((h4 m hm).2.2 q hq)⟩
  rcases Nat.lt_or_ge m i.toNat with h | h
  · exact h5 m i.toNat h hlt q hq (by rw [hu, e]; rfl)
  exact h5 i.toNat m (by omega) hm g (by rw [hu]; rfl) (by rw [hq, e])
end
end Go.Proofs.Ytbiplocgenppoaa
