import Derived.Test.YtbiplocgenppoaaS4
import Derived.Test.YtbiplocgenppoaaS10
import Derived.Test.YtbiplocgenppoaaS11
import Derived.Test.YtbiplocgenppoaaS12
set_option maxHeartbeats 1000000
set_option maxRecDepth 100000
set_option linter.unusedSimpArgs false
set_option linter.unusedVariables false
set_option linter.unusedSectionVars false
namespace Go.Proofs.Ytbiplocgenppoaa
open _root_.Go.Proofs.Try
open Go.RowKit
theorem specMono_any (w : World) (v : Value) (c : Cat) (f : Int) (h : RdC w v c) (hS : ShapeP c) (f0 : 0 ≤ f) (f1 : f < c.s.length) :
  Calls Try.prog 26 #[v, .int .i64 f] w (RetB w (bP (monoP c f))) := by
 have h0 := h
 obtain ⟨va, vb, vc, vd, ve, vf, vg, vh, rfl, h1, h2, h3, h4, _⟩ := h.lists
 have hf := arrP hS f0 f1
 have e1 := hf.fs; have e2 := hf.ft; have e3 := hf.fm; have e4 := hf.s0; have e5 := hf.s1; have e6 := hf.t0; have e7 := hf.t1; have e8 := hf.row
 have hn40 := hS.n40; have htl := hS.tl; have hel := hS.el
 go_enter func26, Try.ntmps26
 refine gc_enter (N := 79) rfl (look_cons (k := 0) rfl (look_cons (k := 1) rfl (look_nil _))) ?_
 refine gc_sr fun K1 hK1 => ?_
 refine gop fun K3 hK3 => ?_
 refine go_box rfl rfl rfl rfl rfl ?_
 intro B2
 refine hK3 _ _ ?_
 refine gas ?_
 refine gnt (hK1 _ _ ?_)
 refine gc_seq fun K4 hK4 => ?_
 refine gc_sr fun K5 hK5 => ?_
 refine gas ?_
 refine gnt (hK5 _ _ ?_)
 refine gc_block ?_
 try simp only [sL]
 refine gc_loopT ([(0, _), (1, _), (2, _)] : Env) (fun s : Nat => (fun (k : Nat) => (([(5, .int .i64 (k : Int))] : Env), ([] : List (Nat × Itm)), k ≤ c.s.length ∧ noB (badM c f) c.s.length k 0, c.s.length - k)) s) (0) (by repeat first | exact sub_nil | refine sub_cons rfl ?_) rfl ⟨Nat.zero_le _, noB_zero _ _⟩ ?_
 rintro k hinv KL6 hKL6
 simp only [sU, sL] at hinv hKL6 ⊢
 obtain ⟨hk, hno⟩ := hinv
 refine gc_seq fun K7 hK7 => ?_
 refine gc_sr fun K8 hK8 => ?_
 refine gm ?_
 refine gv (qtf underlying27 (z := 0) (off := 1)) ?_
 refine gv (qtl underlying24 (n := 0)) ?_
 refine gv (qln (fun w M => lenV_rd h1)) ?_
 refine gv (qt_lss rfl rfl rfl) ?_
 refine gnt (hK8 _ _ ?_)
 refine gc_cond rfl (fun hc0 => ?_) (fun hc0 => ?_)
 ·try simp only [sA] at hc0
  refine gc_skip ?_
  refine gk_then (hK7 _ _ ?_)
  refine gc_seq fun K9 hK9 => ?_
  refine gc_block ?_
  refine gc_sr fun K10 hK10 => ?_
  refine gm ?_
  refine gv (qt_add rfl rfl rfl (by omega)) ?_
  refine gas ?_
  refine gnt (hK10 _ _ ?_)
  refine gc_block ?_
  try simp only [sL]
  refine gc_loopT ([(0, _), (1, _), (2, _), (5, _), (11, _)] : Env) (fun s : Nat => (fun (l : Nat) => (([(6, .int .i64 (l : Int))] : Env), ([] : List (Nat × Itm)), k + 1 ≤ l ∧ l ≤ c.s.length ∧ noB (badM c f) c.s.length k l, c.s.length - l)) s) (k + 1) (by repeat first | exact sub_nil | refine sub_cons rfl ?_) rfl ⟨Nat.le_refl _, by omega, noB_row hno⟩ ?_
  rintro l hinv KL11 hKL11
  simp only [sU, sL] at hinv hKL11 ⊢
  obtain ⟨hl0, hl1, hno1⟩ := hinv
  refine gc_seq fun K12 hK12 => ?_
  refine gc_sr fun K13 hK13 => ?_
  refine gm ?_
  refine gv (qtf underlying27 (z := 0) (off := 1)) ?_
  refine gv (qtl underlying24 (n := 0)) ?_
  refine gv (qln (fun w M => lenV_rd h1)) ?_
  refine gv (qt_lss rfl rfl rfl) ?_
  refine gnt (hK13 _ _ ?_)
  refine gc_cond rfl (fun hc1 => ?_) (fun hc1 => ?_)
  ·try simp only [sA] at hc1
   refine gc_skip ?_
   refine gk_then (hK12 _ _ ?_)
   refine gc_seq fun K14 hK14 => ?_
   refine gc_block ?_
   refine gc_seq fun K15 hK15 => ?_
   have hA := arrP hS (f := (k : Int)) (by omega) (by omega)
   have hB := arrP hS (f := (l : Int)) (by omega) (by omega)
   have a1 := hA.fs; have a2 := hA.ft; have a3 := hA.fm; have a4 := hA.row; have b1 := hB.fs; have b2 := hB.ft; have b3 := hB.fm; have b4 := hB.row
   refine gc_draw (by kernel_rfl) ?_
   refine gdv (qtf underlying27 (z := 0) (off := 1)) ?_
   refine gdv (qtl underlying24 (n := 0)) ?_
   refine gdv (qt_move rfl rfl) ?_
   refine gdv (qti (fun w M => lenA_rd h1)) ?_
   refine gdv (qtd (fun w M => mem_rd M h1)) ?_
   refine gdv (qtf underlying27 (z := 0) (off := 1)) ?_
   refine gdv (qtl underlying24 (n := 0)) ?_
   refine gdv (qt_move rfl rfl) ?_
   refine gdv (qti (fun w M => lenA_rd h1)) ?_
   refine gdv (qtd (fun w M => mem_rd M h1)) ?_
   refine gdv (qt_eql rfl rfl rfl) ?_
   refine gd_splitv (.free rfl) rfl rfl (qt_move rfl rfl) (fun hs7_11 => ?_) (fun hs7_11 => ?_)
   ·try simp only [sA] at hs7_11
    refine gdvh (qtf underlying27 (z := 0) (off := 2)) ?_
    refine gdvh (qtl underlying24 (n := 0)) ?_
    refine gdvh (qt_move rfl rfl) ?_
    refine gdvh (qti (fun w M => lenA_rd h2)) ?_
    refine gdvh (qtd (fun w M => mem_rd M h2)) ?_
    refine gdvh (qtf underlying27 (z := 0) (off := 1)) ?_
    refine gdvh (qtl underlying24 (n := 0)) ?_
    refine gdvh (qt_move rfl rfl) ?_
    refine gdvh (qti (fun w M => lenA_rd h1)) ?_
    refine gdvh (qtd (fun w M => mem_rd M h1)) ?_
    refine gdvh (qt_eql rfl rfl rfl) ?_
    refine gdv (qt_pick_t rfl rfl rfl) ?_
    refine gd_splitv (.free rfl) rfl rfl (qt_move rfl rfl) (fun hs7_24 => ?_) (fun hs7_24 => ?_)
    ·try simp only [sA] at hs7_24
     refine gdvh (qtf underlying27 (z := 0) (off := 2)) ?_
     refine gdvh (qtl underlying24 (n := 0)) ?_
     refine gdvh (qt_move rfl rfl) ?_
     refine gdvh (qti (fun w M => lenA_rd h2)) ?_
     refine gdvh (qtd (fun w M => mem_rd M h2)) ?_
     refine gdvh (qtf underlying27 (z := 0) (off := 1)) ?_
     refine gdvh (qtl underlying24 (n := 0)) ?_
     refine gdvh (qt_move rfl rfl) ?_
     refine gdvh (qti (fun w M => lenA_rd h1)) ?_
     refine gdvh (qtd (fun w M => mem_rd M h1)) ?_
     refine gdvh (qt_eql rfl rfl rfl) ?_
     refine gdv (qt_pick_t rfl rfl rfl) ?_
     refine gd_splitv (.free rfl) rfl rfl (qt_move rfl rfl) (fun hs7_37 => ?_) (fun hs7_37 => ?_)
     ·try simp only [sA] at hs7_37
      refine gdvh (qtf underlying27 (z := 0) (off := 4)) ?_
      refine gdvh (qtl underlying25 (n := 0)) ?_
      refine gdvh (qt_move rfl rfl) ?_
      refine gdvh (qti2 (fun w M => lenA_rd2 h4)) ?_
      refine gd_load2 (.held _ _ _ rfl rfl rfl) rfl rfl rfl rfl underlying24 rfl h4 (by omega) (by omega) ?_
      intro ra16 rc16 hr16
      refine gdvh (qt_move rfl rfl) ?_
      refine gdvh (qti (fun w M => lenA_rd hr16)) ?_
      refine gdvh (qtd (fun w M => mem_rd M hr16)) ?_
      refine gdvh (qtf underlying27 (z := 0) (off := 4)) ?_
      refine gdvh (qtl underlying25 (n := 0)) ?_
      refine gdvh (qt_move rfl rfl) ?_
      refine gdvh (qti2 (fun w M => lenA_rd2 h4)) ?_
      refine gd_load2 (.held _ _ _ rfl rfl rfl) rfl rfl rfl rfl underlying24 rfl h4 (by omega) (by omega) ?_
      intro ra17 rc17 hr17
      refine gdvh (qt_move rfl rfl) ?_
      refine gdvh (qti (fun w M => lenA_rd hr17)) ?_
      refine gdvh (qtd (fun w M => mem_rd M hr17)) ?_
      refine gdvh (qt_eql rfl rfl rfl) ?_
      refine gdv (qt_pick_t rfl rfl rfl) ?_
      refine gd_nil ?_
      refine gk_then (hK15 _ _ ?_)
      refine gc_cond rfl (fun hc2 => ?_) (fun hc2 => ?_)
      ·try simp only [sA] at hc2
       refine gc_sr fun K18 hK18 => ?_
       refine gas ?_
       refine gnt (hK18 _ _ ?_)
       refine gc_ret ?_
       refine gk_block_ret ?_
       refine gk_then_ret ?_
       refine gk_then_ret ?_
       refine gk_block_ret ?_
       refine gk_block_ret ?_
       refine gk_then_ret ?_
       refine gk_then_ret ?_
       refine gk_block_ret ?_
       refine gk_then_ret ?_
       refine ret_1 rfl rfl  (fun w M => ?_)
       rw [bP_f (mono_not hS f0 f1 (g := k) (h := l) (by omega) (by omega) ⟨hs7_11, hs7_24, hs7_37, hc2⟩)]; exact ⟨rfl, M.1⟩
      try simp only [sA] at hc2
      refine gc_skip ?_
      refine gk_block ?_
      refine gk_then (hK14 _ _ ?_)
      refine gc_region ?_
      refine gm ?_
      refine gv (qt_add rfl rfl rfl (by omega)) ?_
      refine gas ?_
      refine g_nil ?_
      refine gk_then (gk_take 1 ?_)
      refine gk_sub ?hs_19 (hKL11 (l + 1) ?hi_19 ?hm_19)
      case hs_19 => repeat first | exact sub_nil | refine sub_cons rfl ?_
      case hi_19 => exact ⟨by omega, by omega, noB_next hno1 fun h => hc2 h.2.2.2⟩
      case hm_19 => omega
     try simp only [sA] at hs7_37
     refine gdsk ?_
     refine gdsk ?_
     refine gdsk ?_
     refine gdsk ?_
     refine gdsk ?_
     refine gdsk ?_
     refine gdsk ?_
     refine gdsk ?_
     refine gdsk ?_
     refine gdsk ?_
     refine gdsk ?_
     refine gdsk ?_
     refine gdsk ?_
     refine gdsk ?_
     refine gdsk ?_
     refine gdsk ?_
     refine gdsk ?_
     refine gdv (qt_pick_f rfl rfl rfl) ?_
     refine gd_nil ?_
     refine gk_then (hK15 _ _ ?_)
     refine gc_cond_f rfl ?_
     refine gc_skip ?_
     refine gk_block ?_
     refine gk_then (hK14 _ _ ?_)
     refine gc_region ?_
     refine gm ?_
     refine gv (qt_add rfl rfl rfl (by omega)) ?_
     refine gas ?_
     refine g_nil ?_
     refine gk_then (gk_take 1 ?_)
     refine gk_sub ?hs_20 (hKL11 (l + 1) ?hi_20 ?hm_20)
     case hs_20 => repeat first | exact sub_nil | refine sub_cons rfl ?_
     case hi_20 => exact ⟨by omega, by omega, noB_next hno1 fun h => hs7_37 h.2.2.1⟩
     case hm_20 => omega
    try simp only [sA] at hs7_24
    refine gdsk ?_
    refine gdsk ?_
    refine gdsk ?_
    refine gdsk ?_
    refine gdsk ?_
    refine gdsk ?_
    refine gdsk ?_
    refine gdsk ?_
    refine gdsk ?_
    refine gdsk ?_
    refine gdsk ?_
    refine gdv (qt_pick_f rfl rfl rfl) ?_
    refine gdv (qt_move rfl rfl) ?_
    refine gdsk ?_
    refine gdsk ?_
    refine gdsk ?_
    refine gdsk ?_
    refine gdsk ?_
    refine gdsk ?_
    refine gdsk ?_
    refine gdsk ?_
    refine gdsk ?_
    refine gdsk ?_
    refine gdsk ?_
    refine gdsk ?_
    refine gdsk ?_
    refine gdsk ?_
    refine gdsk ?_
    refine gdsk ?_
    refine gdsk ?_
    refine gdv (qt_pick_f rfl rfl rfl) ?_
    refine gd_nil ?_
    refine gk_then (hK15 _ _ ?_)
    refine gc_cond_f rfl ?_
    refine gc_skip ?_
    refine gk_block ?_
    refine gk_then (hK14 _ _ ?_)
    refine gc_region ?_
    refine gm ?_
    refine gv (qt_add rfl rfl rfl (by omega)) ?_
    refine gas ?_
    refine g_nil ?_
    refine gk_then (gk_take 1 ?_)
    refine gk_sub ?hs_21 (hKL11 (l + 1) ?hi_21 ?hm_21)
    case hs_21 => repeat first | exact sub_nil | refine sub_cons rfl ?_
    case hi_21 => exact ⟨by omega, by omega, noB_next hno1 fun h => hs7_24 h.2.1⟩
    case hm_21 => omega
   try simp only [sA] at hs7_11
   refine gdsk ?_
   refine gdsk ?_
   refine gdsk ?_
   refine gdsk ?_
   refine gdsk ?_
   refine gdsk ?_
   refine gdsk ?_
   refine gdsk ?_
   refine gdsk ?_
   refine gdsk ?_
   refine gdsk ?_
   refine gdv (qt_pick_f rfl rfl rfl) ?_
   refine gdv (qt_move rfl rfl) ?_
   refine gdsk ?_
   refine gdsk ?_
   refine gdsk ?_
   refine gdsk ?_
   refine gdsk ?_
   refine gdsk ?_
   refine gdsk ?_
   refine gdsk ?_
   refine gdsk ?_
   refine gdsk ?_
   refine gdsk ?_
   refine gdv (qt_pick_f rfl rfl rfl) ?_
   refine gdv (qt_move rfl rfl) ?_
   refine gdsk ?_
   refine gdsk ?_
   refine gdsk ?_
   refine gdsk ?_
   refine gdsk ?_
   refine gdsk ?_
   refine gdsk ?_
   refine gdsk ?_
   refine gdsk ?_
   refine gdsk ?_
   refine gdsk ?_
   refine gdsk ?_
   refine gdsk ?_
   refine gdsk ?_
   refine gdsk ?_
   refine gdsk ?_
   refine gdsk ?_
   refine gdv (qt_pick_f rfl rfl rfl) ?_
   refine gd_nil ?_
   refine gk_then (hK15 _ _ ?_)
   refine gc_cond_f rfl ?_
   refine gc_skip ?_
   refine gk_block ?_
   refine gk_then (hK14 _ _ ?_)
   refine gc_region ?_
   refine gm ?_
   refine gv (qt_add rfl rfl rfl (by omega)) ?_
   refine gas ?_
   refine g_nil ?_
   refine gk_then (gk_take 1 ?_)
   refine gk_sub ?hs_22 (hKL11 (l + 1) ?hi_22 ?hm_22)
   case hs_22 => repeat first | exact sub_nil | refine sub_cons rfl ?_
   case hi_22 => exact ⟨by omega, by omega, noB_next hno1 fun h => hs7_11 h.1⟩
   case hm_22 => omega
  try simp only [sA] at hc1
  refine gc_exit ?_
  refine gk_then_exit ?_
  refine gk_then_exit ?_
  refine gk_block_hit ?_
  refine gk_block ?_
  refine gk_then (hK9 _ _ ?_)
  refine gc_region ?_
  refine gm ?_
  refine gv (qt_add rfl rfl rfl (by omega)) ?_
  refine gas ?_
  refine g_nil ?_
  refine gk_then (gk_take 1 ?_)
  refine gk_sub ?hs_23 (hKL6 (k + 1) ?hi_23 ?hm_23)
  case hs_23 => repeat first | exact sub_nil | refine sub_cons rfl ?_
  case hi_23 => exact ⟨by omega, noB_end hno1 (by omega)⟩
  case hm_23 => omega
 try simp only [sA] at hc0
 refine gc_exit ?_
 refine gk_then_exit ?_
 refine gk_then_exit ?_
 refine gk_block_hit ?_
 refine gk_then (hK4 _ _ ?_)
 refine gc_sr fun K24 hK24 => ?_
 refine gas ?_
 refine gnt (hK24 _ _ ?_)
 refine gc_ret ?_
 refine ret_1 rfl rfl  (fun w M => ?_)
 obtain rfl : k = c.s.length := by omega
 rw [bP_t (mono_of hS f0 f1 hno)]; exact ⟨rfl, M.1⟩
end Go.Proofs.Ytbiplocgenppoaa
namespace Go.Proofs.Ytbiplocgenppoaa
open _root_.Go.Proofs.Try
open Go.RowKit
theorem grid_div {m a b : Nat} (h : b < m) : (m * a + b) / m = a := by
  rw [Nat.mul_add_div (by omega), Nat.div_eq_of_lt h, Nat.add_zero]
theorem grid_mod {m a b : Nat} (h : b < m) : (m * a + b) % m = b := by
  rw [Nat.mul_add_mod, Nat.mod_eq_of_lt h]
theorem grid_le {n m a b : Nat} (ha : a < n) (hb : b ≤ m) : m * a + b ≤ m * n := by
  have h1 : m * (a + 1) ≤ m * n := Nat.mul_le_mul_left _ ha
  rw [Nat.mul_succ] at h1; omega
theorem grid_divlt {n m k : Nat} (h : k < m * n) : k / m < n := Nat.div_lt_of_lt_mul h
theorem grid_modlt {n m k : Nat} (h : k < m * n) : k % m < m := by
  refine Nat.mod_lt _ ?_
  rcases Nat.eq_zero_or_pos m with h0 | h0
  · subst h0; simp at h
  exact h0
theorem grid_eq (k m : Nat) : m * (k / m) + k % m = k := Nat.div_add_mod k m
theorem mix_inj {a b x y n : Int} (hx : 0 ≤ x ∧ x < n) (hy : 0 ≤ y ∧ y < n) (h : a * n + x = b * n + y) : a = b ∧ x = y := by
  have hn : n ≠ 0 := by omega
  have h1 : (x + a * n) / n = a := by rw [Int.add_mul_ediv_right _ _ hn, Int.ediv_eq_zero_of_lt hx.1 hx.2, Int.zero_add]
  have h2 : (y + b * n) / n = b := by rw [Int.add_mul_ediv_right _ _ hn, Int.ediv_eq_zero_of_lt hy.1 hy.2, Int.zero_add]
  have h3 : a = b := by rw [← h1, ← h2]; congr 1; omega
  subst h3
  exact ⟨rfl, by omega⟩
def tab2 (φ : Nat → Nat → Int) (m a b : Nat) : List Int := tabTo (fun k => φ (k / m) (k % m)) (m * a + b)
theorem tab2_succ {φ : Nat → Nat → Int} {m a b : Nat} (h : b < m) : tab2 φ m a b ++ [φ a b] = tab2 φ m a (b + 1) := by
  unfold tab2; rw [← Nat.add_assoc, ← tabTo_succ, grid_div h, grid_mod h]
theorem tab2_row (φ : Nat → Nat → Int) (m a : Nat) : tab2 φ m a m = tab2 φ m (a + 1) 0 := rfl
theorem tab2_len (φ : Nat → Nat → Int) (m a b : Nat) : (tab2 φ m a b).length = m * a + b := tabTo_len _ _
theorem tab2_at (φ : Nat → Nat → Int) {n m i : Nat} (h : i < m * n) : at0 (tab2 φ m n 0) (i : Int) = φ (i / m) (i % m) := tabTo_at _ (by omega)
def rows2 (ψ : Nat → Nat → List Int) (m a b : Nat) : List (List Int) := rowsTo (fun k => ψ (k / m) (k % m)) (m * a + b)
theorem rows2_succ {ψ : Nat → Nat → List Int} {m a b : Nat} (h : b < m) : rows2 ψ m a b ++ [ψ a b] = rows2 ψ m a (b + 1) := by
  unfold rows2; rw [← Nat.add_assoc, ← rowsTo_succ, grid_div h, grid_mod h]
theorem rows2_row (ψ : Nat → Nat → List Int) (m a : Nat) : rows2 ψ m a m = rows2 ψ m (a + 1) 0 := by unfold rows2; rfl
theorem rows2_len (ψ : Nat → Nat → List Int) (m a b : Nat) : (rows2 ψ m a b).length = m * a + b := rowsTo_len _ _
theorem rows2_at (ψ : Nat → Nat → List Int) {n m i : Nat} (h : i < m * n) : row2 (rows2 ψ m n 0) (i : Int) = ψ (i / m) (i % m) := rowsTo_at _ (by omega)
section
variable {w0 : World} {is : List Itm} {o : Oper} {e : Env}
theorem qt_rem {x y : Operand} {t u : TypeId} {a b : Int} (hop : o.op = .binOp .rem t x y u) (hx : evo e x = some (.int .i64 a)) (hy : evo e y = some (.int .i64 b)) (h0 : 0 ≤ a) (h1 : a ≤ 9223372036854775807) (hb : 0 < b) : QV w0 is o e (.int .i64 (a % b)) :=
  fun w ac M F => by
    have hx := F _ _ hx; have hy := F _ _ hy
    have hb0 : b ≠ 0 := by omega
    have hd0 : 0 ≤ a % b := Int.emod_nonneg _ hb0
    have hd : a % b ≤ a := by have h2 := Int.emod_add_mul_ediv a b; have h3 := Int.mul_nonneg (a := b) (b := a / b) (by omega) (Int.ediv_nonneg h0 (by omega)); omega
    simp [execOp, hop, hx, hy, go_sem, Op.intArith, hb0]
    rw [Int.tmod_eq_emod_of_nonneg h0]
end
section
variable {w0 : World} {is : List Itm} {Q : Exit → Act → World → Prop} {o : Oper} {N : Frm} {e : Env} {v : Value} {d : Nat} {K : Act → World → Prop} {f : FuncId} {fn : Func} {ags : Array Operand} {ts : Array TypeId} {vs : List Value}
end
end Go.Proofs.Ytbiplocgenppoaa
namespace Go.Proofs.Ytbiplocgenppoaa
open _root_.Go.Proofs.Try
open Go.RowKit
section
variable {w0 : World} {is : List Itm} {ops : Array Oper} {Q : Exit → Act → World → Prop} {o : Oper} {rest : List Oper} {N : Frm} {n m : Nat} {e : Env} {v u : Value} {d : Nat} {K : Act → World → Prop} {f : FuncId} {fn : Func} {ags : Array Operand} {ts : Array TypeId} {vs : List Value}
end
end Go.Proofs.Ytbiplocgenppoaa
namespace Go.Proofs.Ytbiplocgenppoaa
open _root_.Go.Proofs.Try
open Go.RowKit
def RowOk (rows : List (List Int)) (b : Int) (i : Nat) : Prop := (row2 rows (i : Int)).length = rows.length ∧ AllP b (row2 rows (i : Int))
def SquareP (rows : List (List Int)) (b : Int) : Prop := ∀ i : Nat, i < rows.length → RowOk rows b i
theorem sq_at {rows : List (List Int)} {b : Int} (h : SquareP rows b) {i j : Nat} (hi : i < rows.length) (hj : j < rows.length) : 0 ≤ at0 (row2 rows (i : Int)) (j : Int) ∧ at0 (row2 rows (i : Int)) (j : Int) < b :=
 allP_at (h i hi).2 (by rw [(h i hi).1]; exact hj)
def FitP (c : Cat) : Prop := c.ob ≤ 8 ∧ c.s.length ≤ 40
theorem specFits_any (w : World) (v : Value) (c : Cat) (h : RdC w v c) :
  Calls Try.prog 84 #[v] w (RetB w (bP (FitP c))) := by
 have h0 := h
 obtain ⟨va, vb, vc, vd, ve, vf, vg, vh, rfl, h1, h2, h3, h4, _⟩ := h.lists
 go_enter func84, Try.ntmps84
 refine gc_enter (N := 12) rfl (look_cons (k := 0) rfl (look_nil _)) ?_
 refine gc_sr fun K1 hK1 => ?_
 refine gop fun K3 hK3 => ?_
 refine go_box rfl rfl rfl rfl rfl ?_
 intro B2
 refine hK3 _ _ ?_
 refine gas ?_
 refine gnt (hK1 _ _ ?_)
 refine gc_sr fun K4 hK4 => ?_
 refine gv (qtf underlying27 (z := 0) (off := 0)) ?_
 refine gv (qtl underlying2 (n := 0)) ?_
 refine gv (qt_leq rfl rfl rfl) ?_
 refine g_splitv (.free rfl) rfl rfl (qt_move rfl rfl) (fun hs1_3 => ?_) (fun hs1_3 => ?_)
 ·try simp only [sA] at hs1_3
  refine gvh (qtf underlying27 (z := 0) (off := 1)) ?_
  refine gvh (qtl underlying24 (n := 0)) ?_
  refine gvh (qln (fun w M => lenV_rd h1)) ?_
  refine gvh (qt_leq rfl rfl rfl) ?_
  refine gv (qt_pick_t rfl rfl rfl) ?_
  refine gas ?_
  refine gnt (hK4 _ _ ?_)
  refine gc_ret ?_
  refine ret_1 rfl rfl  (fun w M => ?_)
  rw [show bP (FitP c) = decide ((c.s.length : Int) ≤ 40) from by rw [← bP_dec]; exact bP_congr ⟨fun h => by have := h.2; omega, fun h => ⟨by omega, by omega⟩⟩]; exact ⟨rfl, M.1⟩
 try simp only [sA] at hs1_3
 refine gsk ?_
 refine gsk ?_
 refine gsk ?_
 refine gsk ?_
 refine gv (qt_pick_f rfl rfl rfl) ?_
 refine gas ?_
 refine gnt (hK4 _ _ ?_)
 refine gc_ret ?_
 refine ret_1 rfl rfl  (fun w M => ?_)
 rw [bP_f (fun h : FitP c => by have := h.1; omega)]; exact ⟨rfl, M.1⟩
end Go.Proofs.Ytbiplocgenppoaa
namespace Go.Proofs.Ytbiplocgenppoaa
open _root_.Go.Proofs.Try
open Go.RowKit
end Go.Proofs.Ytbiplocgenppoaa
namespace Go.Proofs.Ytbiplocgenppoaa
open _root_.Go.Proofs.Try
open Go.RowKit
end Go.Proofs.Ytbiplocgenppoaa
namespace Go.Proofs.Ytbiplocgenppoaa
open _root_.Go.Proofs.Try
open Go.RowKit
def Own2H (v : Value) (us : List Value) (rows : List (List Int)) (i : Nat) (w : World) (S : Nat → Prop) : Prop :=
  us.length = rows.length ∧ rows.length ≤ 5000000000000 ∧ w.ownsRow 0 24 1 v rows.length us ∧
    (∀ j, j < rows.length → j ≠ i → Sl w 0 (us.getD j undef) (rows.getD j []) ∧ Apart (us.getD j undef) v ∧ ∀ q, (us.getD j undef).ownBlock = some q → S q) ∧
    (∀ j k, j < k → k < rows.length → j ≠ i → k ≠ i → Apart (us.getD j undef) (us.getD k undef)) ∧ ∀ q, v.ownBlock = some q → S q
theorem own2H_loc (v : Value) (us : List Value) (rows : List (List Int)) (i : Nat) : Loc (Own2H v us rows i) where
  keep hs ha h := by
    obtain ⟨h1, h2, h3, h4, h5, h6⟩ := h
    exact ⟨h1, h2, own_agree h3 fun q hq e => ha q hq (h6 q e), fun j hj hji => ⟨⟨own_agree (h4 j hj hji).1.1 fun q hq e => ha q hq ((h4 j hj hji).2.2 q e), (h4 j hj hji).1.2⟩, (h4 j hj hji).2.1, fun q hq => hs q ((h4 j hj hji).1.1.lt q hq).2 ((h4 j hj hji).2.2 q hq)⟩, h5, fun q hq => hs q (h3.lt q hq).2 (h6 q hq)⟩
def own2HI (v : Value) (us : List Value) (rows : List (List Int)) (i : Nat) : Itm := ⟨_, own2H_loc v us rows i⟩
theorem star_hole {is : List Itm} {w : World} {S : Nat → Prop} {n : Nat} {v : Value} {us : List Value} {rows : List (List Int)} {i : Nat} (h : Star is w S) (hi : is[n]? = some (own2U v us rows)) (hlt : i < rows.length) :
    Star (is.set n (own2HI v us rows i) ++ [own1I (us.getD i undef) (rows.getD i [])]) w S := by
  have hn : n < is.length := (List.getElem?_eq_some_iff.1 hi).1
  obtain ⟨S1, S2, k1, k2, kd, hp, h2⟩ := star_pick is hi h
  obtain ⟨h1, h2', h3, h4, h5, h6⟩ := (hp : Own2U v us rows w S1)
  have hr := h4 i hlt
  refine star_app _ _ (S1 := fun k => S k ∧ (us.getD i undef).ownBlock ≠ some k) (S2 := fun k => (us.getD i undef).ownBlock = some k) (fun k h => h.1) (fun k h => k1 k (hr.2.2 k h)) (fun k h h' => h.2 h') ?_ ?_
  · refine star_unpick _ (by simpa using hn) ⟨fun k => S1 k ∧ (us.getD i undef).ownBlock ≠ some k, S2, fun k h => ⟨k1 k h.1, h.2⟩, fun k h => ⟨k2 k h, fun e => kd k (hr.2.2 k e) h⟩, fun k h h' => kd k h.1 h', ?_, by simpa using h2⟩
    refine ⟨h1, h2', h3, fun j hj hji => ⟨(h4 j hj).1, (h4 j hj).2.1, fun q hq => ⟨(h4 j hj).2.2 q hq, fun e => ?_⟩⟩, fun j k hjk hk _ _ => h5 j k hjk hk, fun q hq => ⟨h6 q hq, fun e => hr.2.1 q e hq⟩⟩
    rcases Nat.lt_or_ge j i with h | h
    · exact h5 j i h hlt q hq e
    exact h5 i j (by omega) hj q e hq
  exact ⟨_, fun _ => False, fun k h => h, fun k h => h.elim, fun k _ h => h, (⟨hr.1, fun q hq => hq⟩ : Own1 _ _ _ _), trivial⟩
theorem own2H_store {w : World} {S1 S2 : Nat → Prop} {g n cap k : Nat} {us : List Value} {rows : List (List Int)} {r : List Int} {u : Value} (h : Own2H (.slice (some ⟨g, 0, none⟩) n cap) us rows k w S1) (hk : k < rows.length)
    (hu : Own1 u r w S2) (hd : ∀ q, S1 q → ¬ S2 q) : Own2U (.slice (some ⟨g, 0, none⟩) n cap) (us.set k u) (rows.set k r) (w.setCell ⟨g, k, none⟩ u) (fun q => S1 q ∨ S2 q) ∧ FrS S1 w (w.setCell ⟨g, k, none⟩ u) := by
  obtain ⟨h1, h2, h3, h4, h5, h6⟩ := h
  have hgS : S1 g := h6 g rfl
  have hn : n = rows.length := by
    rcases h3.2 with ⟨hv, _⟩ | ⟨g', cap', cur, hv, _⟩
    · simp at hv
    simp only [Value.slice.injEq] at hv
    exact hv.2.1
  subst hn
  have hst := h3.stored k u
  have hgr := hst.2
  have hne : ∀ v : Value, (∀ q, v.ownBlock = some q → q ≠ g) → v.ownBlock = none ∨ v.ownBlock ≠ some g := fun v hv => by
    cases hb0 : v.ownBlock with
    | none => exact .inl rfl
    | some q => exact .inr fun e => hv q hb0 (by simpa using e)
  have hu0 : Sl (w.setCell ⟨g, k, none⟩ u) 0 u r := sl_kept hu.1 hgr (hne u fun q hq e => hd g hgS (by rw [← e]; exact hu.2 q hq))
  refine ⟨⟨by simp [h1], by simpa using h2, by simpa using hst.1, fun i hi => ?_, fun i j hij hj => ?_, fun q hq => .inl (h6 q hq)⟩, ⟨hgr.os, hgr.tape, hgr.output, hgr.size, fun q hq hs => hgr.block q hq fun e => hs (by rw [Option.some.inj e]; exact hgS)⟩⟩
  · simp only [List.length_set] at hi
    rw [getD_set2 us k u undef i (by omega), getD_set2 rows k r [] i (by omega)]
    by_cases hik : i = k
    · rw [if_pos hik, if_pos hik]
      exact ⟨hu0, fun q hq hv => by
        simp only [Value.ownBlock, Option.some.injEq] at hv
        exact hd g hgS (by rw [hv]; exact hu.2 q hq), fun q hq => .inr (hu.2 q hq)⟩
    rw [if_neg hik, if_neg hik]
    exact ⟨sl_kept (h4 i hi hik).1 hgr (hne _ fun q hq e => (h4 i hi hik).2.1 q hq (by simp [Value.ownBlock, e])), (h4 i hi hik).2.1, fun q hq => .inl ((h4 i hi hik).2.2 q hq)⟩
  simp only [List.length_set] at hj
  rw [getD_set2 us k u undef i (by omega), getD_set2 us k u undef j (by omega)]
  by_cases hik : i = k
  · rw [if_pos hik, if_neg (by omega)]
    exact fun q hq hq2 => hd q ((h4 j hj (by omega)).2.2 q hq2) (hu.2 q hq)
  rw [if_neg hik]
  by_cases hjk : j = k
  · rw [if_pos hjk]
    exact fun q hq hq2 => hd q ((h4 i (by omega) hik).2.2 q hq) (hu.2 q hq2)
  rw [if_neg hjk]
  exact h5 i j hij hj hik hjk
section
variable {w0 : World} {is : List Itm} {ops : Array Oper} {Q : Exit → Act → World → Prop} {o : Oper} {rest : List Oper} {N : Frm} {e : Env} {v : Value} {d : Nat} {K : Act → World → Prop}
theorem mem_hole {w : World} {n : Nat} {us : List Value} {rows : List (List Int)} {i : Int} (M : Mem w0 w is) (hi : is[n]? = some (own2U v us rows)) (h0 : 0 ≤ i) (h1 : i < rows.length) : Mem w0 w (is.set n (own2HI v us rows i.toNat) ++ [own1I (us.getD i.toNat undef) (row2 rows i)]) :=
  ⟨M.1, star_hole M.2 hi (by omega)⟩
theorem go_shift {is' : List Itm} (h : ∀ w, Mem w0 w is → Mem w0 w is') (hk : GO w0 is' N o e Q K) : GO w0 is N o e Q K := fun w a M F => hk w a (h w M) F
theorem go_appendHole {s x : Operand} {t : TypeId} {n m : Nat} {us : List Value} {rows : List (List Int)} {u : Value} {y i : Int} (hd : o.dst = some d) (hN : Nat.blt d N = true) (hop : o.op = .call { callee := .builtin .append, args := #[s, x], argTypes := #[t, t] }) (ht : Try.prog.underlying t = some (.slice 2))
    (hs : evo e s = some (us.getD i.toNat undef)) (hx : evo e x = some u) (hi : is[n]? = some (own2U v us rows)) (hj : is[m]? = some (own1I u [y])) (hnm : n ≠ m) (h0 : 0 ≤ i) (h1 : i < rows.length) (hn : (row2 rows i).length + 1 ≤ 17592186044415)
    (hk : ∀ a cap, GK w0 (is.set n (own2HI v us rows i.toNat) ++ [own1I (.slice a (row2 rows i ++ [y]).length cap) (row2 rows i ++ [y])]) N K ((d, .slice a (row2 rows i ++ [y]).length cap) :: e)) : GO w0 is N o e Q K := by
  have hm : m < is.length := (List.getElem?_eq_some_iff.1 hj).1
  refine go_shift (fun w M => mem_hole (i := i) M hi h0 h1) (go_append (n := is.length) (m := m) (xs := row2 rows i) (y := y) hd hN hop ht hs hx ?_ ?_ hn fun a cap => ?_)
  · rw [List.getElem?_append_right (by simp)]; simp
  · rw [List.getElem?_append_left (by simpa using hm), List.getElem?_set_ne hnm]; exact hj
  have := hk a cap
  have he : (is.set n (own2HI v us rows i.toNat) ++ [own1I (us.getD i.toNat undef) (row2 rows i)]).set is.length (own1I (.slice a (row2 rows i ++ [y]).length cap) (row2 rows i ++ [y])) = is.set n (own2HI v us rows i.toNat) ++ [own1I (.slice a (row2 rows i ++ [y]).length cap) (row2 rows i ++ [y])] := by
    rw [List.set_append_right _ _ (by simp)]; simp
  rw [he]; exact this
theorem lenA_H {n k : Nat} {us : List Value} {rows : List (List Int)} (h : is[n]? = some (own2HI v us rows k)) {w : World} (M : Mem w0 w is) : LenA v rows.length := by
  obtain ⟨S, _, hb⟩ := mem_get M h
  rcases (hb : Own2H v us rows k w S).2.2.1.2 with ⟨hv, hn⟩ | ⟨g, cap, cur, hv, _⟩
  · exact ⟨none, 0, by rw [hn]; exact hv, fun h => by omega⟩
  exact ⟨_, cap, hv, fun _ => ⟨g, 0, rfl⟩⟩
theorem go_storeH {t : TypeId} {x y : Operand} {n m m' k : Nat} {us : List Value} {rows : List (List Int)} {r : List Int} {u : Value} {i : Int} (hd : o.dst = none) (hop : o.op = .store t x y) (hx : evo e x = some (eltP v i)) (hy : evo e y = some u)
    (hs : (Try.prog.info? t).map (·.size) = some 1) (hi : is[n]? = some (own2HI v us rows k)) (hj : (is.eraseIdx n)[m']? = some (own1I u r)) (hE : (is.set m trivI).eraseIdx n = (is.eraseIdx n).set m' trivI) (hik : k = i.toNat) (h0 : 0 ≤ i) (h1 : i < rows.length)
    (hk : GK w0 ((is.set m trivI).set n (own2U v (us.set i.toNat u) (rows.set i.toNat r))) N K e) : GO w0 is N o e Q K := by
  subst hik
  intro w ac M F
  obtain ⟨S1, S2, k1, k2, kd, hp, hq, hset⟩ := star_two M.2 hi hj hE
  have hp' : Own2H v us rows i.toNat w S1 := hp
  have hq' : Own1 u r w S2 := hq
  obtain ⟨ua, uc, rfl⟩ := rd_form hq'.rd
  have hform := hp'.2.2.1.2
  rcases hform with ⟨_, hn⟩ | ⟨g, cap, cur, rfl, _, hg, hnc, hcm, hcs, htk⟩
  · omega
  obtain ⟨hnew, hfr⟩ := own2H_store hp' (by omega) hq' kd
  have hlt : i.toNat < cur.size := by rw [hcs]; omega
  have hcell : w.cell? ⟨g, i.toNat, none⟩ = some cur[i.toNat] := by rw [cell_of_row w g _ cur _ (0, 0) hg]; simp [hlt]
  have hfz : w.frozen? ⟨g, i.toNat, none⟩ = false := frozen_of_row w g _ _ _ hg
  refine go_skip (w' := w.setCell ⟨g, i.toNat, none⟩ (.slice ua r.length uc)) hd F ?_ fun ac F => hk _ ac ⟨below_frS M.1 hfr (Nat.le_refl _) k1, hset _ _ hfr hnew⟩ F
  intro ρ F; have hx := F _ _ hx; have hy := F _ _ hy
  have he : eltP (.slice (some ⟨g, 0, none⟩) rows.length cap) i = .pointer (some ⟨g, i.toNat, none⟩) := by simp [eltP]
  simp [execOp, hop, hx, hy, he, run_store1 hs (u := .slice ua r.length uc) rfl rfl hcell hfz]
end
end Go.Proofs.Ytbiplocgenppoaa
