
/- Lists that two loops build, one in the other: their places are pairs; quotients and remainders; no memory but two rules. -/
import Derived.Test.YtgkfampgofjkfaaEnts
set_option linter.unusedSimpArgs false
set_option linter.unusedVariables false
set_option linter.unusedSectionVars false
namespace Go.Proofs.Ytgkfampgofjkfaa
open Go.RowKit
theorem grid_div {m a b : Nat} (h : b < m) : (m * a + b) / m = a := by
  rw [Nat.mul_add_div (by omega), Nat.div_eq_of_lt h, Nat.add_zero]
theorem grid_mod {m a b : Nat} (h : b < m) : (m * a + b) % m = b := by
  rw [Nat.mul_add_mod, Nat.mod_eq_of_lt h]
theorem grid_lt {n m a b : Nat} (ha : a < n) (hb : b < m) : m * a + b < m * n := by
  have h1 : m * (a + 1) ≤ m * n := Nat.mul_le_mul_left _ ha
  rw [Nat.mul_succ] at h1; omega
theorem grid_le {n m a b : Nat} (ha : a < n) (hb : b ≤ m) : m * a + b ≤ m * n := by
  have h1 : m * (a + 1) ≤ m * n := Nat.mul_le_mul_left _ ha
  rw [Nat.mul_succ] at h1; omega
theorem grid_le' {n m a : Nat} (ha : a ≤ n) : m * a ≤ m * n := Nat.mul_le_mul_left _ ha
theorem grid_divlt {n m k : Nat} (h : k < m * n) : k / m < n := Nat.div_lt_of_lt_mul h
theorem grid_modlt {n m k : Nat} (h : k < m * n) : k % m < m := by
  refine Nat.mod_lt _ ?_
  rcases Nat.eq_zero_or_pos m with h0 | h0
  · subst h0; simp at h
  · exact h0
theorem grid_eq (k m : Nat) : m * (k / m) + k % m = k := Nat.div_add_mod k m
theorem grid_inj {m k l : Nat} (h1 : k / m = l / m) (h2 : k % m = l % m) : k = l := by rw [← grid_eq k m, ← grid_eq l m, h1, h2]
/-- Two numbers in one: their parts. -/
theorem mix_inj {a b x y n : Int} (hx : 0 ≤ x ∧ x < n) (hy : 0 ≤ y ∧ y < n) (h : a * n + x = b * n + y) : a = b ∧ x = y := by
  have hn : n ≠ 0 := by omega
  have h1 : (x + a * n) / n = a := by rw [Int.add_mul_ediv_right _ _ hn, Int.ediv_eq_zero_of_lt hx.1 hx.2, Int.zero_add]
  have h2 : (y + b * n) / n = b := by rw [Int.add_mul_ediv_right _ _ hn, Int.ediv_eq_zero_of_lt hy.1 hy.2, Int.zero_add]
  have h3 : a = b := by rw [← h1, ← h2]; congr 1; omega
  subst h3
  exact ⟨rfl, by omega⟩
def tab2 (φ : Nat → Nat → Int) (m a b : Nat) : List Int := tabTo (fun k => φ (k / m) (k % m)) (m * a + b)
theorem tab2_succ {φ : Nat → Nat → Int} {m a b : Nat} (h : b < m) : tab2 φ m a b ++ [φ a b] = tab2 φ m a (b + 1) := by
  unfold tab2; rw [← Nat.add_assoc, ← tabTo_succ, grid_div h, grid_mod h]
theorem tab2_row (φ : Nat → Nat → Int) (m a : Nat) : tab2 φ m a m = tab2 φ m (a + 1) 0 := rfl
theorem tab2_len (φ : Nat → Nat → Int) (m a b : Nat) : (tab2 φ m a b).length = m * a + b := tabTo_len _ _
theorem tab2_zero (φ : Nat → Nat → Int) (m : Nat) : tab2 φ m 0 0 = [] := rfl
theorem tab2_at (φ : Nat → Nat → Int) {n m i : Nat} (h : i < m * n) : at0 (tab2 φ m n 0) (i : Int) = φ (i / m) (i % m) := tabTo_at _ (by omega)
def rows2 (ψ : Nat → Nat → List Int) (m a b : Nat) : List (List Int) := rowsTo (fun k => ψ (k / m) (k % m)) (m * a + b)
theorem rows2_succ {ψ : Nat → Nat → List Int} {m a b : Nat} (h : b < m) : rows2 ψ m a b ++ [ψ a b] = rows2 ψ m a (b + 1) := by
  unfold rows2; rw [← Nat.add_assoc, ← rowsTo_succ, grid_div h, grid_mod h]
theorem rows2_row (ψ : Nat → Nat → List Int) (m a : Nat) : rows2 ψ m a m = rows2 ψ m (a + 1) 0 := by unfold rows2; rfl
theorem rows2_len (ψ : Nat → Nat → List Int) (m a b : Nat) : (rows2 ψ m a b).length = m * a + b := rowsTo_len _ _
theorem rows2_at (ψ : Nat → Nat → List Int) {n m i : Nat} (h : i < m * n) : row2 (rows2 ψ m n 0) (i : Int) = ψ (i / m) (i % m) := rowsTo_at _ (by omega)
def ents2 {α : Type} (φ : Nat → Nat → Ent α) (m a b : Nat) : List (Ent α) := entsTo (fun k => φ (k / m) (k % m)) (m * a + b)
theorem ents2_succ {α : Type} [Inhabited α] {φ : Nat → Nat → Ent α} {m a b : Nat} (h : b < m) : ents2 φ m a b ++ [φ a b] = ents2 φ m a (b + 1) := by
  unfold ents2; rw [← Nat.add_assoc, ← entsTo_succ, grid_div h, grid_mod h]
theorem ents2_row {α : Type} [Inhabited α] (φ : Nat → Nat → Ent α) (m a : Nat) : ents2 φ m a m = ents2 φ m (a + 1) 0 := by unfold ents2; rfl
theorem ents2_len {α : Type} [Inhabited α] (φ : Nat → Nat → Ent α) (m a b : Nat) : (ents2 φ m a b).length = m * a + b := entsTo_len _ _
theorem ents2_mem {α : Type} [Inhabited α] {φ : Nat → Nat → Ent α} {n m : Nat} {e : Ent α} : e ∈ ents2 φ m n 0 ↔ ∃ a b, a < n ∧ b < m ∧ φ a b = e := by
  unfold ents2
  rw [entsTo_mem]
  constructor
  · rintro ⟨j, hj, rfl⟩
    exact ⟨_, _, grid_divlt (m := m) (by omega), grid_modlt (n := n) (by omega), rfl⟩
  · rintro ⟨a, b, ha, hb, rfl⟩
    exact ⟨m * a + b, by have := grid_lt ha hb; omega, by simp only [grid_div hb, grid_mod hb]⟩
theorem ents2_nodup {α : Type} [Inhabited α] {φ : Nat → Nat → Ent α} {n m : Nat} (h : ∀ a b a' b', a < n → b < m → a' < n → b' < m → φ a b = φ a' b' → a = a' ∧ b = b') : (ents2 φ m n 0).Nodup :=
  entsTo_nodup fun i j hi hj he => by
    have := h _ _ _ _ (grid_divlt (m := m) (by omega)) (grid_modlt (n := n) (by omega)) (grid_divlt (m := m) (by omega)) (grid_modlt (n := n) (by omega)) he
    exact grid_inj this.1 this.2
theorem posE_2 {α : Type} [Inhabited α] [DecidableEq α] {φ : Nat → Nat → Ent α} {n m : Nat} (h : ∀ a b a' b', a < n → b < m → a' < n → b' < m → φ a b = φ a' b' → a = a' ∧ b = b') {x y : Int} (x0 : 0 ≤ x) (x1 : x < n) (y0 : 0 ≤ y) (y1 : y < m) {e : Ent α} (he : φ x.toNat y.toNat = e) :
    posE (ents2 φ m n 0) e = x * m + y := by
  obtain ⟨a, rfl⟩ := Int.eq_ofNat_of_zero_le x0
  obtain ⟨b, rfl⟩ := Int.eq_ofNat_of_zero_le y0
  have hlt := grid_lt (n := n) (m := m) (a := a) (b := b) (by omega) (by omega)
  rw [posE_at (ents2_nodup h) (j := m * a + b) (by rw [ents2_len]; omega)]
  · simp [Int.mul_comm]
  · unfold ents2
    rw [entsTo_at _ (by omega), grid_div (by omega), grid_mod (by omega)]
    exact he
section
variable {w0 : World} {is : List Itm} {o : Oper} {e : Env}
theorem qt_quo {x y : Operand} {t u : TypeId} {a b : Int} (hop : o.op = .binOp .quo t x y u) (hx : evo e x = some (.int .i64 a)) (hy : evo e y = some (.int .i64 b)) (h0 : 0 ≤ a) (h1 : a ≤ 9223372036854775807) (hb : 0 < b) : QV w0 is o e (.int .i64 (a / b)) :=
  fun w ac M F => by
    have hx := F _ _ hx; have hy := F _ _ hy
    have hb0 : b ≠ 0 := by omega
    have hd : a / b ≤ a := Int.ediv_le_self _ h0
    have hd0 : 0 ≤ a / b := Int.ediv_nonneg h0 (by omega)
    simp [execOp, hop, hx, hy, go_sem, Op.intArith, hb0]
    rw [Int.tdiv_eq_ediv_of_nonneg h0]
    exact IntWalk.i64_in _ ⟨by omega, by omega⟩
theorem qt_rem {x y : Operand} {t u : TypeId} {a b : Int} (hop : o.op = .binOp .rem t x y u) (hx : evo e x = some (.int .i64 a)) (hy : evo e y = some (.int .i64 b)) (h0 : 0 ≤ a) (h1 : a ≤ 9223372036854775807) (hb : 0 < b) : QV w0 is o e (.int .i64 (a % b)) :=
  fun w ac M F => by
    have hx := F _ _ hx; have hy := F _ _ hy
    have hb0 : b ≠ 0 := by omega
    have hd0 : 0 ≤ a % b := Int.emod_nonneg _ hb0
    have hd : a % b ≤ a := by have h2 := Int.emod_add_mul_ediv a b; have h3 := Int.mul_nonneg (a := b) (b := a / b) (by omega) (Int.ediv_nonneg h0 (by omega)); omega
    simp [execOp, hop, hx, hy, go_sem, Op.intArith, hb0]
    rw [Int.tmod_eq_emod_of_nonneg h0]
end
/-! ### Two categories that a call hands back -/
theorem star_unapp : ∀ (is js : List Itm) {w : World} {S : Nat → Prop}, Star (is ++ js) w S → ∃ S1 S2 : Nat → Prop, (∀ k, S1 k → S k) ∧ (∀ k, S2 k → S k) ∧ (∀ k, S1 k → ¬ S2 k) ∧ Star is w S1 ∧ Star js w S2
  | [], js, w, S, h => ⟨fun _ => False, S, fun k h => h.elim, fun k h => h, fun k h => h.elim, trivial, h⟩
  | i :: is, js, w, S, h => by
    obtain ⟨S1, S2, k1, k2, kd, h1, h2⟩ := h
    obtain ⟨T1, T2, t1, t2, td, a1, a2⟩ := star_unapp is js h2
    refine ⟨fun k => S1 k ∨ T1 k, T2, fun k h => h.elim (k1 k) fun h => k2 k (t1 k h), fun k h => k2 k (t2 k h), fun k h h' => h.elim (fun h => kd k h (t2 k h')) fun h => td k h h', ?_, a2⟩
    exact ⟨S1, T1, fun k h => .inl h, fun k h => .inr h, fun k h h' => kd k h (t1 k h'), h1, a1⟩
theorem starS_ownC {w : World} {S : Nat → Prop} {v : Value} {c : Cat} (h : OwnC v c w S) : ∃ (a1 a2 a3 a4 : Option Addr) (k1 k2 k3 k4 : Nat) (uu : List Value), v = .agg #[.int .i64 c.ob, .slice a1 c.s.length k1, .slice a2 c.t.length k2, .slice a3 c.e.length k3, .slice a4 c.m.length k4] ∧ Star [own1I (.slice a1 c.s.length k1) c.s, own1I (.slice a2 c.t.length k2) c.t, own1I (.slice a3 c.e.length k3) c.e, own2U (.slice a4 c.m.length k4) uu c.m] w S := by
  obtain ⟨vs, vt, ve, vm, P1, P2, P3, P4, hv, h1, h2, h3, ⟨us, h4⟩, hs, d12, d13, d14, d23, d24, d34⟩ := ownC_open h
  obtain ⟨a1, k1, rfl⟩ := rd_form (Own1.rd h1)
  obtain ⟨a2, k2, rfl⟩ := rd_form (Own1.rd h2)
  obtain ⟨a3, k3, rfl⟩ := rd_form (Own1.rd h3)
  obtain ⟨a4, k4, rfl⟩ := rd2_form (Own2.rd (S := P4) ⟨us, h4⟩)
  refine ⟨a1, a2, a3, a4, k1, k2, k3, k4, us, hv, P1, fun k => P2 k ∨ P3 k ∨ P4 k, fun k h => (hs k (.inl h)).1, fun k h => (hs k (.inr h)).1, ?_, h1, P2, fun k => P3 k ∨ P4 k, fun k h => .inl h, fun k h => .inr h, ?_, h2, P3, P4, fun k h => .inl h, fun k h => .inr h, d34, h3, P4, fun _ => False, fun k h => h, fun k h => h.elim, fun k _ h => h, h4, trivial⟩
  · rintro k hk (h | h | h)
    · exact d12 k hk h
    · exact d13 k hk h
    · exact d14 k hk h
  · rintro k hk (h | h)
    · exact d23 k hk h
    · exact d24 k hk h
theorem ownC_starS {w : World} {S : Nat → Prop} {c : Cat} {vs vt ve vm : Value} {us : List Value} {is : List Itm} (h : Star (own1I vs c.s :: own1I vt c.t :: own1I ve c.e :: own2U vm us c.m :: is) w S) : OwnC (.agg #[.int .i64 c.ob, vs, vt, ve, vm]) c w S := by
  obtain ⟨P1, R1, a1, b1, d1, h1, P2, R2, a2, b2, d2, h2, P3, R3, a3, b3, d3, h3, P4, R4, a4, b4, d4, h4, _⟩ := h
  refine ownC_shut h1 h2 h3 ⟨us, h4⟩ (fun k h => ?_) (fun k h h' => d1 k h (a2 k h')) (fun k h h' => d1 k h (b2 k (a3 k h'))) (fun k h h' => d1 k h (b2 k (b3 k (a4 k h')))) (fun k h h' => d2 k h (a3 k h')) (fun k h h' => d2 k h (b3 k (a4 k h'))) (fun k h h' => d3 k h (a4 k h'))
  rcases h with h | h | h | h
  · exact a1 k h
  · exact b1 k (a2 k h)
  · exact b1 k (b2 k (a3 k h))
  · exact b1 k (b2 k (b3 k (a4 k h)))
def RetCCI (W : World) (c d : Cat) (n : Int) (e : Ending) (w' : World) : Prop := ∃ (vc vd : Value) (S1 S2 : Nat → Prop), e = .returned (.tuple #[vc, vd, .int .i64 n]) ∧ OwnC vc c w' S1 ∧ OwnC vd d w' S2 ∧ (∀ k, S1 k → W.heap.size ≤ k) ∧ (∀ k, S2 k → W.heap.size ≤ k) ∧ (∀ k, S1 k → ¬ S2 k) ∧ Below W.heap.size W w'
theorem retCCI_zero {W w' : World} {n : Int} (hb : Below W.heap.size W w') : RetCCI W cat0 cat0 n (.returned (.tuple #[.agg #[.int .i64 0, .slice none 0 0, .slice none 0 0, .slice none 0 0, .slice none 0 0], .agg #[.int .i64 0, .slice none 0 0, .slice none 0 0, .slice none 0 0, .slice none 0 0], .int .i64 n])) w' :=
  ⟨_, _, fun _ => False, fun _ => False, rfl, ownC_zero _ _, ownC_zero _ _, fun k h => h.elim, fun k h => h.elim, fun k h => h.elim, hb⟩
theorem retCCI_star {W w' : World} {c d : Cat} {n : Int} {vs vt ve vm us' ut ue um : Value} {u1 u2 : List Value} {is : List Itm} (h : Star (own1I vs c.s :: own1I vt c.t :: own1I ve c.e :: own2U vm u1 c.m :: own1I us' d.s :: own1I ut d.t :: own1I ue d.e :: own2U um u2 d.m :: is) w' (fun k => W.heap.size ≤ k)) (hb : Below W.heap.size W w') :
    RetCCI W c d n (.returned (.tuple #[.agg #[.int .i64 c.ob, vs, vt, ve, vm], .agg #[.int .i64 d.ob, us', ut, ue, um], .int .i64 n])) w' := by
  obtain ⟨S1, S2, k1, k2, kd, h1, h2⟩ := star_unapp [own1I vs c.s, own1I vt c.t, own1I ve c.e, own2U vm u1 c.m] (own1I us' d.s :: own1I ut d.t :: own1I ue d.e :: own2U um u2 d.m :: is) h
  exact ⟨_, _, S1, S2, rfl, ownC_starS h1, ownC_starS h2, k1, k2, kd, hb⟩
section
variable {w0 : World} {is : List Itm} {Q : Exit → Act → World → Prop} {o : Oper} {N : Frm} {e : Env} {v : Value} {d : Nat} {K : Act → World → Prop} {f : FuncId} {fn : Func} {ags : Array Operand} {ts : Array TypeId} {vs : List Value}
theorem go_callCCI {c c' : Cat} {n : Int} (hd : o.dst = some d) (hN : Nat.blt d N = true) (hop : o.op = .call { callee := .value (.func f), args := ags, argTypes := ts }) (hfn : Try.prog.funcs[f]? = some fn) (hb : fn.body.isNone = false) (hn : (fn.name == "runtime.NumGoroutine") = false)
    (hargs : evoL e ags.toList = some vs) (hc : ∀ w, Mem w0 w is → Calls Try.prog f vs.toArray w (RetCCI w c c' n)) (hk : ∀ a1 k1 a2 k2 a3 k3 a4 k4 uu b1 j1 b2 j2 b3 j3 b4 j4 vv, GK w0 (is ++ [own1I (.slice a1 c.s.length k1) c.s, own1I (.slice a2 c.t.length k2) c.t, own1I (.slice a3 c.e.length k3) c.e, own2U (.slice a4 c.m.length k4) uu c.m, own1I (.slice b1 c'.s.length j1) c'.s, own1I (.slice b2 c'.t.length j2) c'.t, own1I (.slice b3 c'.e.length j3) c'.e, own2U (.slice b4 c'.m.length j4) vv c'.m]) N K
      ((d, .tuple #[.agg #[.int .i64 c.ob, .slice a1 c.s.length k1, .slice a2 c.t.length k2, .slice a3 c.e.length k3, .slice a4 c.m.length k4], .agg #[.int .i64 c'.ob, .slice b1 c'.s.length j1, .slice b2 c'.t.length j2, .slice b3 c'.e.length j3, .slice b4 c'.m.length j4], .int .i64 n]) :: e)) : GO w0 is N o e Q K := by
  intro w a M F
  refine go_call hd hN F hop hfn hb hn hargs (hc w M) fun e' w' hR => ?_
  obtain ⟨vc, vd, S1, S2, rfl, h1, h2, s1, s2, sd, hbl⟩ := hR
  obtain ⟨a1, a2, a3, a4, k1, k2, k3, k4, uu, rfl, hst⟩ := starS_ownC h1
  obtain ⟨b1, b2, b3, b4, j1, j2, j3, j4, vv, rfl, hst'⟩ := starS_ownC h2
  exact ⟨_, rfl, fun a F => hk a1 k1 a2 k2 a3 k3 a4 k4 uu b1 j1 b2 j2 b3 j3 b4 j4 vv w' a (mem_news M hbl (star_app _ _ s1 s2 sd hst hst')) F⟩
theorem ret_SSI {fn : Func} {a a' b n n' B B' : Nat} {t t' tb tb' : TypeId} {cs cs' : List Value} {td td' : TypeDesc} {R : Ending → World → Prop} (h : fn.results = #[.cell a t, .cell a' t', .tmp b]) (ha : look e a = some (.pointer (some ⟨B, 0, none⟩))) (ha' : look e a' = some (.pointer (some ⟨B', 0, none⟩))) (hb : look e b = some v)
    (ht : Try.prog.underlying t = some td) (hd : aggT td = true) (hs : (Try.prog.info? t).map (·.size) = some cs.length) (hi : is[n]? = some (bxI B tb cs)) (ht' : Try.prog.underlying t' = some td') (hd' : aggT td' = true) (hs' : (Try.prog.info? t').map (·.size) = some cs'.length) (hi' : is[n']? = some (bxI B' tb' cs'))
    (hR : ∀ w, Mem w0 w is → R (.returned (.tuple #[.agg cs.toArray, .agg cs'.toArray, v])) w) (hds : N.ds = [] := by rfl) : GK w0 is N (bodyPost Try.prog fn R .ret) e :=
  fun w ac M F => bodyPost_ret (v := .tuple #[.agg cs.toArray, .agg cs'.toArray, v]) (by
    have h2 := fit_res F ha
    have h3 := fit_res F ha'
    simp [results, h, h2, h3, asAddr, run_loadS M ht hd hs hi, run_loadS M ht' hd' hs' hi', fit_res F hb]) (F.nil hds) (hR w M)
end
end Go.Proofs.Ytgkfampgofjkfaa
