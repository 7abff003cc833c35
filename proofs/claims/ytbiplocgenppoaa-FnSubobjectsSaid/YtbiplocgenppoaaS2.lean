import Derived.RangeFuncLeaves
import Derived.RangeFuncSeq
import Derived.OrdersIn
import Derived.TacticsIn
import Derived.Deep.RegionHeld3
import Derived.Test.YtbiplocgenppoaaS1
set_option maxHeartbeats 800000
set_option linter.unusedSimpArgs false
set_option linter.unusedVariables false
set_option linter.unusedSectionVars false
namespace Go.Proofs.Ytbiplocgenppoaa
open _root_.Go.Proofs.Try
open Go.RowKit
def At (rd : Option Nat) : Fence := { Fence.wide with round := rd }
def calmO (o : Oper) : Bool := match o.op with | .defer _ => false | _ => true
def calmC : Code → Bool
  | .region _ ops _ => ops.toList.all calmO
  | .seq a b => calmC a && calmC b
  | .cond _ a b => calmC a && calmC b
  | .block _ c => calmC c
  | .loop c => calmC c
  | .scope c => calmC c
  | _ => true
section
variable {P : Program} {rd : Option Nat} {o : Oper} {a : Act} {w : World} {K : Act → World → Prop} {Q : Exit → Act → World → Prop} {ops : Array Oper} {n : Nat} {f : FuncId} {args : Array Value}
theorem calls_in {R : Ending → World → Prop} (h : Calls P f args w R) : CallsIn (At rd) n P f args w R := (callsIn_wide.2 h : CallsIn Fence.wide n P f args w R)
theorem rows_in {row : String} {R : Value → World → Prop} (h : Rows P row args w R) : RowsIn (At rd) n P row args w R := fun c cs _ => by
  obtain ⟨v, w', r, s⟩ := h c cs
  exact ⟨v, w', r, stepsIn_wide.2 s⟩
theorem calm_sem {ρ : Operand → Value} (hc : rd ≠ none → calmO o = true) : Oper.semAt rd ρ o = execOp ρ o := by
  cases rd with
  | none => rfl
  | some l =>
    refine Oper.semAt_eq _ _ _ fun c e => ?_
    have := hc (by simp)
    unfold calmO at this
    rw [e] at this
    cases this
theorem oper_in (hc : rd ≠ none → calmO o = true) (h : o.wp P a w K Q) : o.wpIn (At rd) n P a w K Q := by
  refine ⟨fun _ _ => trivial, ?_⟩
  rw [show (At rd).round = rd from rfl, calm_sem hc]
  unfold Oper.wp at h
  generalize (execOp a.eval o).run P w = r at h ⊢
  cases r with
  | ok x w' =>
    cases x <;> simp only [Oper.upon] at h <;> simp only [Oper.uponIn]
    case value => exact h
    case skip => exact h
    case defer => exact h
    case enter => exact ⟨(fun e => by cases e), calls_in h⟩
    case row => exact ⟨(fun e => by cases e), rows_in h⟩
    all_goals exact h.elim
  | halt x w' => cases x <;> simp only [Oper.upon] at h <;> simp only [Oper.uponIn] <;> first | exact h | exact h.elim
def NoOut (Q : Exit → Act → World → Prop) : Prop := ∀ a w, ¬ Q .outgrown a w
theorem noOut_let (h : NoOut Q) : ¬ LetsOut Q := fun ⟨a, w, q⟩ => h a w q
theorem wpOp_in {i : Nat} (hc : rd ≠ none → (ops.toList.all calmO = true ∧ NoOut Q)) (hr : rd ≠ none) (h : wpOp P ops Q i K a w) : wpOpIn (At rd) n P ops Q i K a w := by
  unfold wpOp at h
  unfold wpOpIn
  cases ho : ops[i]? with
  | none => rw [ho] at h; exact h
  | some o =>
    simp only [ho] at h ⊢
    have hco : calmO o = true := List.all_eq_true.1 (hc hr).1 o (by
      obtain ⟨hl, he⟩ := Array.getElem?_eq_some_iff.1 ho
      rw [← he]; exact Array.getElem_mem_toList hl)
    split
    · rename_i hw
      simp only [hw, if_true] at h
      rcases h with h | ⟨_, h⟩
      · exact oper_in (fun _ => hco) h
      exact (noOut_let (hc hr).2 h).elim
    rename_i hw
    simp only [hw] at h
    exact ⟨fun _ _ => trivial, h⟩
theorem wpAny_in (hc : rd ≠ none → (ops.toList.all calmO = true ∧ NoOut Q)) (hr : rd ≠ none) {md : Region.Mode} : ∀ (fuel : Nat) (listed : Array Bool) (a : Act) (w : World), wpAny P md ops Q fuel listed a w → wpAnyIn (At rd) n P md ops Q fuel listed a w
  | 0, _, _, _, h => h
  | fuel + 1, _, _, _, h => ⟨h.1, fun i hi => wpOpIn_mono (fun a' w' h' => wpAny_in hc hr fuel _ a' w' h') (wpOp_in hc hr (h.2 i hi))⟩
theorem wp_in {c : Code} (h : c.wp P Q a w) : c.wpIn (At none) n P Q a w := wpIn_wide.2 h
theorem wp_out {c : Code} (h : c.wpIn (At none) n P Q a w) : c.wp P Q a w := (wpIn_wide (n := n)).1 h
theorem draw_in {id : Nat} (hm : P.follows .mixedOrders = true) (hc : rd ≠ none → (ops.toList.all calmO = true ∧ NoOut Q)) (h : wpAny P .any ops Q ops.size (Array.replicate ops.size false) a w.drew) : (Code.region id ops true).wpIn (At rd) n P Q a w := by
  cases rd with
  | none => exact wp_in (wp_region_any hm h)
  | some r => exact wpIn_region_any hm (wpAny_in hc (by simp) _ _ _ _ h)
end
end Go.Proofs.Ytbiplocgenppoaa
namespace Go.Proofs.Ytbiplocgenppoaa
open _root_.Go.Proofs.Try
open Go.RowKit
theorem rd_at {w : World} {a : Option Addr} {n cap : Nat} {xs : List Int} (h : Rd w (.slice a n cap) xs) {x : Int} (h0 : 0 ≤ x) (h1 : x < xs.length) :
    ∃ b off, a = some ⟨b, off, none⟩ ∧ b < w.heap.size ∧ w.cell? ⟨b, off + x.toNat, none⟩ = some (.int .i64 (at0 xs x)) := by
  obtain ⟨a', cap', hv, _, hc⟩ := h
  simp only [Value.slice.injEq] at hv
  obtain ⟨rfl, _, _⟩ := hv
  obtain ⟨b, off, ha, hb, hcell⟩ := hc x.toNat (by omega)
  exact ⟨b, off, ha, hb, hcell x.toNat (by omega)⟩
theorem rd2_at {w : World} {a : Option Addr} {n cap : Nat} {rows : List (List Int)} (h : Rd2 w (.slice a n cap) rows) {x : Int} (h0 : 0 ≤ x) (h1 : x < rows.length) :
    ∃ b off a' cap', a = some ⟨b, off, none⟩ ∧ b < w.heap.size ∧ w.cell? ⟨b, off + x.toNat, none⟩ = some (.slice a' (row2 rows x).length cap') ∧ Rd w (.slice a' (row2 rows x).length cap') (row2 rows x) := by
  obtain ⟨a', cap', hv, _, hc⟩ := h
  simp only [Value.slice.injEq] at hv
  obtain ⟨rfl, _, _⟩ := hv
  obtain ⟨b, off, ha, hb, hcell⟩ := hc x.toNat (by omega)
  obtain ⟨u, h2, h3⟩ := hcell x.toNat (by omega)
  obtain ⟨a2, cap2, rfl⟩ := rd_form h3
  exact ⟨b, off, a2, cap2, ha, hb, h2, h3⟩
theorem RdC.lists {w : World} {v : Value} {c : Cat} (h : RdC w v c) : ∃ (x1 x2 x3 x4 : Option Addr) (k1 k2 k3 k4 : Nat), v = .agg #[.int .i64 c.ob, .slice x1 c.s.length k1, .slice x2 c.t.length k2, .slice x3 c.e.length k3, .slice x4 c.m.length k4] ∧
    Rd w (.slice x1 c.s.length k1) c.s ∧ Rd w (.slice x2 c.t.length k2) c.t ∧ Rd w (.slice x3 c.e.length k3) c.e ∧ Rd2 w (.slice x4 c.m.length k4) c.m ∧ c.s.length ≤ 17592186044415 ∧ c.t.length ≤ 17592186044415 ∧ c.e.length ≤ 17592186044415 ∧ c.m.length ≤ 5000000000000 := by
  obtain ⟨vs, vt, ve, vm, rfl, h1, h2, h3, h4⟩ := h
  obtain ⟨a1, c1, rfl⟩ := rd_form h1
  obtain ⟨a2, c2, rfl⟩ := rd_form h2
  obtain ⟨a3, c3, rfl⟩ := rd_form h3
  obtain ⟨a4, c4, rfl⟩ := rd2_form h4
  have l1 : c.s.length ≤ 17592186044415 := by obtain ⟨_, _, _, h, _⟩ := h1; exact h
  have l2 : c.t.length ≤ 17592186044415 := by obtain ⟨_, _, _, h, _⟩ := h2; exact h
  have l3 : c.e.length ≤ 17592186044415 := by obtain ⟨_, _, _, h, _⟩ := h3; exact h
  have l4 : c.m.length ≤ 5000000000000 := by obtain ⟨_, _, _, h, _⟩ := h4; exact h
  exact ⟨a1, a2, a3, a4, c1, c2, c3, c4, rfl, h1, h2, h3, h4, l1, l2, l3, l4⟩
theorem arrows_any (w : World) (v : Value) (c : Cat) (h : RdC w v c) : Calls Try.prog 31 #[v] w (RetI w c.s.length) := by
  obtain ⟨x1, x2, x3, x4, k1, k2, k3, k4, rfl, h1, h2, h3, h4, l1, l2, l3, l4⟩ := h.lists
  clear h h1 h2 h3 h4
  go_enter func31, Try.ntmps31
  go_wp2
  go_ret
  exact ⟨rfl, (Below.refl _ _).alloc (Nat.le_refl _) _⟩
theorem then_any (w : World) (v : Value) (c : Cat) (f g : Int) (h : RdC w v c) (f0 : 0 ≤ f) (f1 : f < c.m.length) (g0 : 0 ≤ g) (g1 : g < (row2 c.m f).length) :
    Calls Try.prog 30 #[v, .int .i64 f, .int .i64 g] w (RetI w (c.th f g)) := by
  obtain ⟨x1, x2, x3, x4, k1, k2, k3, k4, rfl, h1, h2, h3, h4, l1, l2, l3, l4⟩ := h.lists
  obtain ⟨b, off, a', cap', rfl, hb, hc, hr⟩ := rd2_at h4 f0 f1
  obtain ⟨b', off', rfl, hb', hc'⟩ := rd_at hr g0 g1
  unfold Cat.th
  clear h h1 h2 h3 h4 hr
  generalize at0 (row2 c.m f) g = z at hc' ⊢
  generalize (row2 c.m f).length = n at hc g1
  go_enter func30, Try.ntmps30
  go_wp2
  go_ret
  exact ⟨rfl, (Below.refl _ _).alloc (Nat.le_refl _) _⟩
def RetE (W : World) (x y : Int) (e : Ending) (w' : World) : Prop := e = .returned (.agg #[.int .i64 x, .int .i64 y]) ∧ Below W.heap.size W w'
theorem ends_any (w : World) (v : Value) (c : Cat) (f : Int) (h : RdC w v c) (f0 : 0 ≤ f) (f1 : f < c.s.length) (f2 : f < c.t.length) :
    Calls Try.prog 110 #[v, .int .i64 f] w (RetE w (at0 c.s f) (at0 c.t f)) := by
  obtain ⟨x1, x2, x3, x4, k1, k2, k3, k4, rfl, h1, h2, h3, h4, l1, l2, l3, l4⟩ := h.lists
  obtain ⟨b, off, rfl, hb, hc⟩ := rd_at h1 f0 f1
  obtain ⟨b', off', rfl, hb', hc'⟩ := rd_at h2 f0 f2
  clear h h1 h2 h3 h4
  generalize at0 c.s f = y at hc ⊢
  generalize at0 c.t f = z at hc' ⊢
  go_enter func110, Try.ntmps110
  go_wp2
  go_region
  go_wp2
  exact bodyPost_ret (v := .agg #[.int .i64 y, .int .i64 z]) (by simp [results, Try.results110, go_sem]) rfl ⟨rfl, (((Below.refl _ _).alloc (Nat.le_refl _) _).alloc (by simp) _).drew⟩
end Go.Proofs.Ytbiplocgenppoaa
namespace Go.Proofs.Ytbiplocgenppoaa
open _root_.Go.Proofs.Try
open Go.RowKit
structure Itm where
  p : World → (Nat → Prop) → Prop
  loc : Loc p
def Star : List Itm → World → (Nat → Prop) → Prop
  | [], _, _ => True
  | i :: is, w, S => ∃ S1 S2 : Nat → Prop, (∀ k, S1 k → S k) ∧ (∀ k, S2 k → S k) ∧ (∀ k, S1 k → ¬ S2 k) ∧ i.p w S1 ∧ Star is w S2
theorem star_keep : ∀ (is : List Itm) {w w' : World} {S S' : Nat → Prop}, (∀ k, k < w.heap.size → S k → S' k) → Agree S w w' → Star is w S → Star is w' S'
  | [], _, _, _, _, _, _, _ => trivial
  | i :: is, w, w', S, S', hs, ha, h => by
    obtain ⟨S1, S2, k1, k2, hd, h1, h2⟩ := h
    refine ⟨fun k => S1 k ∧ k < w.heap.size, fun k => S2 k ∧ k < w.heap.size, fun k h => hs k h.2 (k1 k h.1), fun k h => hs k h.2 (k2 k h.1), fun k a b => hd k a.1 b.1, ?_, ?_⟩
    · exact i.loc.keep (fun k hk hs => ⟨hs, hk⟩) (fun k hk hs => ha k hk (k1 k hs)) h1
    exact star_keep is (fun k hk hs => ⟨hs, hk⟩) (fun k hk hs => ha k hk (k2 k hs)) h2
theorem star_app : ∀ (is js : List Itm) {w : World} {S S1 S2 : Nat → Prop}, (∀ k, S1 k → S k) → (∀ k, S2 k → S k) → (∀ k, S1 k → ¬ S2 k) → Star is w S1 → Star js w S2 → Star (is ++ js) w S
  | [], js, w, S, S1, S2, _, h2, _, _, hj => star_keep js (fun k _ hk => h2 k hk) agree_refl hj
  | i :: is, js, w, S, S1, S2, h1, h2, hd, hi, hj => by
    obtain ⟨T1, T2, k1, k2, hd', a1, a2⟩ := hi
    refine ⟨T1, fun k => T2 k ∨ S2 k, fun k h => h1 k (k1 k h), fun k h => h.elim (fun h => h1 k (k2 k h)) (h2 k), fun k a b => b.elim (hd' k a) (hd k (k1 k a)), a1, ?_⟩
    exact star_app is js (fun k h => .inl h) (fun k h => .inr h) (fun k a b => hd k (k2 k a) b) a2 hj
theorem star_get : ∀ (is : List Itm) {n : Nat} {i : Itm} {w : World} {S : Nat → Prop}, is[n]? = some i → Star is w S → ∃ S1 : Nat → Prop, (∀ k, S1 k → S k) ∧ i.p w S1
  | [], n, i, _, _, h, _ => by simp at h
  | j :: is, 0, i, w, S, h, hs => by
    obtain ⟨S1, S2, k1, _, _, h1, _⟩ := hs
    simp only [List.getElem?_cons_zero, Option.some.injEq] at h
    subst h
    exact ⟨S1, k1, h1⟩
  | j :: is, n + 1, i, w, S, h, hs => by
    obtain ⟨S1, S2, _, k2, _, _, h2⟩ := hs
    obtain ⟨T, t1, t2⟩ := star_get is (by simpa using h) h2
    exact ⟨T, fun k hk => k2 k (t1 k hk), t2⟩
theorem star_set : ∀ (is : List Itm) {n : Nat} {i : Itm} {w : World} {S : Nat → Prop}, is[n]? = some i → Star is w S → ∃ S1 : Nat → Prop, (∀ k, S1 k → S k) ∧ i.p w S1 ∧
    ∀ (w' : World) (j : Itm), FrS S1 w w' → j.p w' (fun k => S1 k ∨ w.heap.size ≤ k) → Star (is.set n j) w' (fun k => S k ∨ w.heap.size ≤ k)
  | [], n, i, _, _, h, _ => by simp at h
  | j :: is, 0, i, w, S, h, hs => by
    obtain ⟨S1, S2, k1, k2, hd, h1, h2⟩ := hs
    simp only [List.getElem?_cons_zero, Option.some.injEq] at h
    subst h
    refine ⟨S1, k1, h1, fun w' j' hf hj => ?_⟩
    refine ⟨fun k => S1 k ∨ w.heap.size ≤ k, fun k => S2 k ∧ k < w.heap.size, fun k h => h.imp (k1 k) id, fun k h => .inl (k2 k h.1), fun k a b => ?_, hj, ?_⟩
    · rcases a with a | a
      · exact hd k a b.1
      have := b.2; omega
    exact star_keep is (fun k hk hs => ⟨hs, hk⟩) (fun k hk hs => hf.block k hk fun e => hd k e hs) h2
  | j :: is, n + 1, i, w, S, h, hs => by
    obtain ⟨S1, S2, k1, k2, hd, h1, h2⟩ := hs
    obtain ⟨T, t1, t2, t3⟩ := star_set is (by simpa using h) h2
    refine ⟨T, fun k hk => k2 k (t1 k hk), t2, fun w' j' hf hj => ?_⟩
    refine ⟨fun k => S1 k ∧ k < w.heap.size, fun k => S2 k ∨ w.heap.size ≤ k, fun k h => .inl (k1 k h.1), fun k h => h.imp (k2 k) id, fun k a b => ?_, ?_, t3 w' j' hf hj⟩
    · rcases b with b | b
      · exact hd k a.1 b
      have := a.2; omega
    exact j.loc.keep (fun k hk hs => ⟨hs, hk⟩) (fun k hk hs => hf.block k hk fun e => hd k hs (t1 k e)) h1
theorem star_take : ∀ (is : List Itm) (n : Nat) {w : World} {S : Nat → Prop}, Star is w S → Star (is.take n) w S
  | [], n, _, _, _ => by simp [Star]
  | i :: is, 0, _, _, _ => trivial
  | i :: is, n + 1, w, S, h => by
    obtain ⟨S1, S2, k1, k2, hd, h1, h2⟩ := h
    exact ⟨S1, S2, k1, k2, hd, h1, star_take is n h2⟩
theorem star_erase : ∀ (is : List Itm) (n : Nat) {w : World} {S : Nat → Prop}, Star is w S → Star (is.eraseIdx n) w S
  | [], n, _, _, _ => by simp [Star]
  | i :: is, 0, w, S, h => by
    obtain ⟨S1, S2, k1, k2, hd, h1, h2⟩ := h
    exact star_keep is (fun k _ hk => k2 k hk) agree_refl h2
  | i :: is, n + 1, w, S, h => by
    obtain ⟨S1, S2, k1, k2, hd, h1, h2⟩ := h
    exact ⟨S1, S2, k1, k2, hd, h1, star_erase is n h2⟩
def Mem (w0 w : World) (is : List Itm) : Prop := Below w0.heap.size w0 w ∧ Star is w (fun k => w0.heap.size ≤ k)
theorem mem_nil (w : World) : Mem w w [] := ⟨Below.refl _ _, trivial⟩
theorem mem_keep {w0 w w' : World} {is : List Itm} (M : Mem w0 w is) (hb : Below w.heap.size w w') : Mem w0 w' is :=
  ⟨M.1.trans (hb.mono M.1.size), star_keep is (fun _ _ h => h) (agree_below hb) M.2⟩
theorem mem_new {w0 w w' : World} {is : List Itm} {i : Itm} (M : Mem w0 w is) (hb : Below w.heap.size w w') (hi : i.p w' (fun k => w.heap.size ≤ k)) : Mem w0 w' (is ++ [i]) := by
  refine ⟨M.1.trans (hb.mono M.1.size), star_app is [i] (S1 := fun k => w0.heap.size ≤ k ∧ k < w.heap.size) (S2 := fun k => w.heap.size ≤ k) (fun k h => h.1) (fun k h => Nat.le_trans M.1.size h) (fun k a b => by have := a.2; omega) ?_ ?_⟩
  · exact star_keep is (fun k hk hs => ⟨hs, hk⟩) (agree_below hb) M.2
  exact ⟨_, fun _ => False, fun k h => h, fun k h => h.elim, fun k _ h => h, hi, trivial⟩
theorem mem_get {w0 w : World} {is : List Itm} {n : Nat} {i : Itm} (M : Mem w0 w is) (h : is[n]? = some i) : ∃ S : Nat → Prop, (∀ k, S k → w0.heap.size ≤ k) ∧ i.p w S := star_get is h M.2
theorem mem_set {w0 w : World} {is : List Itm} {n : Nat} {i : Itm} (M : Mem w0 w is) (h : is[n]? = some i) : ∃ S : Nat → Prop, (∀ k, S k → w0.heap.size ≤ k) ∧ i.p w S ∧
    ∀ (w' : World) (j : Itm), FrS S w w' → j.p w' (fun k => S k ∨ w.heap.size ≤ k) → Mem w0 w' (is.set n j) := by
  obtain ⟨S, h1, h2, h3⟩ := star_set is h M.2
  refine ⟨S, h1, h2, fun w' j hf hj => ⟨below_frS M.1 hf (Nat.le_refl _) h1, star_keep _ (fun k _ hk => hk.elim id fun h => Nat.le_trans M.1.size h) agree_refl (h3 w' j hf hj)⟩⟩
theorem mem_take {w0 w : World} {is : List Itm} (n : Nat) (M : Mem w0 w is) : Mem w0 w (is.take n) := ⟨M.1, star_take is n M.2⟩
theorem mem_erase {w0 w : World} {is : List Itm} (n : Nat) (M : Mem w0 w is) : Mem w0 w (is.eraseIdx n) := ⟨M.1, star_erase is n M.2⟩
theorem ms0 {w0 w : World} {is : List Itm} (a b c : Nat) (M : Mem w0 w is) : Mem w0 w (((is.take c).eraseIdx b).eraseIdx a) := mem_erase a (mem_erase b (mem_take c M))
theorem ms1 {w0 w : World} {is : List Itm} (a c : Nat) (M : Mem w0 w is) : Mem w0 w ((is.take c).eraseIdx a) := mem_erase a (mem_take c M)
theorem mem_rd {w0 w : World} {is : List Itm} {v : Value} {xs : List Int} (M : Mem w0 w is) (h : Rd w0 v xs) : Rd w v xs := rd_below M.1 h
theorem mem_rd2 {w0 w : World} {is : List Itm} {v : Value} {xs : List (List Int)} (M : Mem w0 w is) (h : Rd2 w0 v xs) : Rd2 w v xs := rd2_below M.1 h
theorem mem_rdC {w0 w : World} {is : List Itm} {v : Value} {c : Cat} (M : Mem w0 w is) (h : RdC w0 v c) : RdC w v c := rdC_below M.1 h
theorem bx_loc (B : Nat) (t : TypeId) (cs : List Value) : Loc (fun w S => Bx w B t cs ∧ S B) where
  keep hs ha h := ⟨by unfold Bx; rw [ha _ (bx_lt h.1) h.2]; exact h.1, hs _ (bx_lt h.1) h.2⟩
def bxI (B : Nat) (t : TypeId) (cs : List Value) : Itm := ⟨_, bx_loc B t cs⟩
def own1I (v : Value) (xs : List Int) : Itm := ⟨_, own1_loc v xs⟩
def Own2U (v : Value) (us : List Value) (rows : List (List Int)) (w : World) (S : Nat → Prop) : Prop :=
  us.length = rows.length ∧ rows.length ≤ 5000000000000 ∧ w.ownsRow 0 24 1 v rows.length us ∧
    (∀ i, i < rows.length → Sl w 0 (us.getD i undef) (rows.getD i []) ∧ Apart (us.getD i undef) v ∧ ∀ q, (us.getD i undef).ownBlock = some q → S q) ∧
    (∀ i j, i < j → j < rows.length → Apart (us.getD i undef) (us.getD j undef)) ∧ ∀ q, v.ownBlock = some q → S q
theorem own2U_loc (v : Value) (us : List Value) (rows : List (List Int)) : Loc (Own2U v us rows) where
  keep hs ha h := by
    obtain ⟨h1, h2, h3, h4, h5, h6⟩ := h
    exact ⟨h1, h2, own_agree h3 fun q hq e => ha q hq (h6 q e), fun i hi => ⟨⟨own_agree (h4 i hi).1.1 fun q hq e => ha q hq ((h4 i hi).2.2 q e), (h4 i hi).1.2⟩, (h4 i hi).2.1, fun q hq => hs q ((h4 i hi).1.1.lt q hq).2 ((h4 i hi).2.2 q hq)⟩, h5, fun q hq => hs q (h3.lt q hq).2 (h6 q hq)⟩
def own2U (v : Value) (us : List Value) (rows : List (List Int)) : Itm := ⟨_, own2U_loc v us rows⟩
def ownCI (v : Value) (c : Cat) : Itm := ⟨_, ownC_loc v c⟩
theorem mem_bx {w0 w : World} {is : List Itm} {n : Nat} {B : Nat} {t : TypeId} {cs : List Value} (M : Mem w0 w is) (h : is[n]? = some (bxI B t cs)) : Bx w B t cs := by
  obtain ⟨S, _, hb⟩ := mem_get M h
  exact hb.1
theorem mem_own1 {w0 w : World} {is : List Itm} {n : Nat} {v : Value} {xs : List Int} (M : Mem w0 w is) (h : is[n]? = some (own1I v xs)) : Sl w w0.heap.size v xs := by
  obtain ⟨S, hS, hb⟩ := mem_get M h
  exact Own1.at hb hS
theorem star_ownC {w : World} {lo : Nat} {v : Value} {c : Cat} (h : OwnC v c w (fun k => lo ≤ k)) : ∃ (a1 a2 a3 a4 : Option Addr) (k1 k2 k3 k4 : Nat) (uu : List Value), v = .agg #[.int .i64 c.ob, .slice a1 c.s.length k1, .slice a2 c.t.length k2, .slice a3 c.e.length k3, .slice a4 c.m.length k4] ∧ Star [own1I (.slice a1 c.s.length k1) c.s, own1I (.slice a2 c.t.length k2) c.t, own1I (.slice a3 c.e.length k3) c.e, own2U (.slice a4 c.m.length k4) uu c.m] w (fun k => lo ≤ k) := by
  obtain ⟨vs, vt, ve, vm, P1, P2, P3, P4, hv, h1, h2, h3, ⟨us, h4⟩, hs, d12, d13, d14, d23, d24, d34⟩ := ownC_open h
  obtain ⟨a1, k1, rfl⟩ := rd_form (Own1.rd h1)
  obtain ⟨a2, k2, rfl⟩ := rd_form (Own1.rd h2)
  obtain ⟨a3, k3, rfl⟩ := rd_form (Own1.rd h3)
  obtain ⟨a4, k4, rfl⟩ := rd2_form (Own2.rd (S := P4) ⟨us, h4⟩)
  refine ⟨a1, a2, a3, a4, k1, k2, k3, k4, us, hv, P1, fun k => P2 k ∨ P3 k ∨ P4 k, fun k h => (hs k (.inl h)).1, fun k h => (hs k (.inr h)).1, ?_, h1, P2, fun k => P3 k ∨ P4 k, fun k h => .inl h, fun k h => .inr h, ?_, h2, P3, P4, fun k h => .inl h, fun k h => .inr h, d34, h3, P4, fun _ => False, fun k h => h, fun k h => h.elim, fun k _ h => h, h4, trivial⟩
  · rintro k hk (h | h | h)
    · exact d12 k hk h
    · exact d13 k hk h
    exact d14 k hk h
  rintro k hk (h | h)
  · exact d23 k hk h
  exact d24 k hk h
theorem mem_news {w0 w w' : World} {is js : List Itm} (M : Mem w0 w is) (hb : Below w.heap.size w w') (hi : Star js w' (fun k => w.heap.size ≤ k)) : Mem w0 w' (is ++ js) := by
  refine ⟨M.1.trans (hb.mono M.1.size), star_app is js (S1 := fun k => w0.heap.size ≤ k ∧ k < w.heap.size) (S2 := fun k => w.heap.size ≤ k) (fun k h => h.1) (fun k h => Nat.le_trans M.1.size h) (fun k a b => by have := a.2; omega) ?_ hi⟩
  exact star_keep is (fun k hk hs => ⟨hs, hk⟩) (agree_below hb) M.2
theorem mem_2U {w0 w : World} {is : List Itm} {n : Nat} {v : Value} {us : List Value} {rows : List (List Int)} (M : Mem w0 w is) (h : is[n]? = some (own2U v us rows)) : ∃ S : Nat → Prop, (∀ k, S k → w0.heap.size ≤ k) ∧ Own2U v us rows w S := mem_get M h
theorem mem_rdU {w0 w : World} {is : List Itm} {n : Nat} {v : Value} {us : List Value} {rows : List (List Int)} (M : Mem w0 w is) (h : is[n]? = some (own2U v us rows)) : Rd2 w v rows := by
  obtain ⟨S, _, hb⟩ := mem_2U M h
  exact Own2.rd (S := S) ⟨us, hb⟩
theorem mem_rowU {w0 w : World} {is : List Itm} {n : Nat} {v : Value} {us : List Value} {rows : List (List Int)} (M : Mem w0 w is) (h : is[n]? = some (own2U v us rows)) {i : Int} (h0 : 0 ≤ i) (h1 : i < rows.length) : Rd w (us.getD i.toNat undef) (row2 rows i) := by
  obtain ⟨S, _, hb⟩ := mem_2U M h
  exact (hb.2.2.2.1 i.toNat (by omega)).1.rd
theorem star_pick : ∀ (is : List Itm) {n : Nat} {i : Itm} {w : World} {S : Nat → Prop}, is[n]? = some i → Star is w S → Star (i :: is.eraseIdx n) w S
  | [], n, i, _, _, h, _ => by simp at h
  | j :: is, 0, i, w, S, h, hs => by
    simp only [List.getElem?_cons_zero, Option.some.injEq] at h
    subst h
    exact hs
  | j :: is, n + 1, i, w, S, h, hs => by
    obtain ⟨S1, S2, k1, k2, hd, h1, h2⟩ := hs
    obtain ⟨T1, T2, t1, t2, td, a1, a2⟩ := star_pick is (by simpa using h) h2
    refine ⟨T1, fun k => S1 k ∨ T2 k, fun k h => k2 k (t1 k h), fun k h => h.elim (k1 k) fun h => k2 k (t2 k h), fun k a b => b.elim (fun b => hd k b (t1 k a)) (td k a), a1, ?_⟩
    exact ⟨S1, T2, fun k h => .inl h, fun k h => .inr h, fun k a b => hd k a (t2 k b), h1, a2⟩
theorem mem_pick {w0 w : World} {is : List Itm} {n : Nat} {i : Itm} (M : Mem w0 w is) (h : is[n]? = some i) : Mem w0 w (i :: is.eraseIdx n) := ⟨M.1, star_pick is h M.2⟩
theorem ownC_star {w : World} {lo : Nat} {c : Cat} {vs vt ve vm : Value} {us : List Value} {is : List Itm} (h : Star (own1I vs c.s :: own1I vt c.t :: own1I ve c.e :: own2U vm us c.m :: is) w (fun k => lo ≤ k)) : OwnC (.agg #[.int .i64 c.ob, vs, vt, ve, vm]) c w (fun k => lo ≤ k) := by
  obtain ⟨P1, R1, a1, b1, d1, h1, P2, R2, a2, b2, d2, h2, P3, R3, a3, b3, d3, h3, P4, R4, a4, b4, d4, h4, _⟩ := h
  refine ownC_shut h1 h2 h3 ⟨us, h4⟩ (fun k h => ?_) (fun k h h' => d1 k h (a2 k h')) (fun k h h' => d1 k h (b2 k (a3 k h'))) (fun k h h' => d1 k h (b2 k (b3 k (a4 k h')))) (fun k h h' => d2 k h (a3 k h')) (fun k h h' => d2 k h (b3 k (a4 k h'))) (fun k h h' => d3 k h (a4 k h'))
  rcases h with h | h | h | h
  · exact a1 k h
  · exact b1 k (a2 k h)
  · exact b1 k (b2 k (a3 k h))
  exact b1 k (b2 k (b3 k (a4 k h)))
theorem rdC_mk {w : World} {c : Cat} {vs vt ve vm : Value} (h1 : Rd w vs c.s) (h2 : Rd w vt c.t) (h3 : Rd w ve c.e) (h4 : Rd2 w vm c.m) : RdC w (.agg #[.int .i64 c.ob, vs, vt, ve, vm]) c := ⟨vs, vt, ve, vm, rfl, h1, h2, h3, h4⟩
abbrev Env := List (Nat × Value)
def look : Env → Nat → Option Value
  | [], _ => none
  | (k, v) :: e, t => bif Nat.beq k t then some v else look e t
def evo (e : Env) : Operand → Option Value
  | .tmp t => look e t
  | .const v => some v
  | .global g => some (.pointer (some ⟨g, 0, none⟩))
  | .func f => some (.func (.func f) #[] #[])
def evoL (e : Env) : List Operand → Option (List Value)
  | [] => some []
  | x :: xs => match evo e x, evoL e xs with
    | some v, some vs => some (v :: vs)
    | _, _ => none
def Sub : Env → Env → Prop
  | [], _ => True
  | (k, v) :: r, e => look e k = some v ∧ Sub r e
structure Frm where
  n : Nat
  ds : List Nat
  rd : Option Nat
def Frm.of (n : Nat) : Frm := ⟨n, [], none⟩
instance : Coe Frm Nat := ⟨Frm.n⟩
def markD (D : Nat) : Deferred := { target := .collected D, args := #[] }
structure Fit (N : Frm) (e : Env) (a : Act) : Prop where
  size : a.tmps.size = N.n
  defers : a.defers = N.ds.map markD
  at_ : ∀ t v, look e t = some v → a.tmps[t]? = some v
theorem sub_look : ∀ {r e : Env} {t : Nat} {v : Value}, Sub r e → look r t = some v → look e t = some v
  | [], _, _, _, _, h => by simp [look] at h
  | (k, u) :: r, e, t, v, hs, h => by
    unfold look at h
    cases hk : Nat.beq k t
    · rw [hk] at h; exact sub_look hs.2 h
    rw [hk] at h
    have : k = t := Nat.eq_of_beq_eq_true hk
    subst this
    rw [← h]; exact hs.1
theorem fit_sub {N : Frm} {r e : Env} {a : Act} (hs : Sub r e) (h : Fit N e a) : Fit N r a := ⟨h.size, h.defers, fun t v hl => h.at_ t v (sub_look hs hl)⟩
theorem fit_eval {N : Frm} {e : Env} {a : Act} (h : Fit N e a) {x : Operand} {v : Value} (hx : evo e x = some v) : a.eval x = v := by
  cases x with
  | tmp t => simp [Act.eval, Array.getD_eq_getD_getElem?, h.at_ t v hx]
  | const u => simpa [evo, Act.eval] using hx
  | global g => simpa [evo, Act.eval] using hx
  | func f => simpa [evo, Act.eval] using hx
theorem fit_evals {N : Frm} {e : Env} {a : Act} (h : Fit N e a) : ∀ {xs : List Operand} {vs : List Value}, evoL e xs = some vs → xs.map a.eval = vs
  | [], vs, hv => by simpa [evoL] using hv
  | x :: xs, vs, hv => by
    unfold evoL at hv
    cases h1 : evo e x with
    | none => rw [h1] at hv; simp at hv
    | some v =>
      cases h2 : evoL e xs with
      | none => rw [h1, h2] at hv; simp at hv
      | some us =>
        rw [h1, h2] at hv
        simp only [Option.some.injEq] at hv
        rw [← hv, List.map_cons, fit_eval h h1, fit_evals h h2]
theorem fit_put {N : Frm} {e : Env} {a : Act} {d : Nat} {v : Value} (h : Fit N e a) (hd : Nat.blt d N = true) : Fit N ((d, v) :: e) (a.put (some d) v) := by
  have hlt : d < a.tmps.size := by rw [h.size]; simpa using hd
  refine ⟨by simp [Act.put, h.size], h.defers, fun t u hl => ?_⟩
  unfold look at hl
  cases hk : Nat.beq d t
  · rw [hk] at hl
    have hne : d ≠ t := fun e => by rw [e, Nat.beq_refl] at hk; cases hk
    simp only [Act.put, Array.getElem?_setIfInBounds, if_neg hne]
    exact h.at_ t u hl
  rw [hk] at hl
  have : d = t := Nat.eq_of_beq_eq_true hk
  subst this
  simp only [cond_true, Option.some.injEq] at hl
  subst hl
  simp [Act.put, Array.getElem?_setIfInBounds, hlt]
theorem Fit.nil {N : Frm} {e : Env} {a : Act} (h : Fit N e a) (hds : N.ds = []) : a.defers = [] := by rw [h.defers, hds]; rfl
def QT (w0 : World) (is : List Itm) (N : Frm) (o : Oper) (e : Env) (v : Value) : Prop := ∀ w a, Mem w0 w is → Fit N e a → Oper.quietAt Try.prog o a (fun w' => Mem w0 w' is) w v
def RdyL (N : Frm) (rest : List Oper) (Q : Exit → Act → World → Prop) : Prop := N.rd ≠ none → rest.all calmO = true ∧ NoOut Q
theorem RdyL.o {N : Frm} {o : Oper} {rest : List Oper} {Q : Exit → Act → World → Prop} (h : RdyL N (o :: rest) Q) : N.rd ≠ none → calmO o = true := fun hr => by
  have := (h hr).1; simp only [List.all_cons, Bool.and_eq_true] at this; exact this.1
theorem RdyL.r {N : Frm} {o : Oper} {rest : List Oper} {Q : Exit → Act → World → Prop} (h : RdyL N (o :: rest) Q) : RdyL N rest Q := fun hr => by
  have := (h hr).1; simp only [List.all_cons, Bool.and_eq_true] at this; exact ⟨this.2, (h hr).2⟩
def G (w0 : World) (is : List Itm) (N : Frm) (ops : Array Oper) (Q : Exit → Act → World → Prop) (rest : List Oper) (e : Env) : Prop := ∀ w a, Mem w0 w is → Fit N e a → RdyL N rest Q → wpListIn (At N.rd) 0 Try.prog ops Q rest a w
def GD (w0 : World) (is : List Itm) (N : Frm) (ops : Array Oper) (Q : Act → Prop) (rest : List Oper) (e : Env) : Prop := ∀ a, Fit N e a → wpQuiet Try.prog ops (fun w' => Mem w0 w' is) Q rest a
def Rdy (N : Frm) (c : Code) (Q : Exit → Act → World → Prop) : Prop := N.rd ≠ none → calmC c = true ∧ NoOut Q
def GC (w0 : World) (is : List Itm) (N : Frm) (c : Code) (Q : Exit → Act → World → Prop) (e : Env) : Prop := ∀ w a, Mem w0 w is → Fit N e a → Rdy N c Q → Code.wpIn (At N.rd) 0 Try.prog c Q a w
def GK (w0 : World) (is : List Itm) (N : Frm) (K : Act → World → Prop) (e : Env) : Prop := ∀ w a, Mem w0 w is → Fit N e a → K a w
inductive Want (ops : Array Oper) (e : Env) (o : Oper) : Bool → Prop
  | free (h : o.guard = none) : Want ops e o true
  | held (j : Nat) (b : Bool) (t : Nat) (h : o.guard = some (j, b)) (hj : (ops[j]?).bind (·.dst) = some t) (ht : look e t = some (.bool b)) : Want ops e o true
  | not (j : Nat) (b c : Bool) (t : Nat) (h : o.guard = some (j, b)) (hj : (ops[j]?).bind (·.dst) = some t) (ht : look e t = some (.bool c)) (hbc : (c == b) = false) : Want ops e o false
section
variable {w0 : World} {is : List Itm} {N : Frm} {ops : Array Oper} {Q : Exit → Act → World → Prop} {o : Oper} {rest : List Oper} {e : Env} {v : Value} {d : Nat} {K : Act → World → Prop}
theorem want_eq {b : Bool} {a : Act} (h : Want ops e o b) (hf : Fit N e a) : Region.wanted o (yielded ops a.tmps) = b := by
  cases h with
  | free h => simp [Region.wanted, h]
  | held j b t h hj ht => simp [Region.wanted, h, yielded, hj, hf.at_ t _ ht]
  | not j b c t h hj ht hbc =>
    simp only [Region.wanted, h, yielded, hj, Option.bind_some, hf.at_ t _ ht]
    cases b <;> cases c <;> simp_all
theorem g_q (hw : Want ops e o true) (hd : o.dst = some d) (hN : Nat.blt d N = true) (hq : QT w0 is N o e v) (hk : G w0 is N ops Q rest ((d, v) :: e)) : G w0 is N ops Q (o :: rest) e := by
  intro w a M F R
  unfold wpListIn
  rw [if_pos (want_eq hw F)]
  refine oper_in R.o (Oper.wp_of_quiet (C := fun w' => Mem w0 w' is) (K := fun a => Fit N ((d, v) :: e) a) M (fun a w' hC hK => hk w' a hC hK R.r) ⟨v, fun w' hC => hq w' a hC F, ?_⟩)
  rw [hd]; exact fit_put F hN
def GO (w0 : World) (is : List Itm) (N : Frm) (o : Oper) (e : Env) (Q : Exit → Act → World → Prop) (K : Act → World → Prop) : Prop := ∀ w a, Mem w0 w is → Fit N e a → o.wp Try.prog a w K Q
theorem g_op (hw : Want ops e o true) (h : ∀ K : Act → World → Prop, (∀ is e, G w0 is N ops Q rest e → GK w0 is N K e) → GO w0 is N o e Q K) : G w0 is N ops Q (o :: rest) e := by
  intro w a M F R
  unfold wpListIn
  rw [if_pos (want_eq hw F)]
  exact oper_in R.o (h _ (fun is e hg w a M F => hg w a M F R.r) w a M F)
def QV (w0 : World) (is : List Itm) (o : Oper) (e : Env) (v : Value) : Prop := ∀ w (ρ : Operand → Value), Mem w0 w is → (∀ x v, evo e x = some v → ρ x = v) → (execOp ρ o).run Try.prog w = .ok (.value v) w
theorem qt_of (h : QV w0 is o e v) : QT w0 is N o e v := by
  intro w a M F
  unfold Oper.quietAt
  rw [h w a.eval M fun x v hx => fit_eval F hx]
  exact ⟨rfl, rfl⟩
theorem g_skip (hw : Want ops e o false) (hd : o.dst = some d) (hN : Nat.blt d N = true) (hk : G w0 is N ops Q rest ((d, undef) :: e)) : G w0 is N ops Q (o :: rest) e := by
  intro w a M F R
  unfold wpListIn
  rw [if_neg (by simp [want_eq hw F]), hd]
  exact ⟨fun _ _ => trivial, hk w _ M (fit_put F hN) R.r⟩
theorem g_nil (h : GK w0 is N (Q .normal) e) : G w0 is N ops Q [] e := fun w a M F _ => h w a M F
theorem gd_q {Q : Act → Prop} (hw : Want ops e o true) (hd : o.dst = some d) (hN : Nat.blt d N = true) (hq : QT w0 is N o e v) (hk : GD w0 is N ops Q rest ((d, v) :: e)) : GD w0 is N ops Q (o :: rest) e := by
  intro a F
  unfold wpQuiet
  rw [if_pos (want_eq hw F)]
  refine ⟨v, fun w' hC => hq w' a hC F, ?_⟩
  rw [hd]
  exact hk _ (fit_put F hN)
theorem gd_skip {Q : Act → Prop} (hw : Want ops e o false) (hd : o.dst = some d) (hN : Nat.blt d N = true) (hk : GD w0 is N ops Q rest ((d, undef) :: e)) : GD w0 is N ops Q (o :: rest) e := by
  intro a F
  unfold wpQuiet
  rw [if_neg (by simp [want_eq hw F]), hd]
  exact hk _ (fit_put F hN)
theorem g_v (hw : Want ops e o true) (hd : o.dst = some d) (hN : Nat.blt d N = true) (hq : QV w0 is o e v) (hk : G w0 is N ops Q rest ((d, v) :: e)) : G w0 is N ops Q (o :: rest) e := g_q hw hd hN (qt_of hq) hk
theorem gd_v {Q : Act → Prop} (hw : Want ops e o true) (hd : o.dst = some d) (hN : Nat.blt d N = true) (hq : QV w0 is o e v) (hk : GD w0 is N ops Q rest ((d, v) :: e)) : GD w0 is N ops Q (o :: rest) e := gd_q hw hd hN (qt_of hq) hk
theorem gd_nil (h : GK w0 is N (Q .normal) e) : GD w0 is N ops (fun a' => ∀ w', Mem w0 w' is → Q .normal a' w') [] e := fun a F w M => h w a M F
theorem rdy_l {x y : Code} (h : Rdy N (.seq x y) Q) : Rdy N x (Exit.then K Q) := fun hr => ⟨by have := (h hr).1; simp only [calmC, Bool.and_eq_true] at this; exact this.1, fun a w => (h hr).2 a w⟩
theorem rdy_r {x y : Code} (h : Rdy N (.seq x y) Q) : Rdy N y Q := fun hr => ⟨by have := (h hr).1; simp only [calmC, Bool.and_eq_true] at this; exact this.2, fun a w => (h hr).2 a w⟩
theorem rdy_t {c : Operand} {x y : Code} (h : Rdy N (.cond c x y) Q) : Rdy N x Q := fun hr => ⟨by have := (h hr).1; simp only [calmC, Bool.and_eq_true] at this; exact this.1, fun a w => (h hr).2 a w⟩
theorem rdy_f {c : Operand} {x y : Code} (h : Rdy N (.cond c x y) Q) : Rdy N y Q := fun hr => ⟨by have := (h hr).1; simp only [calmC, Bool.and_eq_true] at this; exact this.2, fun a w => (h hr).2 a w⟩
theorem rdy_block {id : Nat} {c : Code} (h : Rdy N (.block id c) Q) : Rdy N c (Exit.inBlock id Q) := fun hr => ⟨(h hr).1, fun a w => (h hr).2 a w⟩
theorem rdy_loop {c : Code} (h : Rdy N (.loop c) Q) : Rdy N c (Exit.then K Q) := fun hr => ⟨(h hr).1, fun a w => (h hr).2 a w⟩
theorem gc_seq {x y : Code} (h : ∀ K : Act → World → Prop, (∀ is e, GC w0 is N y Q e → GK w0 is N K e) → GC w0 is N x (Exit.then K Q) e) : GC w0 is N (.seq x y) Q e :=
  fun w a M F R => wpIn_seq (h _ (fun _ _ hy w a M F => hy w a M F (rdy_r R)) w a M F (rdy_l R))
theorem gc_region {id : Nat} {l' : List Oper} (h : G w0 is N l'.toArray Q l' e) : GC w0 is N (.region id l'.toArray false) Q e := fun w a M F R => wpIn_region_lit (h w a M F fun hr => ⟨by have := (R hr).1; simpa only [calmC] using this, (R hr).2⟩)
theorem gc_draw {id : Nat} {l' : List Oper} (hB : Region.lexB .any l'.toArray = true) (h : GD w0 is N l'.toArray (fun a' => ∀ w', Mem w0 w' is → Q .normal a' w') l' e) : GC w0 is N (.region id l'.toArray true) Q e := by
  intro w a M F R
  simp only [Region.lexB, Bool.and_eq_true] at hB
  refine draw_in (by kernel_rfl) (fun hr => ⟨(R hr).1, (R hr).2⟩) (wpAny_of_quiet (C := fun w' => Mem w0 w' is) (Q := fun a' => ∀ w', Mem w0 w' is → Q .normal a' w') (fun _ w' hw' h => h w' hw') _ _ _ _ (mem_keep M ⟨rfl, rfl, rfl, Nat.le_refl _, fun _ _ => rfl⟩) ?_)
  have := wpAnyQ_lex (C := fun w' => Mem w0 w' is) (md := .any) hB.1 l'.toArray.toList 0 (Array.replicate l'.toArray.size false) a (by simp) (by simpa using hB.2) (h a F)
  simpa using this
theorem gc_cond {c : Operand} {x y : Code} {b : Bool} (hc : evo e c = some (.bool b)) (ht : b = true → GC w0 is N x Q e) (hf : b = false → GC w0 is N y Q e) : GC w0 is N (.cond c x y) Q e :=
  fun w a M F R => wpIn_cond_split (fit_eval F hc) (fun h => ht h w a M F (rdy_t R)) (fun h => hf h w a M F (rdy_f R))
theorem gc_cond_t {c : Operand} {x y : Code} (hc : evo e c = some (.bool true)) (ht : GC w0 is N x Q e) : GC w0 is N (.cond c x y) Q e := gc_cond hc (fun _ => ht) (fun h => by cases h)
theorem gc_cond_f {c : Operand} {x y : Code} (hc : evo e c = some (.bool false)) (hf : GC w0 is N y Q e) : GC w0 is N (.cond c x y) Q e := gc_cond hc (fun h => by cases h) (fun _ => hf)
theorem gc_block {id : Nat} {c : Code} (h : GC w0 is N c (Exit.inBlock id Q) e) : GC w0 is N (.block id c) Q e := fun w a M F R => wpIn_block (h w a M F (rdy_block R))
theorem gc_skip (h : GK w0 is N (Q .normal) e) : GC w0 is N .skip Q e := fun w a M F _ => wpIn_skip (h w a M F)
theorem gc_ret (h : GK w0 is N (Q .ret) e) : GC w0 is N .ret Q e := fun w a M F _ => wpIn_ret (h w a M F)
theorem gc_exit {id : Nat} (h : GK w0 is N (Q (.exit id)) e) : GC w0 is N (.exit id) Q e := fun w a M F _ => wpIn_exit (h w a M F)
theorem gk_then (h : GK w0 is N K e) : GK w0 is N (Exit.then K Q .normal) e := fun w a M F => h w a M F
theorem gk_then_ret (h : GK w0 is N (Q .ret) e) : GK w0 is N (Exit.then K Q .ret) e := fun w a M F => h w a M F
theorem gk_then_exit {id : Nat} (h : GK w0 is N (Q (.exit id)) e) : GK w0 is N (Exit.then K Q (.exit id)) e := fun w a M F => h w a M F
theorem gk_block {id : Nat} (h : GK w0 is N (Q .normal) e) : GK w0 is N (Exit.inBlock id Q .normal) e := fun w a M F => h w a M F
theorem gk_block_ret {id : Nat} (h : GK w0 is N (Q .ret) e) : GK w0 is N (Exit.inBlock id Q .ret) e := fun w a M F => h w a M F
theorem gk_block_hit {id : Nat} (h : GK w0 is N (Q .normal) e) : GK w0 is N (Exit.inBlock id Q (.exit id)) e := fun w a M F => by
  show (if id = id then Q .normal _ _ else _)
  rw [if_pos rfl]; exact h w a M F
theorem gk_take (n : Nat) (h : GK w0 (is.take n) N K e) : GK w0 is N K e := fun w a M F => h w a (mem_take n M) F
theorem gk_sub {r : Env} (hs : Sub r e) (h : GK w0 is N K r) : GK w0 is N K e := fun w a M F => h w a M (fit_sub hs F)
theorem gk_erase (n : Nat) (h : GK w0 (is.eraseIdx n) N K e) : GK w0 is N K e := fun w a M F => h w a (mem_erase n M) F
end
def GA (w0 : World) (is0 is : List Itm) (N : Frm) (ops : Array Oper) (Q : Exit → Act → World → Prop) (fuel : Nat) (listed : Array Bool) (e : Env) : Prop := ∀ w a, Mem w0 w is0 → Mem w0 w is → Fit N e a → wpAnyH Try.prog .any ops Q (fun w => Mem w0 w is0) fuel listed a w
section
variable {w0 : World} {is is0 : List Itm} {N : Frm} {ops : Array Oper} {Q : Exit → Act → World → Prop} {o : Oper} {e : Env} {v : Value} {d : Nat} {K : Act → World → Prop} {fuel : Nat} {listed : Array Bool}
theorem ga_start {id : Nat} {l' : List Oper} (is0 : List Itm) (hS : ∀ w, Mem w0 w is → Mem w0 w is0) (h : GA w0 is0 is N l'.toArray Q l'.toArray.size (Array.replicate l'.toArray.size false) e) : GC w0 is N (.region id l'.toArray true) Q e := by
  intro w a M F R
  have M' : Mem w0 w.drew is := mem_keep M ⟨rfl, rfl, rfl, Nat.le_refl _, fun _ _ => rfl⟩
  exact draw_in (by kernel_rfl) (fun hr => ⟨(R hr).1, (R hr).2⟩) (wpAny_of_held (S := fun w => Mem w0 w is0) _ _ _ _ (h _ a (hS _ M') M' F))
theorem ga_v (i : Nat) (hi : ops[i]? = some o) (h1 : Region.noSelect ops = true) (h2 : Region.free .any ops listed i = true) (h3 : (Region.ready .any ops listed).contains i = true) (hw : Want ops e o true) (hd : o.dst = some d) (hN : Nat.blt d N = true) (hq : QV w0 is0 o e v)
    (hQ : ∀ c a w, Q (.panic c) (a.put o.dst v) w → Q (.panic c) a w) (hk : GA w0 is0 is N ops Q fuel (listed.setIfInBounds i true) ((d, v) :: e)) : GA w0 is0 is N ops Q (fuel + 1) listed e := by
  intro w a h0 M F
  refine wpAnyH_take (i := i) (oi := o) (v := v) hi h1 h2 h3 hQ (.inl ⟨want_eq hw F, fun w hS => hq w a.eval hS fun x v hx => fit_eval F hx⟩) h0 (hk w _ h0 M ?_)
  rw [hd]; exact fit_put F hN
theorem ga_skip (i : Nat) (hi : ops[i]? = some o) (h1 : Region.noSelect ops = true) (h2 : Region.free .any ops listed i = true) (h3 : (Region.ready .any ops listed).contains i = true) (hw : Want ops e o false) (hd : o.dst = some d) (hN : Nat.blt d N = true)
    (hQ : ∀ c a w, Q (.panic c) (a.put o.dst undef) w → Q (.panic c) a w) (hk : GA w0 is0 is N ops Q fuel (listed.setIfInBounds i true) ((d, undef) :: e)) : GA w0 is0 is N ops Q (fuel + 1) listed e := by
  intro w a h0 M F
  refine wpAnyH_take (i := i) (oi := o) (v := undef) hi h1 h2 h3 hQ (.inr ⟨want_eq hw F, rfl⟩) h0 (hk w _ h0 M ?_)
  rw [hd]; exact fit_put F hN
theorem ga_op (i : Nat) (hr : Region.ready .any ops listed = [i]) (hi : ops[i]? = some o) (hw : Want ops e o true)
    (h : ∀ K : Act → World → Prop, (∀ is e, (∀ w, Mem w0 w is → Mem w0 w is0) → GA w0 is0 is N ops Q fuel (listed.setIfInBounds i true) e → GK w0 is N K e) → GO w0 is N o e Q K) : GA w0 is0 is N ops Q (fuel + 1) listed e := by
  intro w a h0 M F
  refine wpAnyH_ready hr (by simp) (AllReadyH.cons hi (fun K' hK => ?_) AllReadyH.nil)
  rw [if_pos (want_eq hw F)]
  exact h K' (fun is' e' hS hg w' a' M' F' => hK.out a' w' (hS w' M') fun h0' => hg w' a' h0' M' F') w a M F
theorem ga_done (hr : Region.ready .any ops listed = []) (h : GK w0 is N (Q .normal) e) : GA w0 is0 is N ops Q fuel listed e := fun w a _ M F => wpAnyH_done hr (h w a M F) _
end
theorem fit_enter {l : List Value} {N : Nat} (hN : l.length = N) {e : Env} (he : ∀ t v, look e t = some v → l[t]? = some v) : Fit (Frm.of N) e ⟨l.toArray, []⟩ := ⟨by simp [hN, Frm.of], rfl, fun t v h => by simpa using he t v h⟩
theorem look_nil (l : List Value) : ∀ t v, look [] t = some v → l[t]? = some v := fun t v h => by simp [look] at h
theorem look_cons {l : List Value} {e : Env} {k : Nat} {u : Value} (hk : l[k]? = some u) (he : ∀ t v, look e t = some v → l[t]? = some v) : ∀ t v, look ((k, u) :: e) t = some v → l[t]? = some v := fun t v h => by
  unfold look at h
  cases hb : Nat.beq k t
  · rw [hb] at h; exact he t v h
  rw [hb] at h
  have : k = t := Nat.eq_of_beq_eq_true hb
  subst this
  rw [← h]; exact hk
theorem rdy_of {N : Nat} {c : Code} {Q : Exit → Act → World → Prop} : Rdy (Frm.of N) c Q := fun h => absurd rfl h
theorem gc_enter {c : Code} {Q : Exit → Act → World → Prop} {w : World} {l : List Value} {N : Nat} {e : Env} (hN : l.length = N) (he : ∀ t v, look e t = some v → l[t]? = some v) (h : GC w [] (Frm.of N) c Q e) : c.wp Try.prog Q ⟨l.toArray, []⟩ w :=
  wp_out (h w _ (mem_nil w) (fit_enter hN he) rdy_of)
theorem exists_least (p : Nat → Prop) : ∀ n, p n → ∃ m, p m ∧ ∀ k, p k → m ≤ k := by
  intro n
  induction n using Nat.strongRecOn with
  | _ n ih =>
    intro hp
    by_cases h : ∃ k, k < n ∧ p k
    · obtain ⟨k, hk, hpk⟩ := h
      exact ih k hk hpk
    exact ⟨n, hp, fun k hk => Nat.le_of_not_lt fun hlt => h ⟨k, hlt, hk⟩⟩
noncomputable def leastN (p : Nat → Prop) : Nat := @dite _ (∃ m, p m ∧ ∀ k, p k → m ≤ k) (Classical.propDecidable _) (fun h => Classical.choose h) (fun _ => 0)
theorem leastN_spec {p : Nat → Prop} {n : Nat} (h : p n) : p (leastN p) ∧ leastN p ≤ n := by
  have he := exists_least p n h
  unfold leastN
  rw [dif_pos he]
  exact ⟨(Classical.choose_spec he).1, (Classical.choose_spec he).2 n h⟩
def updL {α : Type} (l : List α) (ch : List (Nat × α)) : List α := ch.foldl (fun l p => l.set p.1 p.2) l
theorem gc_loop {w0 : World} {is : List Itm} {N : Frm} {Q : Exit → Act → World → Prop} {e : Env} {c : Code} {σ : Type} (C : Env) (E : σ → Env) (ti : σ → List (Nat × Itm)) (inv : σ → Prop) (μ : σ → Nat) (s0 : σ)
    (hC : Sub (E s0 ++ C) e) (ht : updL is (ti s0) = is) (h0 : inv s0)
    (round : ∀ s, inv s → ∀ K : Act → World → Prop, (∀ s', inv s' → μ s' < μ s → GK w0 (updL is (ti s')) N K (E s' ++ C)) → GC w0 (updL is (ti s)) N c (Exit.then K Q) (E s ++ C)) :
    GC w0 is N (.loop c) Q e := by
  intro w a M F R
  refine wpIn_loop (fun a w => ∃ s, inv s ∧ Fit N (E s ++ C) a ∧ Mem w0 w (updL is (ti s)))
    (fun a w => leastN fun n => ∃ s, inv s ∧ Fit N (E s ++ C) a ∧ Mem w0 w (updL is (ti s)) ∧ μ s = n) ⟨s0, h0, fit_sub hC F, by rw [ht]; exact M⟩ ?_
  rintro a w ⟨s1, i1, ha, hM⟩
  obtain ⟨⟨s, hi, ha2, hM2, hmu⟩, _⟩ := leastN_spec (p := fun n => ∃ s, inv s ∧ Fit N (E s ++ C) a ∧ Mem w0 w (updL is (ti s)) ∧ μ s = n) ⟨s1, i1, ha, hM, rfl⟩
  have hr := round s hi (fun a' w' => ∃ s', inv s' ∧ μ s' < μ s ∧ Fit N (E s' ++ C) a' ∧ Mem w0 w' (updL is (ti s'))) (fun s' h1 h2 w' a' M' F' => ⟨s', h1, h2, F', M'⟩) w a hM2 ha2 (rdy_loop R)
  refine Code.wpIn_mono (fun e a' w' q => ?_) hr
  cases e with
  | normal =>
    obtain ⟨s', h1, h2, h3, h4⟩ := q
    refine ⟨⟨s', h1, h3, h4⟩, ?_⟩
    have := (leastN_spec (p := fun n => ∃ s, inv s ∧ Fit N (E s ++ C) a' ∧ Mem w0 w' (updL is (ti s)) ∧ μ s = n) ⟨s', h1, h3, h4, rfl⟩).2
    show leastN _ < leastN _
    omega
  | exit _ => exact q
  | goto _ => exact q
  | ret => exact q
  | panic _ => exact q
  | outgrown => exact q
end Go.Proofs.Ytbiplocgenppoaa
