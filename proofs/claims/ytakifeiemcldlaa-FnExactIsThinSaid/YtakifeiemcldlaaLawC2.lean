
/- Marks on a category, and how one that comes in is opened. -/
import Derived.Lib.SmallJoins
import Derived.Test.YtakifeiemcldlaaLawC
namespace Go.Proofs.Ytakifeiemcldlaa
open Go.RowKit
open Go.Joins Go.ChangeShapes Go.WideShapes Go.Deep

theorem frS_new {S : Nat → Prop} {w w' : World} (hb : Below w.heap.size w w') : FrS S w w' := ⟨hb.os, hb.tape, hb.output, hb.size, fun k hk _ => hb.block k hk⟩
theorem bx_fr {w w' : World} {B : Nat} {t : TypeId} {cs : List Value} {S : Nat → Prop} (h : Bx w B t cs) (hf : FrS S w w') (hs : ¬ S B) : Bx w' B t cs := by
  unfold Bx at h ⊢
  rw [hf.block B (Array.getElem?_eq_some_iff.1 h).1 hs]; exact h
theorem Loc.small {P : World → (Nat → Prop) → Prop} (h : Loc P) {w : World} {S : Nat → Prop} (hp : P w S) : ∃ T : Nat → Prop, (∀ k, T k → S k) ∧ (∀ k, T k → k < w.heap.size) ∧ P w T :=
  ⟨_, fun _ h => h.1, fun _ h => h.2, h.fin hp⟩
theorem Loc.frS {P : World → (Nat → Prop) → Prop} (h : Loc P) {w w' : World} {S T : Nat → Prop} (hf : FrS T w w') (hd : ∀ k, T k → ¬ S k) (hp : P w S) : P w' S :=
  h.keep (fun _ _ hs => hs) (agree_frS hf hd) hp

/-- A category's own blocks, part by part. -/
theorem ownC_open {w : World} {S : Nat → Prop} {v : Value} {c : Cat} (h : OwnC v c w S) : ∃ (vs vt ve vm : Value) (P1 P2 P3 P4 : Nat → Prop), v = .agg #[.int .i64 c.ob, vs, vt, ve, vm] ∧
    Own1 vs c.s w P1 ∧ Own1 vt c.t w P2 ∧ Own1 ve c.e w P3 ∧ Own2 vm c.m w P4 ∧ (∀ k, P1 k ∨ P2 k ∨ P3 k ∨ P4 k → S k ∧ k < w.heap.size) ∧
    (∀ k, P1 k → ¬ P2 k) ∧ (∀ k, P1 k → ¬ P3 k) ∧ (∀ k, P1 k → ¬ P4 k) ∧ (∀ k, P2 k → ¬ P3 k) ∧ (∀ k, P2 k → ¬ P4 k) ∧ (∀ k, P3 k → ¬ P4 k) := by
  obtain ⟨vs, vt, ve, vm, rfl, S1, T1, a1, b1, d1, h1, S2, T2, a2, b2, d2, h2, S3, S4, a3, b3, d3, h3, h4⟩ := h
  refine ⟨vs, vt, ve, vm, _, _, _, _, rfl, (own1_loc _ _).fin h1, (own1_loc _ _).fin h2, (own1_loc _ _).fin h3, (own2_loc _ _).fin h4, ?_, fun k h h' => d1 k h.1 (a2 k h'.1), fun k h h' => d1 k h.1 (b2 k (a3 k h'.1)), fun k h h' => d1 k h.1 (b2 k (b3 k h'.1)), fun k h h' => d2 k h.1 (a3 k h'.1), fun k h h' => d2 k h.1 (b3 k h'.1), fun k h h' => d3 k h.1 h'.1⟩
  rintro k (h | h | h | h)
  · exact ⟨a1 k h.1, h.2⟩
  · exact ⟨b1 k (a2 k h.1), h.2⟩
  · exact ⟨b1 k (b2 k (a3 k h.1)), h.2⟩
  · exact ⟨b1 k (b2 k (b3 k h.1)), h.2⟩
theorem ownC_shut {w : World} {S : Nat → Prop} {c : Cat} {vs vt ve vm : Value} {P1 P2 P3 P4 : Nat → Prop} (h1 : Own1 vs c.s w P1) (h2 : Own1 vt c.t w P2) (h3 : Own1 ve c.e w P3) (h4 : Own2 vm c.m w P4)
    (hs : ∀ k, P1 k ∨ P2 k ∨ P3 k ∨ P4 k → S k) (d12 : ∀ k, P1 k → ¬ P2 k) (d13 : ∀ k, P1 k → ¬ P3 k) (d14 : ∀ k, P1 k → ¬ P4 k) (d23 : ∀ k, P2 k → ¬ P3 k) (d24 : ∀ k, P2 k → ¬ P4 k) (d34 : ∀ k, P3 k → ¬ P4 k) :
    OwnC (.agg #[.int .i64 c.ob, vs, vt, ve, vm]) c w S :=
  ⟨vs, vt, ve, vm, rfl, P1, fun k => P2 k ∨ P3 k ∨ P4 k, fun k h => hs k (.inl h), fun k h => hs k (.inr h), fun k h h' => by rcases h' with h' | h' | h'; exact d12 k h h'; exact d13 k h h'; exact d14 k h h', h1,
    P2, fun k => P3 k ∨ P4 k, fun k h => .inl h, fun k h => .inr h, fun k h h' => by rcases h' with h' | h'; exact d23 k h h'; exact d24 k h h', h2, P3, P4, fun k h => .inl h, fun k h => .inr h, d34, h3, h4⟩

set_option maxHeartbeats 800000 in
set_option maxRecDepth 100000 in
theorem markC_any (w : World) (S : Nat → Prop) (v : Value) (c : Cat) (k0 : Int) (h : OwnC v c w S) (hk0 : 0 ≤ k0) (hk1 : k0 + (mzC c : Int) ≤ 1152921504606846976) :
    Calls Try.prog 32 #[v, .int .i64 k0] w (fun e w' => e = .returned (.int .i64 (k0 + (mzC c : Int))) ∧ OwnC v (mkC k0 c) w' S ∧ FrS S w w') := by
  unfold mzC at hk1 ⊢
  obtain ⟨vs, vt, ve, vm, P1, P2, P3, P4, rfl, h1, h2, h3, h4, hs, d12, d13, d14, d23, d24, d34⟩ := ownC_open h
  have D12 := Lib.hid d12; have D13 := Lib.hid d13; have D14 := Lib.hid d14; have D23 := Lib.hid d23; have D24 := Lib.hid d24; have D34 := Lib.hid d34; have HS := Lib.hid hs
  have O1 := Lib.hid h1; have O2 := Lib.hid h2; have O3 := Lib.hid h3; have O4 := Lib.hid h4
  have L1 := h1.1.2; have L2 := h2.1.2; have L3 := h3.1.2
  clear h h1 h2 h3 h4 d12 d13 d14 d23 d24 d34 hs
  obtain ⟨n1, e1⟩ : ∃ n, n = c.s.length := ⟨_, rfl⟩
  obtain ⟨n2, e2⟩ : ∃ n, n = c.t.length := ⟨_, rfl⟩
  obtain ⟨n3, e3⟩ : ∃ n, n = c.e.length := ⟨_, rfl⟩
  obtain ⟨n4, e4⟩ : ∃ n, n = offR c.m c.m.length := ⟨_, rfl⟩
  have hmk : mkC k0 c = ⟨c.ob, upTo k0 n1, upTo (k0 + n1) n2, upTo (k0 + n1 + n2) n3, mk2 (k0 + n1 + n2 + n3) c.m c.m.length⟩ := by rw [e1, e2, e3]; rfl
  rw [hmk]
  rw [← e1, ← e2, ← e3, ← e4] at hk1 ⊢
  rw [← e1] at L1; rw [← e2] at L2; rw [← e3] at L3
  have N1 := Lib.hid e1; have N2 := Lib.hid e2; have N3 := Lib.hid e3; have N4 := Lib.hid e4
  clear e1 e2 e3 e4 hmk
  go_enter Try.func32, Try.ntmps32
  go_wp2_with fail
  generalize hW : World.alloc _ _ = W
  have A0 : Bx W w.heap.size 28 [.int .i64 c.ob, vs, vt, ve, vm] := by rw [← hW]; exact bx_new _ _ _
  have hb : Below w.heap.size w W := by rw [← hW]; exact (Below.refl _ _).alloc (Nat.le_refl _) _
  clear hW
  have fr : FrS S w W := frS_new hb
  have t1 := (own1_loc _ _).below hb O1.out; have t2 := (own1_loc _ _).below hb O2.out; have t3 := (own1_loc _ _).below hb O3.out; have t4 := (own2_loc _ _).below hb O4.out
  clear O1 O2 O3 O4 hb
  have O1 := Lib.hid t1; have O2 := Lib.hid t2; have O3 := Lib.hid t3; have O4 := Lib.hid t4
  clear t1 t2 t3 t4
  refine (markS_any _ _ _ c.s k0 O1.out (by omega) (by omega)).mono ?_
  rw [← N1.out]
  rintro e1 u1 ⟨rfl, o1, f1⟩
  replace A0 := bx_fr A0 f1 (fun hk => by have := (HS.out _ (.inl hk)).2; omega)
  have t2 := (own1_loc _ _).frS f1 D12.out O2.out
  have t3 := (own1_loc _ _).frS f1 D13.out O3.out
  have t4 := (own2_loc _ _).frS f1 D14.out O4.out
  replace fr := fr.trans (f1.mono fun q hq => (HS.out q (.inl hq)).1)
  clear O1 O2 O3 O4 f1
  have O1 := Lib.hid o1; have O2 := Lib.hid t2; have O3 := Lib.hid t3; have O4 := Lib.hid t4
  clear o1 t2 t3 t4
  have cc := bx5 A0
  have X0 := Lib.hid A0; clear A0
  go_wp2_with fail
  refine (markS_any _ _ _ c.t (k0 + n1) O2.out (by omega) (by omega)).mono ?_
  rw [← N2.out]
  rintro e2 u2 ⟨rfl, o2, f2⟩
  have A0 := bx_fr X0.out f2 (fun hk => by have := (HS.out _ (.inr (.inl hk))).2; omega)
  have t1 := (own1_loc _ _).frS f2 (fun q a b => D12.out q b a) O1.out
  have t3 := (own1_loc _ _).frS f2 D23.out O3.out
  have t4 := (own2_loc _ _).frS f2 D24.out O4.out
  replace fr := fr.trans (f2.mono fun q hq => (HS.out q (.inr (.inl hq))).1)
  clear O1 O2 O3 O4 f2 X0 cc
  have O1 := Lib.hid t1; have O2 := Lib.hid o2; have O3 := Lib.hid t3; have O4 := Lib.hid t4
  clear t1 o2 t3 t4
  have cc := bx5 A0
  have X0 := Lib.hid A0; clear A0
  go_wp2_with fail
  refine (markS_any _ _ _ c.e (k0 + n1 + n2) O3.out (by omega) (by omega)).mono ?_
  rw [← N3.out]
  rintro e3 u3 ⟨rfl, o3, f3⟩
  have A0 := bx_fr X0.out f3 (fun hk => by have := (HS.out _ (.inr (.inr (.inl hk)))).2; omega)
  have t1 := (own1_loc _ _).frS f3 (fun q a b => D13.out q b a) O1.out
  have t2 := (own1_loc _ _).frS f3 (fun q a b => D23.out q b a) O2.out
  have t4 := (own2_loc _ _).frS f3 D34.out O4.out
  replace fr := fr.trans (f3.mono fun q hq => (HS.out q (.inr (.inr (.inl hq)))).1)
  clear O1 O2 O3 O4 f3 X0 cc
  have O1 := Lib.hid t1; have O2 := Lib.hid t2; have O3 := Lib.hid o3; have O4 := Lib.hid t4
  clear t1 t2 o3 t4
  have cc := bx5 A0
  have X0 := Lib.hid A0; clear A0
  go_wp2_with fail
  refine (markS2_any _ _ _ c.m (k0 + n1 + n2 + n3) O4.out (by omega) (by have := N4.out; omega)).mono ?_
  rw [← N4.out]
  rintro e4 u4 ⟨rfl, o4, f4⟩
  have A0 := bx_fr X0.out f4 (fun hk => by have := (HS.out _ (.inr (.inr (.inr hk)))).2; omega)
  have t1 := (own1_loc _ _).frS f4 (fun q a b => D14.out q b a) O1.out
  have t2 := (own1_loc _ _).frS f4 (fun q a b => D24.out q b a) O2.out
  have t3 := (own1_loc _ _).frS f4 (fun q a b => D34.out q b a) O3.out
  replace fr := fr.trans (f4.mono fun q hq => (HS.out q (.inr (.inr (.inr hq)))).1)
  clear O1 O2 O3 O4 f4 X0 cc
  have O1 := Lib.hid t1; have O2 := Lib.hid t2; have O3 := Lib.hid t3; have O4 := Lib.hid o4
  clear t1 t2 t3 o4
  clear A0
  have hF := Lib.hid (ownC_shut (c := ⟨c.ob, upTo k0 n1, upTo (k0 + n1) n2, upTo (k0 + n1 + n2) n3, mk2 (k0 + n1 + n2 + n3) c.m c.m.length⟩) O1.out O2.out O3.out O4.out (fun k hk => (HS.out k hk).1) D12.out D13.out D14.out D23.out D24.out D34.out)
  clear O1 O2 O3 O4 HS D12 D13 D14 D23 D24 D34
  go_wp2
  go_ret
  exact ⟨ret_i (by omega), hF.out, fr⟩

theorem mk2_off {k0 : Int} (rows : List (List Int)) : ∀ i, i ≤ rows.length → offR (mk2 k0 rows rows.length) i = offR rows i := by
  intro i
  induction i with
  | zero => intro _; rfl
  | succ i ih =>
    intro hi
    show offR (mk2 k0 rows rows.length) i + ((mk2 k0 rows rows.length).getD i []).length = offR rows i + (rows.getD i []).length
    rw [ih (by omega), mk2_getD (by omega), if_pos (by omega), upTo_length]

set_option maxHeartbeats 800000 in
set_option maxRecDepth 100000 in
theorem heldC_any (w : World) (v : Value) (c : Cat) (k0 : Int) (h : RdC w v (mkC k0 c)) (hk0 : 0 ≤ k0) (hk1 : k0 + (mzC c : Int) ≤ 1152921504606846976) :
    Calls Try.prog 41 #[v, .int .i64 k0] w (RetI w (k0 + (mzC c : Int))) := by
  unfold mzC at hk1 ⊢
  obtain ⟨vs, vt, ve, vm, rfl, h1, h2, h3, h4⟩ := h
  simp only [mkC] at h1 h2 h3 h4
  have H1 := Lib.hid h1; have H2 := Lib.hid h2; have H3 := Lib.hid h3; have H4 := Lib.hid h4
  clear h1 h2 h3 h4
  obtain ⟨n1, e1⟩ : ∃ n, n = c.s.length := ⟨_, rfl⟩
  obtain ⟨n2, e2⟩ : ∃ n, n = c.t.length := ⟨_, rfl⟩
  obtain ⟨n3, e3⟩ : ∃ n, n = c.e.length := ⟨_, rfl⟩
  obtain ⟨n4, e4⟩ : ∃ n, n = offR c.m c.m.length := ⟨_, rfl⟩
  rw [← e1, ← e2, ← e3, ← e4] at hk1 ⊢
  rw [← e1] at H1; rw [← e1, ← e2] at H2; rw [← e1, ← e2, ← e3] at H3; rw [← e1, ← e2, ← e3] at H4
  have N4 := Lib.hid e4
  clear e1 e2 e3 e4
  go_enter Try.func41, Try.ntmps41
  simp only [mkC]
  go_wp2_with fail
  generalize hW : World.alloc _ _ = W
  have A0 : Bx W w.heap.size 28 [.int .i64 c.ob, vs, vt, ve, vm] := by rw [← hW]; exact bx_new _ _ _
  have hb : Below w.heap.size w W := by rw [← hW]; exact (Below.refl _ _).alloc (Nat.le_refl _) _
  clear hW
  refine (held_any _ _ n1 k0 (rd_below hb H1.out) (by omega) (by omega)).mono ?_; rintro e1 u1 ⟨rfl, hn1⟩
  replace A0 := bx_below hn1 A0
  replace hb := hb.trans (hn1.mono hb.size)
  clear hn1
  have i1 : ¬ k0 + n1 < 0 := by omega
  have cc := bx5 A0
  have X0 := Lib.hid A0; clear A0
  go_wp2_with fail
  refine (held_any _ _ n2 (k0 + n1) (rd_below hb H2.out) (by omega) (by omega)).mono ?_; rintro e2 u2 ⟨rfl, hn2⟩
  have A0 := bx_below hn2 X0.out
  replace hb := hb.trans (hn2.mono hb.size)
  clear hn2 X0 cc
  have i2 : ¬ (k0 + n1) + n2 < 0 := by omega
  have cc := bx5 A0
  have X0 := Lib.hid A0; clear A0
  go_wp2_with fail
  refine (held_any _ _ n3 (k0 + n1 + n2) (rd_below hb H3.out) (by omega) (by omega)).mono ?_; rintro e3 u3 ⟨rfl, hn3⟩
  have A0 := bx_below hn3 X0.out
  replace hb := hb.trans (hn3.mono hb.size)
  clear hn3 X0 cc
  have i3 : ¬ (k0 + n1 + n2) + n3 < 0 := by omega
  have cc := bx5 A0
  have X0 := Lib.hid A0; clear A0
  go_wp2_with fail
  refine (held2_any _ _ c.m (k0 + n1 + n2 + n3) (rd2_below hb H4.out) (by omega) (by have := N4.out; omega)).mono ?_
  rw [← N4.out]
  rintro e4 u4 ⟨rfl, hn4⟩
  have A0 := bx_below hn4 X0.out
  replace hb := hb.trans (hn4.mono hb.size)
  clear hn4 X0 cc
  have i4 : ¬ (k0 + n1 + n2 + n3) + n4 < 0 := by omega
  clear A0
  go_wp2
  go_ret
  exact ⟨ret_i (by omega), hb⟩

set_option maxRecDepth 100000 in
theorem in_of_trod {H : Type} {enc : TypeId × Value → H} {w : World} {v : Value} {x : DataW H × List MemPlace} {fuel : Nat}
    (hf : DataW.trod enc Try.prog w 0 (fun _ => true) true fuel 22 [v] = some x) : ∃ xs, In w v xs := by
  rcases open_ints Try.underlying22 Try.underlying2 cells64 hf with ⟨hcs, _⟩ | ⟨a, len, cap, zs, hcs, _, hl, hm, hz, _, hcell, hwz⟩
  · simp at hcs
    subst hcs
    exact ⟨[], none, 0, rfl, Nat.zero_le _, by simp, fun j hj => absurd hj (Nat.not_lt_zero _)⟩
  · simp at hcs
    subst hcs
    simp only [if_true] at hz
    have htl : (zs.take len).length = len := by simp; omega
    refine ⟨zs.take len, some a, cap, by rw [htl], by omega, fun x hx => hwz x (List.mem_of_mem_take hx), fun j hj => ?_⟩
    rw [htl] at hj
    obtain ⟨b, off, spot⟩ := a
    have hspot : spot = none := by simpa [Addr.add] using World.cell?_spot (hcell 0 (by omega))
    subst hspot
    refine ⟨b, off, rfl, World.block_lt_of_cell? w _ (by simpa using hcell 0 (by omega)), fun i hi => ?_⟩
    rw [htl] at hi
    rw [take_getD hi]
    have hh := hcell i (by omega)
    rw [Addr.add_lit] at hh
    exact hh

set_option maxRecDepth 100000 in
theorem in2_of_trod {H : Type} {enc : TypeId × Value → H} {w : World} {v : Value} {x : DataW H × List MemPlace} {fuel : Nat}
    (hf : DataW.trod enc Try.prog w 0 (fun _ => true) true fuel 23 [v] = some x) : ∃ rows, In2 w v rows := by
  rcases Go.Deep.open_int_rows Try.underlying23 Try.underlying22 Try.underlying2 cellsS64 cells64 hf with ⟨hcs, _⟩ | ⟨a, len, cap, A, L, C, Z, hcs, _, hl, hm, _, hrow⟩
  · simp at hcs
    subst hcs
    exact ⟨[], none, 0, rfl, Nat.zero_le _, fun j hj => absurd hj (Nat.not_lt_zero _)⟩
  · simp at hcs
    subst hcs
    have hrl : ((List.range len).map fun r => (Z r).take (L r)).length = len := by simp
    refine ⟨(List.range len).map fun r => (Z r).take (L r), some a, cap, by rw [hrl], by rw [hrl]; omega, fun j hj => ?_⟩
    rw [hrl] at hj
    obtain ⟨b, off, spot⟩ := a
    have hspot : spot = none := by simpa [Addr.add] using World.cell?_spot (hrow 0 (by omega)).1
    subst hspot
    refine ⟨b, off, rfl, World.block_lt_of_cell? w _ (by simpa using (hrow 0 (by omega)).1), fun i hi => ?_⟩
    rw [hrl] at hi
    obtain ⟨h1, h2, h3, h4, h5, h6, h7⟩ := hrow i (by omega)
    rw [Addr.add_lit] at h1
    have hgd : ((List.range len).map fun r => (Z r).take (L r)).getD i [] = (Z i).take (L i) := by simp [List.getD_eq_getElem?_getD, hi]
    rw [hgd]
    have htl : ((Z i).take (L i)).length = L i := by simp; omega
    refine ⟨_, h1, A i, C i, by rw [htl], by omega, fun x hx => h5 x (List.mem_of_mem_take hx), fun q hq => ?_⟩
    rw [htl] at hq
    cases hA : A i with
    | none => have := h6 hA; omega
    | some a' =>
      obtain ⟨hbase, hcells⟩ := h7 a' hA
      obtain ⟨b', off', spot'⟩ := a'
      have hs2 : spot' = none := by simpa [Addr.add] using World.cell?_spot (hcells 0 (by omega))
      subst hs2
      refine ⟨b', off', rfl, World.block_lt_of_cell? w _ (by simpa using hcells 0 (by omega)), fun c hc => ?_⟩
      rw [htl] at hc
      rw [take_getD hc]
      have hh := hcells c (by omega)
      rw [Addr.add_lit] at hh
      exact hh

/-- A struct of five one-cell fields, by value (after the kit's page extra-structs). -/
theorem openAgg5 {H : Type} {enc : TypeId × Value → H} {P : Program} {w : World} {base : Nat} {spare : Nat → Bool} {held : Bool} {r : Reach} {b0 : Nat} {t : TypeId} {f0 f1 f2 f3 f4 : Field} {v : Value} {d : DataW H} {p : List MemPlace} (hs : P.underlying t = some (.struct #[f0, f1, f2, f3, f4])) (hone : oneCellFields P #[f0, f1, f2, f3, f4] = true) (hC : P.cellsOf t = 5)
    (hv : Value.okWide P w r b0 t v) (h : DataW.Trod enc P w base spare held t v d p) :
    ∃ (v0 v1 v2 v3 v4 : Value) (y0 y1 y2 y3 y4 : DataW H × List MemPlace) (n : Nat), v = .agg #[v0, v1, v2, v3, v4] ∧
      DataW.trod enc P w base spare held n f0.type [v0] = some y0 ∧ DataW.trod enc P w base spare held n f1.type [v1] = some y1 ∧ DataW.trod enc P w base spare held n f2.type [v2] = some y2 ∧ DataW.trod enc P w base spare held n f3.type [v3] = some y3 ∧ DataW.trod enc P w base spare held n f4.type [v4] = some y4 := by
  obtain ⟨cs, rfl, hsz⟩ := okWide_struct hs hv
  obtain ⟨l⟩ := cs
  match l, hsz.trans hC with
  | [c0, c1, c2, c3, c4], _ =>
    obtain ⟨fuel, hf⟩ := h
    obtain ⟨xs, n, _, hx, _, hlen, hg⟩ := DataW.trod_struct hs hf
    obtain ⟨o0, k0⟩ := hone_of hone 0 f0 rfl
    obtain ⟨o1, k1⟩ := hone_of hone 1 f1 rfl
    obtain ⟨o2, k2⟩ := hone_of hone 2 f2 rfl
    obtain ⟨o3, k3⟩ := hone_of hone 3 f3 rfl
    obtain ⟨o4, k4⟩ := hone_of hone 4 f4 rfl
    match xs, hlen with
    | [y0, y1, y2, y3, y4], _ =>
      exact ⟨c0, c1, c2, c3, c4, y0, y1, y2, y3, y4, n, rfl, by simpa [Value.cells, o0, k0] using hg 0 f0 rfl, by simpa [Value.cells, o1, k1] using hg 1 f1 rfl, by simpa [Value.cells, o2, k2] using hg 2 f2 rfl, by simpa [Value.cells, o3, k3] using hg 3 f3 rfl, by simpa [Value.cells, o4, k4] using hg 4 f4 rfl⟩

set_option maxRecDepth 100000 in
theorem open_inC {H : Type} {enc : TypeId × Value → H} {w : World} {v : Value} {d : DataW H} {ps : List MemPlace} {base : Nat}
    (hv : Value.okWide Try.prog w .any base 25 v) (h : DataW.Trod enc Try.prog w 0 (fun _ => true) true 25 v d ps) : ∃ c, InC w v c := by
  obtain ⟨v0, v1, v2, v3, v4, y0, y1, y2, y3, y4, n, rfl, t0, t1, t2, t3, t4⟩ := openAgg5 Try.underlying25 (by kernel_rfl) (by kernel_rfl) hv h
  obtain ⟨xs, h1⟩ := in_of_trod t1
  obtain ⟨ys, h2⟩ := in_of_trod t2
  obtain ⟨zs, h3⟩ := in_of_trod t3
  obtain ⟨rows, h4⟩ := in2_of_trod t4
  obtain ⟨x, hx, _⟩ := DataW.trod_int Try.underlying2 t0
  simp at hx
  subst hx
  exact ⟨⟨x, xs, ys, zs, rows⟩, v1, v2, v3, v4, rfl, h1, h2, h3, h4⟩

theorem rdC_drew {w : World} {v : Value} {c : Cat} (h : RdC w v c) : RdC w.drew v c := rdC_below (Below.refl _ _).drew h

end Go.Proofs.Ytakifeiemcldlaa
