import Derived.Test.YtbiplocgenppoaaS18
import Derived.Test.YtbiplocgenppoaaS14
import Derived.Test.YtbiplocgenppoaaS25
set_option linter.unusedSimpArgs false
set_option linter.unusedVariables false
set_option linter.unusedSectionVars false
namespace Go.Proofs.Ytbiplocgenppoaa
open _root_.Go.Proofs.Try
open Go.RowKit
theorem held_loc (φ : World → Prop) : Loc (fun w S => ∀ w', Agree S w w' → φ w') where
  keep {w w' S S'} hs ha h := fun w'' h2 => h w'' fun k hk hS => by
    have h1 := ha k hk hS
    have hlt : k < w'.heap.size := by
      rw [Array.getElem?_eq_getElem hk] at h1
      exact (Array.getElem?_eq_some_iff.1 h1).1
    rw [h2 k hlt (hs k hk hS), h1]
def heldI (φ : World → Prop) : Itm := ⟨_, held_loc φ⟩
theorem mem_held {w0 w : World} {is : List Itm} {n : Nat} {φ : World → Prop} (M : Mem w0 w is) (h : is[n]? = some (heldI φ)) : φ w := by
  obtain ⟨S, _, hb⟩ := mem_get M h
  exact (hb : ∀ w', Agree S w w' → φ w') w agree_refl
theorem mem_hold {w0 w : World} (L : List Itm) {J : List Itm} {φ : World → Prop} (h : ∀ w S, Star J w S → φ w) (M : Mem w0 w (L ++ J)) : Mem w0 w (L ++ [heldI φ]) := by
  obtain ⟨S1, S2, k1, k2, kd, hL, hs⟩ := star_parts L M.2
  exact ⟨M.1, star_app L _ k1 k2 kd hL ⟨S2, fun _ => False, fun k h => h, fun k h => h.elim, fun k _ h => h, fun w' ha => h w' S2 (star_keep J (fun _ _ h => h) ha hs), trivial⟩⟩
theorem tail_get {w0 w : World} {is : List Itm} {n : Nat} {F : List Itm} {φ : World → Prop} (hF : ∀ w S, Star F w S → φ w) (M : Mem w0 w is) (h : is[n]? = some (tailI F)) : φ w := by
  obtain ⟨S, _, hb⟩ := mem_get M h
  exact hF w S (star_tail_out [] (F := F) ⟨S, fun _ => False, fun _ h => h, fun _ h => h.elim, fun _ _ h => h, hb, trivial⟩)
def RetMH (w0 : World) (i : Itm) (F : List Itm) (P : Cat → Prop) (e : Ending) (w' : World) : Prop := ∃ (c : Cat) (v : Value), P c ∧ e = .returned v ∧ Mem w0 w' [i, tailI F, heldI (fun w => RdC w v c)]
theorem mem_packH {w0 w : World} (L : List Itm) {ob : Int} {xs ys zs : List Int} {rows : List (List Int)} {vs vt ve vm : Value} {us : List Value} (M : Mem w0 w (L ++ [own1I vs xs, own1I vt ys, own1I ve zs, own2U vm us rows])) : Mem w0 w (L ++ [heldI fun w => RdC w (.agg #[.int .i64 ob, vs, vt, ve, vm]) ⟨ob, xs, ys, zs, rows⟩]) :=
  mem_hold L (fun w S h => by
    obtain ⟨P1, R1, _, _, _, h1, P2, R2, _, _, _, h2, P3, R3, _, _, _, h3, P4, R4, _, _, _, h4, _⟩ := h
    exact ⟨vs, vt, ve, vm, rfl, Own1.rd h1, Own1.rd h2, Own1.rd h3, Own2.rd (S := P4) ⟨us, h4⟩⟩) M
theorem mem_packT {w0 w : World} (L : List Itm) {ob : Int} {xs ys zs : List Int} {rows : List (List Int)} {vs vt ve vm : Value} (M : Mem w0 w (L ++ [own1I vs xs, own1I vt ys, own1I ve zs, heldI fun w => Rd2 w vm rows])) : Mem w0 w (L ++ [heldI fun w => RdC w (.agg #[.int .i64 ob, vs, vt, ve, vm]) ⟨ob, xs, ys, zs, rows⟩]) :=
  mem_hold L (fun w S h => by
    obtain ⟨P1, R1, _, _, _, h1, P2, R2, _, _, _, h2, P3, R3, _, _, _, h3, P4, R4, _, _, _, h4, _⟩ := h
    exact ⟨vs, vt, ve, vm, rfl, Own1.rd h1, Own1.rd h2, Own1.rd h3, (h4 : ∀ w', Agree P4 w w' → Rd2 w' vm rows) w agree_refl⟩) M
def tailV : Value → Value
  | .slice a n cap => .slice (if cap = 1 then a else a.map (·.add 1)) (n - 1) (cap - 1)
  | v => v
theorem sl_tail {w : World} {base : Nat} {u : Value} {xs : List Int} (h : Sl w base u xs) (h0 : 0 < xs.length) : Rd w (tailV u) xs.tail := by
  obtain ⟨a, cap, rfl, hl, hc⟩ := h.rd
  have hcap : xs.length ≤ cap := by
    rcases h.1.2 with ⟨_, hn⟩ | ⟨g, cap', cur, hv, _, _, hle, _⟩
    · omega
    simp only [Value.slice.injEq] at hv
    rw [hv.2.2]; exact hle
  obtain ⟨b, off, rfl, hb, hcell⟩ := hc 0 h0
  have hlen : xs.tail.length = xs.length - 1 := List.length_tail
  refine ⟨_, cap - 1, by rw [hlen]; rfl, by omega, fun j hj => ?_⟩
  have hc1 : ¬ cap = 1 := by omega
  rw [if_neg hc1]
  refine ⟨b, off + 1, rfl, hb, fun i hi => ?_⟩
  have h2 := hcell (1 + i) (by omega)
  rw [← Nat.add_assoc] at h2
  rw [h2, List.getD_eq_getElem?_getD, List.getD_eq_getElem?_getD, List.getElem?_tail, Nat.add_comm 1 i]
theorem getD_some (L : List Value) {k : Nat} (h : k < L.length) : L[k]? = some (L.getD k undef) := by
  rw [List.getD_eq_getElem?_getD, List.getElem?_eq_getElem h]; rfl
section
variable {w0 : World} {is : List Itm} {Q : Exit → Act → World → Prop} {o : Oper} {N : Frm} {e : Env} {d : Nat} {K : Act → World → Prop} {v : Value}
theorem qt_min3 {x y z : Operand} {t t' t'' : TypeId} {a b c : Int} (hop : o.op = .call { callee := .builtin .min, args := #[x, y, z], argTypes := #[t, t', t''] }) (hx : evo e x = some (.int .i64 a)) (hy : evo e y = some (.int .i64 b)) (hz : evo e z = some (.int .i64 c)) : QV w0 is o e (.int .i64 (min (min a b) c)) :=
  fun w ac M F => by
    have hx := F _ _ hx; have hy := F _ _ hy; have hz := F _ _ hz
    simp [execOp, hop, resolve, invoke, builtin, Builtin.min_, Builtin.min2, hx, hy, hz, Sem.run_bind, Sem.run_pure, Result.andThen_ok, go_sem]
    split <;> split <;> omega
theorem qt_tail {x : Operand} {t : TypeId} {u : Value} {xs : List Int} (hop : o.op = .slice t x (some (.const (.int .i64 1))) none none) (hx : evo e x = some u) (ht : Try.prog.underlying t = some (.slice 2)) (hu : ∀ w, Mem w0 w is → Rd w u xs) (h0 : 0 < xs.length) : QV w0 is o e (tailV u) :=
  fun w ac M F => by
    have hx := F _ _ hx
    have hc := F (.const (.int .i64 1)) (.int .i64 1) rfl
    obtain ⟨a, cap, rfl, _⟩ := rd_form (hu w M)
    have hi : (Try.prog.info? 2).map (·.size) = some 1 := by kernel_rfl
    obtain ⟨inf, h1, h2⟩ := Option.map_eq_some_iff.1 hi
    simp [execOp, hop, hx, hc, Instr.sliceAt, Instr.slice, run_underlying ht, Instr.sliceBounds, Instr.sliceBound, asIntOf, Sem.run_bind, Sem.run_pure, sizeOf, typeInfo, h1, h2, tailV]
    intro hlt; omega
theorem go_storeTail {t : TypeId} {x y : Operand} {n : Nat} {us : List Value} {rows : List (List Int)} {i : Int} (hd : o.dst = none) (hop : o.op = .store t x y) (hx : evo e x = some (eltP v i)) (hy : evo e y = some (tailV (us.getD i.toNat undef)))
    (hs : (Try.prog.info? t).map (·.size) = some 1) (hi : is[n]? = some (own2U v us rows)) (h0 : 0 ≤ i) (h1 : i < rows.length) (hr : 0 < (row2 rows i).length)
    (hk : GK w0 (is.set n (heldI fun w => Rd2 w v (rows.set i.toNat (row2 rows i).tail))) N K e) : GO w0 is N o e Q K := by
  intro w ac M F
  obtain ⟨S, hS, hp, hset⟩ := mem_set M hi
  have hp' : Own2U v us rows w S := hp
  obtain ⟨h1', h2, h3, h4, h5, h6⟩ := hp'
  have hlt : i.toNat < rows.length := by omega
  have hform := h3.2
  rcases hform with ⟨_, hn⟩ | ⟨g, cap, cur, rfl, _, hg, hnc, hcm, hcs, htk⟩
  · omega
  have hcur : i.toNat < cur.size := by rw [hcs]; omega
  have hcell : w.cell? ⟨g, i.toNat, none⟩ = some cur[i.toNat] := by rw [cell_of_row w g _ cur _ (0, 0) hg]; simp [hcur]
  have hfz : w.frozen? ⟨g, i.toNat, none⟩ = false := frozen_of_row w g _ _ _ hg
  have hgS : S g := h6 g rfl
  have hrow := h4 i.toNat hlt
  obtain ⟨ua, uc, hu, hf⟩ := sl_form hrow.1
  have hst := h3.stored i.toNat (tailV (us.getD i.toNat undef))
  refine go_skip (w' := w.setCell ⟨g, i.toNat, none⟩ (tailV (us.getD i.toNat undef))) hd F ?_ fun ac F => hk _ ac (hset _ (heldI fun w => Rd2 w (.slice (some ⟨g, 0, none⟩) rows.length cap) (rows.set i.toNat (row2 rows i).tail)) (frS_set hgS) ?_) F
  · intro ρ F; have hx := F _ _ hx; have hy := F _ _ hy
    have he : eltP (.slice (some ⟨g, 0, none⟩) rows.length cap) i = .pointer (some ⟨g, i.toNat, none⟩) := by simp [eltP]
    rw [hu] at hy ⊢
    generalize (rows.getD i.toNat []).length = nn at hy ⊢
    simp [execOp, hop, hx, hy, he, run_store1 hs (u := tailV (.slice ua nn uc)) rfl rfl hcell hfz]
  intro w2 ha
  have hag : Agree (fun q => S q ∧ q ≠ g) w w2 := fun q hq hqs => by
    have e1 : (w.setCell ⟨g, i.toNat, none⟩ (tailV (us.getD i.toNat undef))).heap[q]? = w.heap[q]? := agree_set (S := fun q => q ≠ g) (fun h => h rfl) q hq hqs.2
    rw [← e1]
    exact ha q (by simpa using hq) (.inl hqs.1)
  have hrd : ∀ k : Nat, k < rows.length → Sl w2 0 (us.getD k undef) (rows.getD k []) := fun k hk => by
    have hk4 := h4 k hk
    have ho : Own1 (us.getD k undef) (rows.getD k []) w (fun q => S q ∧ q ≠ g) := ⟨hk4.1, fun q hq => ⟨hk4.2.2 q hq, fun e => hk4.2.1 q hq (by rw [e]; rfl)⟩⟩
    exact ((own1_loc _ _).keep (fun _ _ h => h) hag ho).1
  have hw1 := hst.1
  rcases hw1.2 with ⟨hv, _⟩ | ⟨g', cap', cur', hv, _, hg', hnc', hcm', hcs', htk'⟩
  · simp at hv
  simp only [Value.slice.injEq, Option.some.injEq, Addr.mk.injEq] at hv
  obtain ⟨⟨rfl, _⟩, _, rfl⟩ := hv
  have hg2 : w2.heap[g]? = some (.cells cur' 24 (0, 0)) := by
    rw [← hg']
    exact ha g (Array.getElem?_eq_some_iff.1 hg').1 (.inl hgS)
  refine ⟨some ⟨g, 0, none⟩, cap, by rw [List.length_set], by rw [List.length_set]; exact h2, fun j hj => ⟨g, 0, rfl, (Array.getElem?_eq_some_iff.1 hg2).1, fun k hk => ?_⟩⟩
  rw [List.length_set] at hk
  refine ⟨(us.set i.toNat (tailV (us.getD i.toNat undef))).getD k undef, ?_, ?_⟩
  · have e1 : (us.set i.toNat (tailV (us.getD i.toNat undef)))[k]? = some ((us.set i.toNat (tailV (us.getD i.toNat undef))).getD k undef) := by
      exact getD_some _ (by rw [List.length_set]; omega)
    have e2 : cur'[k]? = (us.set i.toNat (tailV (us.getD i.toNat undef)))[k]? := by
      rw [← htk', List.getElem?_take, if_pos (by omega)]; simp
    rw [cell_of_row w2 g (0 + k) cur' _ (0, 0) hg2, Nat.zero_add, ← e1, ← e2]
  rw [getD_set2 us i.toNat _ undef k (by omega), getD_set2 rows i.toNat _ [] k hlt]
  by_cases hik : k = i.toNat
  · rw [if_pos hik, if_pos hik]
    exact sl_tail (hrd _ hlt) hr
  rw [if_neg hik, if_neg hik]
  exact (hrd k hk).rd
end
end Go.Proofs.Ytbiplocgenppoaa
