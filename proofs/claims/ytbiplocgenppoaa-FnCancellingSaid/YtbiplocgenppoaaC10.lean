import Derived.Test.YtbiplocgenppoaaC9
import Derived.Deep.MidRow
set_option linter.unusedSimpArgs false
set_option linter.unusedVariables false
set_option linter.unusedSectionVars false
namespace Go.Proofs.Ytbiplocgenppoaa
open _root_.Go.Proofs.Try
open Go.RowKit
def cancP (fs : List (Int → Int)) (m : Nat) : Prop := ∀ g h : Nat, h < g → g < m → ∃ φ ∈ fs, φ g = -1 ∨ φ g ≠ φ h
def bef (c : Cat) (f : Int) : Int → Int := fun g => c.th g f
def beh (c : Cat) (f : Int) : Int → Int := fun g => c.th f g
def monoP (c : Cat) (f : Int) : Prop := cancP [bef c f] c.s.length
def epiP (c : Cat) (f : Int) : Prop := cancP [beh c f] c.s.length
noncomputable def solL (φ : Int → Int) (v : Int) (k : Nat) : List Int := filTo (fun g => φ (g : Int) = v) (fun g => (g : Int)) k
theorem sol_t {φ : Int → Int} {v : Int} {k : Nat} (h : φ (k : Int) = v) : solL φ v k ++ [(k : Int)] = solL φ v (k + 1) := filTo_t (p := fun g => φ (g : Int) = v) h
theorem sol_f {φ : Int → Int} {v : Int} {k : Nat} (h : ¬ φ (k : Int) = v) : solL φ v k = solL φ v (k + 1) := filTo_f (p := fun g => φ (g : Int) = v) h
theorem sol_len (φ : Int → Int) (v : Int) (k : Nat) : (solL φ v k).length ≤ k := filTo_len _ _ _
theorem sol_mem {φ : Int → Int} {v : Int} {k : Nat} {x : Int} : x ∈ solL φ v k ↔ ∃ j : Nat, j < k ∧ φ (j : Int) = v ∧ (j : Int) = x := filTo_mem
noncomputable def retL (c : Cat) (f : Int) : List Int := solL (beh c f) (at0 c.e (at0 c.s f)) c.s.length
theorem th_m1 {c : Cat} (hS : ShapeP c) {f g : Int} (f0 : 0 ≤ f) (f1 : f < c.s.length) (g0 : 0 ≤ g) (g1 : g < c.s.length) (h : c.th f g ≠ -1) : at0 c.t f = at0 c.s g :=
  Classical.byContradiction fun hn => h ((th_none hS f0 f1 g0 g1).2 hn)
theorem ret_iff {c : Cat} (hS : ShapeP c) {f g : Int} (f0 : 0 ≤ f) (f1 : f < c.s.length) (g0 : 0 ≤ g) (g1 : g < c.s.length) :
    (at0 c.s g = at0 c.t f ∧ at0 c.t g = at0 c.s f ∧ c.th f g = at0 c.e (at0 c.s f)) ↔ beh c f g = at0 c.e (at0 c.s f) := by
  refine ⟨fun h => h.2.2, fun h => ?_⟩
  have hA := arrP hS f0 f1
  have hi := hS.idn (x := at0 c.s f) hA.s0 (by have := hA.s1; have := hS.el; omega)
  have h' : c.th f g = at0 c.e (at0 c.s f) := h
  have he := th_m1 hS f0 f1 g0 g1 (by rw [h']; have := hi.1; omega)
  have ht := th_ends hS f0 f1 g0 g1 he
  rw [h'] at ht
  exact ⟨he.symm, by rw [← ht.2.2, hi.2.2.2], h'⟩
def badM (c : Cat) (f : Int) (g h : Nat) : Prop := at0 c.s g = at0 c.s h ∧ at0 c.t g = at0 c.s f ∧ at0 c.t h = at0 c.s f ∧ c.th g f = c.th h f
def noB (p : Nat → Nat → Prop) (m k l : Nat) : Prop := ∀ g h : Nat, (g < k ∨ g = k ∧ h < l) → g < h → h < m → ¬ p g h
theorem noB_zero (p : Nat → Nat → Prop) (m : Nat) : noB p m 0 0 := fun g h h1 => absurd h1 (by omega)
theorem noB_row {p : Nat → Nat → Prop} {m k : Nat} (h : noB p m k 0) : noB p m k (k + 1) := fun g x h1 h2 h3 => by
  rcases h1 with h1 | ⟨rfl, h1⟩
  · exact h g x (.inl h1) h2 h3
  omega
theorem noB_next {p : Nat → Nat → Prop} {m k l : Nat} (h : noB p m k l) (hn : ¬ p k l) : noB p m k (l + 1) := fun g x h1 h2 h3 => by
  by_cases he : g = k ∧ x = l
  · obtain ⟨rfl, rfl⟩ := he; exact hn
  exact h g x (by omega) h2 h3
theorem noB_end {p : Nat → Nat → Prop} {m k l : Nat} (h : noB p m k l) (hl : m ≤ l) : noB p m (k + 1) 0 := fun g x h1 h2 h3 => by
  rcases h1 with h1 | ⟨rfl, h1⟩
  · exact h g x (by omega) h2 h3
  omega
theorem badM_iff {c : Cat} (hS : ShapeP c) {f : Int} (f0 : 0 ≤ f) (f1 : f < c.s.length) {g h : Nat} (hg : g < c.s.length) (hh : h < c.s.length) : badM c f g h ↔ ¬ (bef c f h = -1 ∨ bef c f h ≠ bef c f g) := by
  unfold bef
  have k1 := th_none hS (f := (h : Int)) (g := f) (by omega) (by omega) f0 f1
  constructor
  · rintro ⟨h1, h2, h3, h4⟩ (h5 | h5)
    · exact k1.1 h5 h3
    exact h5 h4.symm
  intro hn
  have e1 : c.th h f = c.th g f := Classical.byContradiction fun h => hn (.inr h)
  have e2 := th_m1 hS (f := (h : Int)) (g := f) (by omega) (by omega) f0 f1 fun h => hn (.inl h)
  have e3 := th_m1 hS (f := (g : Int)) (g := f) (by omega) (by omega) f0 f1 fun h => hn (.inl (e1.trans h))
  have t1 := th_ends hS (f := (h : Int)) (g := f) (by omega) (by omega) f0 f1 e2
  have t2 := th_ends hS (f := (g : Int)) (g := f) (by omega) (by omega) f0 f1 e3
  exact ⟨by rw [← t1.2.1, ← t2.2.1, e1], e3, e2, e1.symm⟩
theorem mono_of {c : Cat} (hS : ShapeP c) {f : Int} (f0 : 0 ≤ f) (f1 : f < c.s.length) (h : noB (badM c f) c.s.length c.s.length 0) : monoP c f := fun g x hx hg =>
  ⟨bef c f, by simp, Classical.byContradiction fun hn => h x g (.inl (by omega)) hx hg ((badM_iff hS f0 f1 (by omega) hg).2 hn)⟩
theorem mono_not {c : Cat} (hS : ShapeP c) {f : Int} (f0 : 0 ≤ f) (f1 : f < c.s.length) {g h : Nat} (hgh : g < h) (hh : h < c.s.length) (hb : badM c f g h) : ¬ monoP c f := fun hm => by
  obtain ⟨φ, h1, h2⟩ := hm h g hgh hh
  rw [List.mem_singleton] at h1; subst h1
  exact (badM_iff hS f0 f1 (by omega) hh).1 hb h2
theorem assocI {c : Cat} (hC : IsCat c) {f g h : Int} (f0 : 0 ≤ f) (f1 : f < c.s.length) (g0 : 0 ≤ g) (g1 : g < c.s.length) (h0 : 0 ≤ h) (h1 : h < c.s.length) (e1 : at0 c.t f = at0 c.s g) (e2 : at0 c.t g = at0 c.s h) : c.th (c.th f g) h = c.th f (c.th g h) := by
  obtain ⟨a, rfl⟩ := Int.eq_ofNat_of_zero_le f0
  obtain ⟨b, rfl⟩ := Int.eq_ofNat_of_zero_le g0
  obtain ⟨d, rfl⟩ := Int.eq_ofNat_of_zero_le h0
  have := hC.assoc a b d (by omega) (by omega) (by omega)
  exact Classical.byContradiction fun hn => this ⟨e1, e2, hn⟩
theorem unitL {c : Cat} (hC : IsCat c) {f : Int} (f0 : 0 ≤ f) (f1 : f < c.s.length) : c.th (at0 c.e (at0 c.s f)) f = f ∧ c.th f (at0 c.e (at0 c.t f)) = f := by
  obtain ⟨a, rfl⟩ := Int.eq_ofNat_of_zero_le f0
  exact hC.idl a (by omega)
noncomputable def fIsMono (c : Cat) (f : Int) : Bool × Int := if arrErr c [f] = 0 then (bP (monoP c f), 0) else (false, arrErr c [f])
noncomputable def fIsEpi (c : Cat) (f : Int) : Bool × Int := if arrErr c [f] = 0 then (bP (epiP c f), 0) else (false, arrErr c [f])
noncomputable def fRetractionsOf (c : Cat) (f : Int) : List Int × Int := if arrErr c [f] = 0 then (retL c f, 0) else ([], arrErr c [f])
theorem IsMono_e {c : Cat} {f : Int} (h : ¬ arrErr c [f] = 0) : fIsMono c f = (false, arrErr c [f]) := if_neg h
theorem IsMono_t {c : Cat} {f : Int} (h : arrErr c [f] = 0) : fIsMono c f = (bP (monoP c f), 0) := if_pos h
theorem IsEpi_e {c : Cat} {f : Int} (h : ¬ arrErr c [f] = 0) : fIsEpi c f = (false, arrErr c [f]) := if_neg h
theorem IsEpi_t {c : Cat} {f : Int} (h : arrErr c [f] = 0) : fIsEpi c f = (bP (epiP c f), 0) := if_pos h
theorem RetractionsOf_e {c : Cat} {f : Int} (h : ¬ arrErr c [f] = 0) : fRetractionsOf c f = ([], arrErr c [f]) := if_neg h
theorem RetractionsOf_t {c : Cat} {f : Int} (h : arrErr c [f] = 0) : fRetractionsOf c f = (retL c f, 0) := if_pos h
end Go.Proofs.Ytbiplocgenppoaa
namespace Go.Proofs.Ytbiplocgenppoaa
open _root_.Go.Proofs.Try
open Go.RowKit
abbrev Ent (α : Type) := Int × Int × α
structure Lab (α : Type) where
  z : Nat
  lc : α → List Value
  tE : TypeId
  tS : TypeId
  tM : TypeId
  bts : Nat
  zc : Value
  td : TypeDesc
  len : ∀ l, (lc l).length = z
  one : ∀ l, (lc l).all (·.oneCell') = true
  inf : (Try.prog.info? tE).map (fun i => (i.zero, i.size, i.bytes)) = some (some zc, z + 2, bts)
  zl : zc.cells.size = z + 2
  cap : Nat
  hc1 : 1 ≤ cap
  hc2 : cap ≤ 17592186044415
  hcb : cap * bts ≤ 140737488355328
  hz : z ≤ 64
  ud : Try.prog.underlying tE = some td
  row : td.isRow = true
  ul : Try.prog.underlying tS = some (.slice tE)
  el : Try.prog.elem tS = tE
  um : Try.prog.underlying tM = some (.map tE 2)
  chk : ∀ (a b : Int) (l : α) (em : Bool) (w : World), (Instr.checkKey em 10000 tE (.agg (Value.int .i64 a :: Value.int .i64 b :: lc l).toArray)).run Try.prog w = .ok () w
  eqk : ∀ (a b a' b' : Int) (l l' : α) (w : World), (Op.equal tE (.agg (Value.int .i64 a :: Value.int .i64 b :: lc l).toArray) (.agg (Value.int .i64 a' :: Value.int .i64 b' :: lc l').toArray)).run Try.prog w = .ok (bP (a = a' ∧ b = b' ∧ l = l')) w
variable {α : Type}
def enc (L : Lab α) (e : Ent α) : List Value := Value.int .i64 e.1 :: Value.int .i64 e.2.1 :: L.lc e.2.2
def encA (L : Lab α) (e : Ent α) : Value := .agg (enc L e).toArray
theorem enc_len (L : Lab α) (e : Ent α) : (enc L e).length = L.z + 2 := by simp [enc, L.len]
theorem enc_one (L : Lab α) (e : Ent α) : (enc L e).all (·.oneCell') = true := by
  have := L.one e.2.2
  simp only [enc, List.all_cons, this]; rfl
theorem lab_size (L : Lab α) : (Try.prog.info? L.tE).map (·.size) = some (L.z + 2) := by
  obtain ⟨i, hi, _, hs, _⟩ := info_parts L.inf
  simp [hi, hs]
theorem lab_ul (L : Lab α) : Try.prog.underlying L.tS = some (.slice (Try.prog.elem L.tS)) := by rw [L.el]; exact L.ul
theorem flat_at (L : Lab α) : ∀ (es : List (Ent α)) {j : Nat} (hj : j < es.length) {c : Nat}, c < L.z + 2 → (es.flatMap (enc L))[j * (L.z + 2) + c]? = (enc L es[j])[c]?
  | [], j, hj, _, _ => by simp at hj
  | e :: es, 0, _, c, hc => by rw [List.flatMap_cons, List.getElem?_append_left (by rw [enc_len]; omega)]; simp
  | e :: es, j + 1, hj, c, hc => by
    rw [List.flatMap_cons, List.getElem?_append_right (by rw [enc_len, Nat.succ_mul]; omega), enc_len, show (j + 1) * (L.z + 2) + c - (L.z + 2) = j * (L.z + 2) + c from by rw [Nat.succ_mul]; omega]
    simpa using flat_at L es (j := j) (by simpa using hj) hc
def OwnE (L : Lab α) (v : Value) (es : List (Ent α)) (w : World) (S : Nat → Prop) : Prop := w.ownsRow 0 L.tE (L.z + 2) v es.length (es.flatMap (enc L)) ∧ es.length ≤ L.cap ∧ ∀ q, v.ownBlock = some q → S q
theorem ownE_loc (L : Lab α) (v : Value) (es : List (Ent α)) : Loc (OwnE L v es) where
  keep hs ha h := ⟨own_agree h.1 fun q hq e => ha q hq (h.2.2 q e), h.2.1, fun q hq => hs q (h.1.lt q hq).2 (h.2.2 q hq)⟩
def ownEI (L : Lab α) (v : Value) (es : List (Ent α)) : Itm := ⟨_, ownE_loc L v es⟩
def RdE (L : Lab α) (w : World) (v : Value) (es : List (Ent α)) : Prop :=
  ∃ (a : Option Addr) (cap : Nat), v = .slice a es.length cap ∧ es.length ≤ L.cap ∧
    (0 < es.length → ∃ b off, a = some ⟨b, off, none⟩ ∧ b < w.heap.size ∧ ∀ j (hj : j < es.length), w.rangeAt b (off + j * (L.z + 2)) (enc L es[j]))
theorem rdE_below {L : Lab α} {w w' : World} {v : Value} {es : List (Ent α)} (hb : Below w.heap.size w w') (h : RdE L w v es) : RdE L w' v es := by
  obtain ⟨a, cap, hv, hl, hc⟩ := h
  refine ⟨a, cap, hv, hl, fun h0 => ?_⟩
  obtain ⟨b, off, ha, hbs, hcell⟩ := hc h0
  exact ⟨b, off, ha, Nat.lt_of_lt_of_le hbs hb.size, fun j hj i u hu => (hb.cell (p := ⟨b, _, none⟩) hbs).trans (hcell j hj i u hu)⟩
theorem OwnE.rd {L : Lab α} {w : World} {S : Nat → Prop} {v : Value} {es : List (Ent α)} (h : OwnE L v es w S) : RdE L w v es := by
  obtain ⟨h1, h2, h3⟩ := h
  rcases h1.2 with ⟨hv, hn⟩ | ⟨g, cap, cur, hv, _, hg, _⟩
  · exact ⟨none, 0, by rw [hv, hn], h2, fun h => by omega⟩
  refine ⟨some ⟨g, 0, none⟩, cap, hv, h2, fun _ => ⟨g, 0, rfl, (Array.getElem?_eq_some_iff.1 hg).1, fun j hj c u hu => ?_⟩⟩
  have hc : c < L.z + 2 := by
    have := (List.getElem?_eq_some_iff.1 hu).1
    rwa [enc_len] at this
  have hf := flat_at L es hj hc
  rw [hu] at hf
  have hlt := (List.getElem?_eq_some_iff.1 hf).1
  rw [Nat.zero_add]
  subst hv
  have := h1.cells (g := g) rfl (j * (L.z + 2) + c) u hf
  rw [Addr.add_mid, Nat.zero_add] at this
  exact this
theorem ownE_form {L : Lab α} {w : World} {S : Nat → Prop} {v : Value} {es : List (Ent α)} (h : OwnE L v es w S) : ∃ a cap, v = .slice a es.length cap := let ⟨a, cap, hv, _⟩ := h.rd; ⟨a, cap, hv⟩
theorem fold_set (l : List Value) : ∀ (k : Nat) (cs : Array Value), k + l.length = cs.size → (l.zipIdx k).foldl (fun (cs : Array Value) x => cs.setIfInBounds x.2 x.1) cs = (cs.toList.take k ++ l).toArray := by
  induction l with
  | nil =>
    intro k cs h
    simp only [List.length_nil, Nat.add_zero] at h
    subst h
    rw [List.take_of_length_le (by simp)]; simp
  | cons a l ih =>
    intro k cs h
    simp only [List.length_cons] at h
    rw [List.zipIdx_cons, List.foldl_cons, ih (k + 1) _ (by simp; omega)]
    apply congrArg List.toArray
    have hk : k < cs.toList.length := by simp; omega
    have : (cs.setIfInBounds k a).toList.take (k + 1) = cs.toList.take k ++ [a] := by
      rw [Array.toList_setIfInBounds, List.take_succ_eq_append_getElem (by simpa using hk), List.take_set_of_le (Nat.le_refl k)]
      simp
    rw [this]; simp
@[irreducible] def atE [Inhabited α] (es : List (Ent α)) (i : Int) : Ent α := es.getD i.toNat default
def eltE (z : Nat) (v : Value) (i : Int) : Value := match v with | .slice (some a) _ _ => .pointer (some ⟨a.block, a.off + i.toNat * z, none⟩) | _ => .pointer none
section
variable {w0 : World} {is : List Itm} {ops : Array Oper} {Q : Exit → Act → World → Prop} {o : Oper} {rest : List Oper} {N : Frm} {e : Env} {v : Value} {d : Nat} {K : Act → World → Prop}
theorem mem_rdE {L : Lab α} {w : World} {es : List (Ent α)} (M : Mem w0 w is) (h : RdE L w0 v es) : RdE L w v es := rdE_below M.1 h
theorem mem_ownE {L : Lab α} {w : World} {n : Nat} {es : List (Ent α)} (M : Mem w0 w is) (h : is[n]? = some (ownEI L v es)) : RdE L w v es := by
  obtain ⟨S, _, hb⟩ := mem_get M h
  exact OwnE.rd (S := S) hb
theorem lenV_E {L : Lab α} {w : World} {es : List (Ent α)} (h : RdE L w v es) : LenV v es.length := let ⟨a, cap, hv, _⟩ := h; ⟨a, cap, hv⟩
theorem lenA_E {L : Lab α} {w : World} {es : List (Ent α)} (h : RdE L w v es) : LenA v es.length := let ⟨a, cap, hv, _, hc⟩ := h; ⟨a, cap, hv, fun h0 => let ⟨b, off, ha, _⟩ := hc h0; ⟨b, off, ha⟩⟩
theorem qt_indexE (L : Lab α) {x y : Operand} {t : TypeId} {n : Nat} {i : Int} (hop : o.op = .indexAddr t x y) (hx : evo e x = some (v)) (hy : evo e y = some (.int .i64 i)) (ht : t = L.tS)
    (hl : ∀ w, Mem w0 w is → LenA v n) (h0 : 0 ≤ i) (h1 : i < (n : Int)) : QV w0 is o e (eltE (L.z + 2) v i) :=
  fun w ac M F => by
    subst ht
    have hx := F _ _ hx; have hy := F _ _ hy
    obtain ⟨a, cap, rfl, ha⟩ := hl w M
    obtain ⟨b, off, rfl⟩ := ha (by omega)
    have hI := info_parts L.inf
    obtain ⟨ii, hi, hz, hs, hb⟩ := hI
    simp only [execOp, hop, hx, hy, run_indexAt_slice _ _ _ _ _ _ _ (lab_ul L), L.el, h0, h1, and_self, if_true, sizeOf, typeInfo, hi, hs, eltE, Sem.run_bind, Sem.run_pure, Result.andThen_ok, run_program, Addr.add_mid]
theorem qt_loadE [Inhabited α] (L : Lab α) {x : Operand} {t : TypeId} {u : Value} {es : List (Ent α)} {i : Int} (hop : o.op = .load t x) (hx : evo e x = some (eltE (L.z + 2) u i)) (ht : t = L.tE)
    (hr : ∀ w, Mem w0 w is → RdE L w u es) (h0 : 0 ≤ i) (h1 : i < es.length) : QV w0 is o e (encA L (atE es i)) :=
  fun w ac M F => by
    subst ht
    have hx := F _ _ hx
    obtain ⟨a, cap, rfl, _, hc⟩ := hr w M
    obtain ⟨b, off, rfl, _, hcell⟩ := hc (by omega)
    have hlt : i.toNat < es.length := by omega
    have hcc := hcell i.toNat hlt
    have he : atE es i = es[i.toNat] := by simp [atE, List.getD_eq_getElem?_getD, List.getElem?_eq_getElem hlt]
    rw [← he] at hcc
    simp [execOp, hop, hx, eltE, encA, run_loadAt_mid w b (off + i.toNat * (L.z + 2)) L.tE (enc L (atE es i)) L.td hcc L.ud L.row (by rw [lab_size, enc_len])]
theorem go_sliceE1 (L : Lab α) {t : TypeId} {x : Operand} {a b : Int} {l : α} (hd : o.dst = some d) (hN : Nat.blt d N = true) (hop : o.op = .buildSlice t 1 #[(0, x)]) (hx : evo e x = some (.agg (Value.int .i64 a :: Value.int .i64 b :: L.lc l).toArray)) (ht : t = L.tS)
    (hk : ∀ B : Nat, GK w0 (is ++ [ownEI L (.slice (some ⟨B, 0, none⟩) 1 1) [(a, b, l)]]) N K ((d, .slice (some ⟨B, 0, none⟩) 1 1) :: e)) : GO w0 is N o e Q K := by
  subst ht
  obtain ⟨en, hen⟩ : ∃ en : Ent α, en = (a, b, l) := ⟨_, rfl⟩
  have hx : evo e x = some (encA L en) := by rw [hen]; exact hx
  rw [← hen] at hk
  intro w ac M F
  have hO : OwnE L (.slice (some ⟨w.heap.size, 0, none⟩) 1 1) [en] (w.alloc (.cells (enc L en).toArray L.tE)) (fun k => w.heap.size ≤ k) := by
    refine ⟨⟨by simp [enc_len], .inr ⟨w.heap.size, 1, (enc L en).toArray, rfl, Nat.zero_le _, heap_alloc_new w _, Nat.le_refl _, by unfold maxLen; omega, by simp [enc_len], ?_⟩⟩, L.hc1, fun q hq => by simp [Value.ownBlock] at hq; omega⟩
    simp [enc_len]
    exact List.take_of_length_le (by simp [enc_len])
  refine go_val (v := .slice (some ⟨w.heap.size, 0, none⟩) 1 1) (w' := w.alloc (.cells (enc L en).toArray L.tE)) hd hN F ?_ fun ac F => hk _ _ ac (mem_new M (below_alloc w _) hO) F
  intro ρ F; have hx := F _ _ hx
  obtain ⟨i, hi, hz, hs, hb⟩ := info_parts L.inf
  have hcl : (encA L en).cells = (enc L en).toArray := rfl
  have hsz : (enc L en).toArray.size = L.z + 2 := by simp [enc_len]
  have h24 : ¬ 16777216 < L.z + 2 := by have := L.hz; omega
  have hcs : (encA L en).cells.size = L.z + 2 := by rw [hcl, hsz]
  have hfold := fold_set (enc L en) 0 (Array.map (fun x => L.zc.cells[x % L.zc.cells.size]!) (Array.range (L.z + 2))) (by simp [enc_len])
  simp [execOp, hop, hx, Instr.buildSlice, run_underlying L.ul, sizeOf, typeInfo, hi, hs, Instr.fill, newRow, zeroValue, hz, Sem.run_bind, range1, h24]
  rw [if_neg (by rw [hcs]; omega), hcl]
  simp
  rw [hfold]; simp
theorem go_appendE (L : Lab α) {s x : Operand} {t : TypeId} {n m : Nat} {es : List (Ent α)} {u : Value} {en : Ent α} (hd : o.dst = some d) (hN : Nat.blt d N = true) (hop : o.op = .call { callee := .builtin .append, args := #[s, x], argTypes := #[t, t] }) (ht : t = L.tS)
    (hs : evo e s = some v) (hx : evo e x = some u) (hi : is[n]? = some (ownEI L v es)) (hj : is[m]? = some (ownEI L u [en])) (hn : es.length + 1 ≤ L.cap)
    (hk : ∀ a cap, GK w0 (is.set n (ownEI L (.slice a (es ++ [en]).length cap) (es ++ [en]))) N K ((d, .slice a (es ++ [en]).length cap) :: e)) : GO w0 is N o e Q K := by
  subst ht
  intro w ac M F
  obtain ⟨ad, cap, hu, _, hc⟩ := mem_ownE M hj
  obtain ⟨b, off, ha, _, hcell⟩ := hc (by simp)
  subst ha
  have hv : u = .slice (some ⟨b, off, none⟩) 1 cap := hu
  have h0 := hcell 0 (by simp)
  simp only [Nat.zero_mul, Nat.add_zero, List.getElem_cons_zero] at h0
  obtain ⟨S, hS, hp, hset⟩ := mem_set M hi
  have hp : OwnE L v es w S := hp
  obtain ⟨i, hi', hz, hs1, hb⟩ := info_parts L.inf
  have hc2 := L.hc2
  have hby : (es.length + 1) * L.bts ≤ 140737488355328 := Nat.le_trans (Nat.mul_le_mul_right _ hn) L.hcb
  obtain ⟨v', w', hr, hown, hgrow, _, hat⟩ := run_append_own_at (P := Try.prog) w 0 L.tS o.type L.tE i L.zc (L.z + 2) L.bts L.ul hi' hz hs1 hb L.zl (by omega) v es.length (es.flatMap (enc L)) hp.1 ⟨b, off, none⟩ 1 cap (enc L en) (by rw [enc_len]; omega) (fun j z hz => by rw [Addr.add_mid]; exact h0 j z hz) (fun z hz => List.all_eq_true.1 (enc_one L en) z hz) (by unfold maxLen; omega) hby (Nat.zero_le _)
  have hO : OwnE L v' (es ++ [en]) w' (fun k => S k ∨ w.heap.size ≤ k) := by
    refine ⟨by simpa using hown, by simpa using hn, fun q hq => ?_⟩
    rcases hat with hat | hat
    · exact .inl (hp.2.2 q (by rw [← hat]; exact hq))
    rw [hat] at hq
    simp only [Option.some.injEq] at hq
    exact .inr (by omega)
  obtain ⟨va, vc, rfl⟩ := ownE_form hO
  refine go_val (v := .slice va (es ++ [en]).length vc) (w' := w') hd hN F ?_ fun ac F => hk va vc w' ac (hset w' (ownEI L (.slice va (es ++ [en]).length vc) (es ++ [en])) (frS_grown hgrow hp.2.2) hO) F
  intro ρ F; have hs := F _ _ hs; have hx := F _ _ hx
  simp only [execOp, hop, resolve, invoke, builtin, Sem.run_bind, Sem.run_pure, Result.andThen_ok, List.map_toArray, List.map_cons, List.map_nil, hs, hx, hv]
  rw [hr]
  rfl
theorem mem_nilE (L : Lab α) {w : World} (M : Mem w0 w is) : Mem w0 w (is ++ [ownEI L (.slice none 0 0) []]) :=
  mem_new M (Below.refl _ _) ⟨World.ownsRow_nil w 0 _ _, Nat.zero_le _, fun q hq => by simp [Value.ownBlock] at hq⟩
theorem gc_nilE (L : Lab α) {c : Code} (hk : GC w0 (is ++ [ownEI L (.slice none 0 0) []]) N c Q e) : GC w0 is N c Q e := fun w a M F => hk w a (mem_nilE L M) F
end
def NumE (L : Lab α) : Nat → List MapEntry → List (Ent α) → Prop
  | _, [], [] => True
  | k, x :: xs, e :: es => x.key = encA L e ∧ x.val = .int .i64 k ∧ NumE L (k + 1) xs es
  | _, _, _ => False
theorem numE_snoc {L : Lab α} : ∀ {xs : List MapEntry} {es : List (Ent α)} {k : Nat} {x : MapEntry} {e : Ent α}, NumE L k xs es → x.key = encA L e → x.val = .int .i64 (k + es.length : Nat) → NumE L k (xs ++ [x]) (es ++ [e])
  | [], [], k, x, e, _, h1, h2 => ⟨h1, by simpa using h2, trivial⟩
  | y :: xs, f :: es, k, x, e, h, h1, h2 => ⟨h.1, h.2.1, numE_snoc h.2.2 h1 (by rw [h2]; congr 2; simp; omega)⟩
  | [], f :: es, _, _, _, h, _, _ => h.elim
  | y :: xs, [], _, _, _, h, _, _ => h.elim
noncomputable def posE [DecidableEq α] (es : List (Ent α)) (e : Ent α) : Int := if e ∈ es then (es.idxOf e : Int) else 0
def RdN (L : Lab α) (w : World) (B : Nat) (es : List (Ent α)) : Prop := ∃ xs clock, w.heap[B]? = some (.map xs clock) ∧ NumE L 0 xs.toList es
def NumM (L : Lab α) (B : Nat) (es : List (Ent α)) (w : World) (S : Nat → Prop) : Prop := RdN L w B es ∧ S B
theorem rdN_lt {L : Lab α} {w : World} {B : Nat} {es : List (Ent α)} (h : RdN L w B es) : B < w.heap.size := let ⟨_, _, hb, _⟩ := h; (Array.getElem?_eq_some_iff.1 hb).1
theorem rdN_below {L : Lab α} {w w' : World} {B : Nat} {es : List (Ent α)} (hb : Below w.heap.size w w') (h : RdN L w B es) : RdN L w' B es := by
  have hlt := rdN_lt h
  obtain ⟨xs, cl, h1, h2⟩ := h
  exact ⟨xs, cl, by rw [hb.block B hlt]; exact h1, h2⟩
theorem numM_loc (L : Lab α) (B : Nat) (es : List (Ent α)) : Loc (NumM L B es) where
  keep hs ha h := by
    obtain ⟨hR, hS⟩ := h
    have hlt := rdN_lt hR
    obtain ⟨xs, cl, hb, hp⟩ := hR
    exact ⟨⟨xs, cl, by rw [ha _ hlt hS]; exact hb, hp⟩, hs _ hlt hS⟩
def numI (L : Lab α) (B : Nat) (es : List (Ent α)) : Itm := ⟨_, numM_loc L B es⟩
theorem run_askE [DecidableEq α] (L : Lab α) (k : Ent α) (w : World) : ∀ (xs : List MapEntry) (es : List (Ent α)) (i n : Nat), NumE L n xs es →
    ∃ r, (Instr.findAsking L.tE (encA L k) xs i).run Try.prog w = .ok r w ∧ (k ∈ es → ∃ j, r = some (j, .int .i64 (n + es.idxOf k : Nat))) ∧ (k ∉ es → r = none)
  | [], [], i, n, _ => ⟨none, by simp [Instr.findAsking], fun h => by simp at h, fun _ => rfl⟩
  | [], e :: es, i, n, h => h.elim
  | x :: xs, [], i, n, h => h.elim
  | x :: xs, e :: es, i, n, h => by
    obtain ⟨hk, hv, h2⟩ := h
    obtain ⟨r, hr, hr2, hr3⟩ := run_askE L k w xs es (i + 1) (n + 1) h2
    have he : (Op.equal L.tE (encA L k) x.key).run Try.prog w = .ok (bP (k.1 = e.1 ∧ k.2.1 = e.2.1 ∧ k.2.2 = e.2.2)) w := by rw [hk]; exact L.eqk _ _ _ _ _ _ w
    have heq : (k.1 = e.1 ∧ k.2.1 = e.2.1 ∧ k.2.2 = e.2.2) ↔ k = e := ⟨fun ⟨a, b, c⟩ => Prod.ext a (Prod.ext b c), fun h => by subst h; exact ⟨rfl, rfl, rfl⟩⟩
    unfold Instr.findAsking
    by_cases hab : k = e
    · rw [bP_t (heq.2 hab)] at he
      subst hab
      refine ⟨some (i, .int .i64 n), by simp [Sem.run_bind, he, hv, Result.andThen], fun _ => ⟨i, by simp⟩, fun hn => absurd (List.mem_cons_self ..) hn⟩
    rw [bP_f (fun h => hab (heq.1 h))] at he
    refine ⟨r, by simp [Sem.run_bind, he, hr, Result.andThen], fun hm => ?_, fun hn => hr3 fun h => hn (List.mem_cons_of_mem _ h)⟩
    rcases List.mem_cons.1 hm with h | h
    · exact absurd h hab
    obtain ⟨j, hj⟩ := hr2 h
    have hidx : (e :: es).idxOf k = es.idxOf k + 1 := by
      rw [List.idxOf_cons, show (e == k) = false from by simpa using fun h => hab h.symm]; rfl
    exact ⟨j, by rw [hj, hidx, show n + 1 + es.idxOf k = n + (es.idxOf k + 1) from by omega]⟩
theorem run_findE [DecidableEq α] (L : Lab α) (k : Ent α) (w : World) {xs : List MapEntry} {es : List (Ent α)} (h : NumE L 0 xs es) :
    ∃ r, (Instr.findKey L.tE (encA L k) xs).run Try.prog w = .ok r w ∧ (k ∈ es → ∃ j, r = some (j, .int .i64 (es.idxOf k : Nat))) ∧ (k ∉ es → r = none) := by
  obtain ⟨r, hr, h1, h2⟩ := run_askE L k w xs es 0 0 h
  refine ⟨r, ?_, fun h => by simpa using h1 h, h2⟩
  cases xs with
  | nil =>
    cases es with
    | nil =>
      rw [h2 (by simp)]
      have hud := L.ud
      generalize L.td = td at hud
      simp [Instr.findKey, Sem.run_bind, run_underlying hud, Instr.findNow, Result.andThen]
    | cons e es => exact h.elim
  | cons x xs =>
    have hud := L.ud
    generalize L.td = td at hud
    have hs : Instr.sameNow td (encA L k) x.key = none := by
      unfold Instr.sameNow encA
      cases td <;> rfl
    simp [Instr.findKey, Sem.run_bind, run_underlying hud, Instr.findNow, hs, hr, Result.andThen]
section
variable {w0 : World} {is : List Itm} {ops : Array Oper} {Q : Exit → Act → World → Prop} {o : Oper} {rest : List Oper} {N : Frm} {e : Env} {v : Value} {d : Nat} {K : Act → World → Prop}
theorem go_makeNum (L : Lab α) {t : TypeId} (hd : o.dst = some d) (hN : Nat.blt d N = true) (hop : o.op = .makeMap t none)
    (hk : ∀ B : Nat, GK w0 (is ++ [numI L B []]) N K ((d, .map (some B)) :: e)) : GO w0 is N o e Q K := by
  intro w ac M F
  refine go_val (v := .map (some w.heap.size)) (w' := w.alloc (.map #[] 0)) hd hN F ?_ fun ac F => hk _ _ ac (mem_new M (below_alloc w _) ⟨⟨#[], 0, heap_alloc_new w _, trivial⟩, Nat.le_refl _⟩) F
  intro ρ F
  simp [execOp, hop, Instr.makeMap, Sem.run_bind, Result.andThen]
theorem qt_lookN [DecidableEq α] (L : Lab α) {x y : Operand} {t : TypeId} {B : Nat} {a b : Int} {l : α} {es : List (Ent α)} (hop : o.op = .lookup t x y false) (hx : evo e x = some (.map (some B))) (hy : evo e y = some (.agg (Value.int .i64 a :: Value.int .i64 b :: L.lc l).toArray))
    (ht : t = L.tM) (hr : ∀ w, Mem w0 w is → RdN L w B es) : QV w0 is o e (.int .i64 (posE es (a, b, l))) :=
  fun w ac M F => by
    subst ht
    obtain ⟨k, hk⟩ : ∃ k : Ent α, k = (a, b, l) := ⟨_, rfl⟩
    have hy : evo e y = some (encA L k) := by rw [hk]; exact hy
    rw [← hk]
    have hx := F _ _ hx; have hy := F _ _ hy
    obtain ⟨xs, cl, hb, hp⟩ := hr w M
    obtain ⟨r, hr, h1, h2⟩ := run_findE L k w hp
    obtain ⟨i, hi', hz, hs, hbb⟩ := info_parts info64
    have hck : (Instr.checkKey xs.isEmpty 10000 L.tE (encA L k)).run Try.prog w = .ok () w := L.chk _ _ _ _ w
    by_cases hm : k ∈ es
    · obtain ⟨j, rfl⟩ := h1 hm
      simp [execOp, hop, hx, hy, Instr.lookup, run_underlying L.um, MapKept.run_getObj_map hb, hck, hr, hm, posE, Sem.run_bind, Result.andThen]
    obtain rfl := h2 hm
    simp [execOp, hop, hx, hy, Instr.lookup, run_underlying L.um, MapKept.run_getObj_map hb, hck, hr, hm, posE, Sem.run_bind, Result.andThen, zeroValue, typeInfo, hi', hz]
theorem mem_rdN {L : Lab α} {w : World} {B : Nat} {es : List (Ent α)} (M : Mem w0 w is) (h : RdN L w0 B es) : RdN L w B es := rdN_below M.1 h
theorem mem_numN {L : Lab α} {w : World} {n B : Nat} {es : List (Ent α)} (M : Mem w0 w is) (h : is[n]? = some (numI L B es)) : RdN L w B es := by
  obtain ⟨S, _, hb⟩ := mem_get M h
  exact (hb : NumM L B es w S).1
theorem go_putN [DecidableEq α] (L : Lab α) {x y z : Operand} {t : TypeId} {B n : Nat} {a b : Int} {l : α} {es : List (Ent α)} {q : Int} (hd : o.dst = none) (hop : o.op = .mapUpdate t x y z) (hx : evo e x = some (.map (some B))) (hy : evo e y = some (.agg (Value.int .i64 a :: Value.int .i64 b :: L.lc l).toArray)) (hz : evo e z = some (.int .i64 q))
    (ht : t = L.tM) (hi : is[n]? = some (numI L B es)) (hm : (a, b, l) ∉ es) (hq : q = es.length)
    (hk : GK w0 (is.set n (numI L B (es ++ [(a, b, l)]))) N K e) : GO w0 is N o e Q K := by
  subst ht; subst hq
  obtain ⟨k, hke⟩ : ∃ k : Ent α, k = (a, b, l) := ⟨_, rfl⟩
  have hy : evo e y = some (encA L k) := by rw [hke]; exact hy
  rw [← hke] at hm hk
  intro w ac M F
  obtain ⟨S, hS, hp, hset⟩ := mem_set M hi
  obtain ⟨⟨xs, cl, hb, hp⟩, hSB⟩ := (hp : NumM L B es w S)
  obtain ⟨r, hr, h1, h2⟩ := run_findE L k w hp
  obtain rfl := h2 hm
  have hlt := (Array.getElem?_eq_some_iff.1 hb).1
  have hck : (Instr.checkKey false 10000 L.tE (encA L k)).run Try.prog w = .ok () w := L.chk _ _ _ _ w
  refine go_skip (w' := { w with heap := w.heap.setIfInBounds B (.map (xs.push { key := encA L k, val := .int .i64 es.length, born := cl }) (cl + 1)) }) hd F ?_ fun ac F => hk _ ac (hset _ _ ⟨rfl, rfl, rfl, by simp, fun q hq hs => ?_⟩ ⟨⟨xs.push { key := encA L k, val := .int .i64 es.length, born := cl }, cl + 1, by simp [hlt], ?_⟩, .inl hSB⟩) F
  · intro ρ F; have hx := F _ _ hx; have hy := F _ _ hy; have hz := F _ _ hz
    simp [execOp, hop, hx, hy, hz, Instr.mapUpdate, run_underlying L.um, MapKept.run_getObj_map hb, hck, hr, Sem.run_bind, Result.andThen, MapKept.run_setObj_map _ hb]
  · have : B ≠ q := fun e => hs (by rw [← e]; exact hSB)
    simp [this]
  rw [Array.toList_push]; exact numE_snoc hp rfl (by simp)
end
end Go.Proofs.Ytbiplocgenppoaa
namespace Go.Proofs.Ytbiplocgenppoaa
open _root_.Go.Proofs.Try
open Go.RowKit
def RetV (W : World) (v : Value) (e : Ending) (w' : World) : Prop := e = .returned v ∧ Below W.heap.size W w'
def Opn (f : FuncId) : Prop := ∃ fn, Try.prog.funcs[f]? = some fn ∧ fn.body.isNone = false ∧ (fn.name == "runtime.NumGoroutine") = false
section
variable {w0 : World} {is is0 : List Itm} {ops : Array Oper} {Q : Exit → Act → World → Prop} {o : Oper} {rest : List Oper} {N : Frm} {e : Env} {v : Value} {d : Nat} {K : Act → World → Prop}
variable {f : FuncId} {fn : Func} {ags : Array Operand} {ts : Array TypeId} {vs caps : List Value}
theorem run_enterF {x : Operand} (hop : o.op = .call { callee := .value x, args := ags, argTypes := ts }) (hx : evo e x = some (.func (.func f) #[] caps.toArray)) (ho : Opn f) (hargs : evoL e ags.toList = some vs) {w : World} {a : Act} (F : Fit N e a) :
    (execOp a.eval o).run Try.prog w = .ok (.enter f (vs ++ caps).toArray) w := by
  obtain ⟨fn, hfn, hb, hn⟩ := ho
  have hb' : ¬ fn.body = none := fun h => by rw [h] at hb; simp at hb
  have hn' : ¬ fn.name = "runtime.NumGoroutine" := by simpa using hn
  have ha : ags.map a.eval = vs.toArray := by
    have := fit_evals F hargs
    rw [← this]; apply Array.toList_inj.1; simp
  have hx' := fit_eval F hx
  simp [execOp, hop, resolve, hx', Deferred.ofValue, invoke, callFunc, hfn, hn', hb', ha]
theorem qt_callF {x : Operand} (hop : o.op = .call { callee := .value x, args := ags, argTypes := ts }) (hx : evo e x = some (.func (.func f) #[] caps.toArray)) (ho : Opn f) (hargs : evoL e ags.toList = some vs)
    (hc : ∀ w, Mem w0 w is → Calls Try.prog f (vs ++ caps).toArray w (RetV w v)) : QT w0 is N o e v := by
  intro w ac M F
  unfold Oper.quietAt
  rw [run_enterF hop hx ho hargs F]
  exact ⟨rfl, (hc w M).mono fun e w' h => ⟨h.1, mem_keep M h.2⟩⟩
theorem ga_two {fuel : Nat} {listed : Array Bool} {oi oj : Oper} (i j : Nat) (hr : Region.ready .any ops listed = [i, j]) (hi : ops[i]? = some oi) (hj : ops[j]? = some oj) (wi : Want ops e oi true) (wj : Want ops e oj true)
    (h1 : ∀ K : Act → World → Prop, (∀ is e, (∀ w, Mem w0 w is → Mem w0 w is0) → GA w0 is0 is N ops Q fuel (listed.setIfInBounds i true) e → GK w0 is N K e) → GO w0 is N oi e Q K)
    (h2 : ∀ K : Act → World → Prop, (∀ is e, (∀ w, Mem w0 w is → Mem w0 w is0) → GA w0 is0 is N ops Q fuel (listed.setIfInBounds j true) e → GK w0 is N K e) → GO w0 is N oj e Q K) : GA w0 is0 is N ops Q (fuel + 1) listed e := by
  intro w a h0 M F
  refine wpAnyH_ready hr (by simp) (AllReadyH.cons hi (fun K' hK => ?_) (AllReadyH.cons hj (fun K' hK => ?_) AllReadyH.nil))
  · rw [if_pos (want_eq wi F)]
    exact h1 K' (fun is' e' hS hg w' a' M' F' => hK.out a' w' (hS w' M') fun h0' => hg w' a' h0' M' F') w a M F
  rw [if_pos (want_eq wj F)]
  exact h2 K' (fun is' e' hS hg w' a' M' F' => hK.out a' w' (hS w' M') fun h0' => hg w' a' h0' M' F') w a M F
theorem gat {fuel : Nat} {listed : Array Bool} {oi oj : Oper} (i j : Nat)
 (h1 : ∀ K : Act → World → Prop, (∀ is e, (∀ w, Mem w0 w is → Mem w0 w is0) → GA w0 is0 is N ops Q fuel (listed.setIfInBounds i true) e → GK w0 is N K e) → GO w0 is N oi e Q K)
 (h2 : ∀ K : Act → World → Prop, (∀ is e, (∀ w, Mem w0 w is → Mem w0 w is0) → GA w0 is0 is N ops Q fuel (listed.setIfInBounds j true) e → GK w0 is N K e) → GO w0 is N oj e Q K)
 (hr : Region.ready .any ops listed = [i, j] := by kernel_rfl) (hi : ops[i]? = some oi := by rfl) (hj : ops[j]? = some oj := by rfl) (wi : Want ops e oi true := by exact .free rfl) (wj : Want ops e oj true := by exact .free rfl) : GA w0 is0 is N ops Q (fuel + 1) listed e :=
  ga_two i j hr hi hj wi wj h1 h2
theorem ga_three {fuel : Nat} {listed : Array Bool} {oa ob oc : Oper} (ia ib ic : Nat) (hr : Region.ready .any ops listed = [ia, ib, ic]) (ha : ops[ia]? = some oa) (wa : Want ops e oa true) (hb : ops[ib]? = some ob) (wb : Want ops e ob true) (hc : ops[ic]? = some oc) (wc : Want ops e oc true) 
    (ka : ∀ K : Act → World → Prop, (∀ is e, (∀ w, Mem w0 w is → Mem w0 w is0) → GA w0 is0 is N ops Q fuel (listed.setIfInBounds ia true) e → GK w0 is N K e) → GO w0 is N oa e Q K)
    (kb : ∀ K : Act → World → Prop, (∀ is e, (∀ w, Mem w0 w is → Mem w0 w is0) → GA w0 is0 is N ops Q fuel (listed.setIfInBounds ib true) e → GK w0 is N K e) → GO w0 is N ob e Q K)
    (kc : ∀ K : Act → World → Prop, (∀ is e, (∀ w, Mem w0 w is → Mem w0 w is0) → GA w0 is0 is N ops Q fuel (listed.setIfInBounds ic true) e → GK w0 is N K e) → GO w0 is N oc e Q K) : GA w0 is0 is N ops Q (fuel + 1) listed e := by
  intro w a h0 M F
  refine wpAnyH_ready hr (by simp) (AllReadyH.cons ha (fun K' hK => ?_) (AllReadyH.cons hb (fun K' hK => ?_) (AllReadyH.cons hc (fun K' hK => ?_) AllReadyH.nil)))
  · rw [if_pos (want_eq wa F)]
    exact ka K' (fun is' e' hS hg w' a' M' F' => hK.out a' w' (hS w' M') fun h0' => hg w' a' h0' M' F') w a M F
  · rw [if_pos (want_eq wb F)]
    exact kb K' (fun is' e' hS hg w' a' M' F' => hK.out a' w' (hS w' M') fun h0' => hg w' a' h0' M' F') w a M F
  rw [if_pos (want_eq wc F)]
  exact kc K' (fun is' e' hS hg w' a' M' F' => hK.out a' w' (hS w' M') fun h0' => hg w' a' h0' M' F') w a M F
theorem ga_four {fuel : Nat} {listed : Array Bool} {oa ob oc od : Oper} (ia ib ic id : Nat) (hr : Region.ready .any ops listed = [ia, ib, ic, id]) (ha : ops[ia]? = some oa) (wa : Want ops e oa true) (hb : ops[ib]? = some ob) (wb : Want ops e ob true) (hc : ops[ic]? = some oc) (wc : Want ops e oc true) (hd : ops[id]? = some od) (wd : Want ops e od true) 
    (ka : ∀ K : Act → World → Prop, (∀ is e, (∀ w, Mem w0 w is → Mem w0 w is0) → GA w0 is0 is N ops Q fuel (listed.setIfInBounds ia true) e → GK w0 is N K e) → GO w0 is N oa e Q K)
    (kb : ∀ K : Act → World → Prop, (∀ is e, (∀ w, Mem w0 w is → Mem w0 w is0) → GA w0 is0 is N ops Q fuel (listed.setIfInBounds ib true) e → GK w0 is N K e) → GO w0 is N ob e Q K)
    (kc : ∀ K : Act → World → Prop, (∀ is e, (∀ w, Mem w0 w is → Mem w0 w is0) → GA w0 is0 is N ops Q fuel (listed.setIfInBounds ic true) e → GK w0 is N K e) → GO w0 is N oc e Q K)
    (kd : ∀ K : Act → World → Prop, (∀ is e, (∀ w, Mem w0 w is → Mem w0 w is0) → GA w0 is0 is N ops Q fuel (listed.setIfInBounds id true) e → GK w0 is N K e) → GO w0 is N od e Q K) : GA w0 is0 is N ops Q (fuel + 1) listed e := by
  intro w a h0 M F
  refine wpAnyH_ready hr (by simp) (AllReadyH.cons ha (fun K' hK => ?_) (AllReadyH.cons hb (fun K' hK => ?_) (AllReadyH.cons hc (fun K' hK => ?_) (AllReadyH.cons hd (fun K' hK => ?_) AllReadyH.nil))))
  · rw [if_pos (want_eq wa F)]
    exact ka K' (fun is' e' hS hg w' a' M' F' => hK.out a' w' (hS w' M') fun h0' => hg w' a' h0' M' F') w a M F
  · rw [if_pos (want_eq wb F)]
    exact kb K' (fun is' e' hS hg w' a' M' F' => hK.out a' w' (hS w' M') fun h0' => hg w' a' h0' M' F') w a M F
  · rw [if_pos (want_eq wc F)]
    exact kc K' (fun is' e' hS hg w' a' M' F' => hK.out a' w' (hS w' M') fun h0' => hg w' a' h0' M' F') w a M F
  rw [if_pos (want_eq wd F)]
  exact kd K' (fun is' e' hS hg w' a' M' F' => hK.out a' w' (hS w' M') fun h0' => hg w' a' h0' M' F') w a M F
theorem gc_cut {σ : Type} {c : Code} (C : Env) (E : σ → Env) (ch : σ → List (Nat × Itm)) (nw : σ → List Itm) (hC : Sub C e) (h1 : ∀ s, GK w0 (updL is (ch s) ++ nw s) N (Q .normal) (E s ++ C)) (h2 : (∀ s, GK w0 (updL is (ch s) ++ nw s) N (Q .normal) (E s ++ C)) → GC w0 is N c Q e) : GC w0 is N c Q e := h2 h1
def pickL : List Itm → List Nat → List Itm
  | _, [] => []
  | is, k :: ks => match is[k]? with
    | some i => i :: pickL (is.eraseIdx k) ks
    | none => pickL is ks
theorem star_pickL : ∀ (ks : List Nat) (is : List Itm) {w : World} {S : Nat → Prop}, Star is w S → Star (pickL is ks) w S
  | [], _, _, _, _ => trivial
  | k :: ks, is, w, S, h => by
    unfold pickL
    cases hi : is[k]? with
    | none => exact star_pickL ks is h
    | some i =>
      obtain ⟨S1, S2, k1, k2, hd, h1, h2⟩ := star_pick is hi h
      exact ⟨S1, S2, k1, k2, hd, h1, star_pickL ks _ h2⟩
theorem gk_pickL (ks : List Nat) (h : GK w0 (pickL is ks) N K e) : GK w0 is N K e := fun w a M F => h w a ⟨M.1, star_pickL ks is M.2⟩ F
theorem qt_nilP {x : Operand} {a : Addr} (hop : o.op = .nilCheck x) (hx : evo e x = some (.pointer (some a))) : QV w0 is o e (.pointer (some a)) := fun w ac M F => by
  have hx := F _ _ hx
  simp [execOp, hop, hx]
theorem qt_makeF {f : Fn} {cs : Array Operand} {us : List Value} (hop : o.op = .makeFunc f #[] cs) (hc : evoL e cs.toList = some us) : QV w0 is o e (.func f #[] us.toArray) := fun w ρ M F => by
  have : cs.map ρ = us.toArray := by
    have h : ∀ {xs : List Operand} {vs : List Value}, evoL e xs = some vs → xs.map ρ = vs := by
      intro xs
      induction xs with
      | nil => intro vs hv; simpa [evoL] using hv
      | cons x xs ih =>
        intro vs hv
        unfold evoL at hv
        cases h1 : evo e x with
        | none => rw [h1] at hv; simp at hv
        | some v =>
          cases h2 : evoL e xs with
          | none => rw [h1, h2] at hv; simp at hv
          | some us =>
            rw [h1, h2] at hv
            simp only [Option.some.injEq] at hv
            rw [← hv, List.map_cons, F x v h1, ih h2]
    have := h hc
    rw [← this]; apply Array.toList_inj.1; simp
  simp [execOp, hop, Instr.makeFunc, this]
theorem mem_nilU {w : World} (M : Mem w0 w is) : Mem w0 w (is ++ [own2U (.slice none 0 0) [] []]) :=
  mem_new M (Below.refl _ _) ⟨rfl, by simp, World.ownsRow_nil w 0 _ 1, fun i hi => by simp at hi, fun i j _ hj => by simp at hj, fun q hq => by simp [Value.ownBlock] at hq⟩
theorem gc_nilU {c : Code} (hk : GC w0 (is ++ [own2U (.slice none 0 0) [] []]) N c Q e) : GC w0 is N c Q e := fun w a M F => hk w a (mem_nilU M) F
def RetN {α : Type} (L : Lab α) (W : World) (es : List (Ent α)) (e : Ending) (w' : World) : Prop := ∃ B, e = .returned (.map (some B)) ∧ NumM L B es w' (fun k => W.heap.size ≤ k) ∧ Below W.heap.size W w'
theorem go_callN {α : Type} {L : Lab α} {es : List (Ent α)} (hd : o.dst = some d) (hN : Nat.blt d N = true) (hop : o.op = .call { callee := .value (.func f), args := ags, argTypes := ts }) (hfn : Try.prog.funcs[f]? = some fn) (hb : fn.body.isNone = false) (hn : (fn.name == "runtime.NumGoroutine") = false)
    (hargs : evoL e ags.toList = some vs) (hc : ∀ w, Mem w0 w is → Calls Try.prog f vs.toArray w (RetN L w es)) (hk : ∀ B, GK w0 (is ++ [numI L B es]) N K ((d, .map (some B)) :: e)) : GO w0 is N o e Q K := by
  intro w a M F
  refine go_call hd hN F hop hfn hb hn hargs (hc w M) fun e' w' hR => ?_
  obtain ⟨B, rfl, hs, hbl⟩ := hR
  exact ⟨_, rfl, fun a F => hk B w' a (mem_new M hbl hs) F⟩
theorem ret_0n {fn : Func} {R : Ending → World → Prop} (h : fn.results = #[]) (hR : ∀ w, Mem w0 w is → R (.returned (.tuple #[])) w) (hds : N.ds = [] := by rfl) : GK w0 is N (bodyPost Try.prog fn R .normal) e :=
  fun w ac M F => bodyPost_end (v := .tuple #[]) (by simp [results, h]) (F.nil hds) (hR w M)
theorem gc_enterM {N : Nat} {c : Code} {w : World} {l : List Value} (M : Mem w0 w is) (hN : l.length = N) (he : ∀ t v, look e t = some v → l[t]? = some v) (h : GC w0 is (Frm.of N) c Q e) : c.wp Try.prog Q ⟨l.toArray, []⟩ w := wp_out (h w _ M (fit_enter hN he) rdy_of)
def packI (F : List Itm) : Itm := ⟨fun w S => Star F w S, ⟨fun hs ha h => star_keep F hs ha h⟩⟩
theorem star_pack {i j : Itm} {F : List Itm} {w : World} {S : Nat → Prop} (h : Star (i :: j :: F) w S) : Star [i, j, packI F] w S := by
  obtain ⟨S1, S2, k1, k2, hd, h1, T1, T2, t1, t2, td, a1, a2⟩ := h
  exact ⟨S1, S2, k1, k2, hd, h1, T1, T2, t1, t2, td, a1, T2, fun _ => False, fun k h => h, fun k h => h.elim, fun k _ h => h, a2, trivial⟩
theorem star_unpack {i j : Itm} {F : List Itm} {w : World} {S : Nat → Prop} (h : Star [i, j, packI F] w S) : Star (i :: j :: F) w S := by
  obtain ⟨S1, S2, k1, k2, hd, h1, T1, T2, t1, t2, td, a1, U1, U2, u1, u2, ud, b1, _⟩ := h
  exact ⟨S1, S2, k1, k2, hd, h1, T1, T2, t1, t2, td, a1, star_keep F (fun k _ hk => u1 k hk) agree_refl b1⟩
theorem mem_two_out {w : World} {i j : Itm} {n m' : Nat} (M : Mem w0 w is) (hi : is[n]? = some i) (hj : (is.eraseIdx n)[m']? = some j) : Mem w0 w [i, j, packI ((is.eraseIdx n).eraseIdx m')] := by
  refine ⟨M.1, star_pack ?_⟩
  obtain ⟨S1, R, a1, a2, a3, a4, a5⟩ := star_pick is hi M.2
  exact ⟨S1, R, a1, a2, a3, a4, star_pick _ hj a5⟩
theorem mem_two_in {w : World} {i' j' : Itm} {n m m' : Nat} (hn : n < is.length) (hm : m' < (is.eraseIdx n).length) (hE : (is.set m j').eraseIdx n = (is.eraseIdx n).set m' j') (M : Mem w0 w [i', j', packI ((is.eraseIdx n).eraseIdx m')]) : Mem w0 w ((is.set m j').set n i') := by
  refine ⟨M.1, star_unpick _ (by simpa using hn) ?_⟩
  rw [hE]
  obtain ⟨S1, R, a1, a2, a3, a4, a5⟩ := star_unpack M.2
  exact ⟨S1, R, a1, a2, a3, a4, star_unpick _ hm a5⟩
theorem go_two {σ : Type} {i j : Itm} {i' j' : σ → Itm} {n m m' : Nat} {r : Value} (hd : o.dst = some d) (hN : Nat.blt d N = true) (hop : o.op = .call { callee := .value (.func f), args := ags, argTypes := ts }) (hfn : Try.prog.funcs[f]? = some fn) (hb : fn.body.isNone = false) (hnm : (fn.name == "runtime.NumGoroutine") = false)
    (hargs : evoL e ags.toList = some vs) (hi : is[n]? = some i) (hj : (is.eraseIdx n)[m']? = some j) (hE : ∀ z, (is.set m z).eraseIdx n = (is.eraseIdx n).set m' z)
    (hc : ∀ (R : Itm) w, Mem w0 w [i, j, R] → Calls Try.prog f vs.toArray w (fun e w' => ∃ s, e = .returned r ∧ Mem w0 w' [i' s, j' s, R]))
    (hk : ∀ s, GK w0 ((is.set m (j' s)).set n (i' s)) N K ((d, r) :: e)) : GO w0 is N o e Q K := by
  intro w a M F
  have hn : n < is.length := (List.getElem?_eq_some_iff.1 hi).1
  have hm : m' < (is.eraseIdx n).length := (List.getElem?_eq_some_iff.1 hj).1
  refine go_call hd hN F hop hfn hb hnm hargs (hc _ w (mem_two_out M hi hj)) fun e' w' hR => ?_
  obtain ⟨s, rfl, M'⟩ := hR
  exact ⟨r, rfl, fun a F => hk s w' a (mem_two_in hn hm (hE _) M') F⟩
end
theorem btp0_Category {a : Int} : Try.prog.built 27 [(0, .int .i64 a)] = some #[.int .i64 a, .slice none 0 0, .slice none 0 0, .slice none 0 0, .slice none 0 0] := by kernel_rfl
theorem run_checkEnds (n : Nat) (a b : Int) (em : Bool) (w : World) : (Instr.checkKey em (n + 1 + 1) 59 (.agg #[.int .i64 a, .int .i64 b])).run Try.prog w = .ok () w := by
  have h64 : ∀ x : Int, (Instr.checkKey em (n + 1) 2 (.int .i64 x)).run Try.prog w = .ok () w := fun x => MapKept.run_checkKey underlying2 (by simp [MapKept.IsKey]) em n
  obtain ⟨i, hi, hz, hs, hb⟩ := info_parts info64
  unfold Instr.checkKey
  simp [Sem.run_bind, run_underlying underlying59, part, sizeOf, typeInfo, hi, hs, h64, Result.andThen]
theorem infoEnds : (Try.prog.info? 59).map (fun i => (i.zero, i.size, i.bytes)) = some (some (.agg #[.int .i64 0, .int .i64 0]), 2, 16) := by kernel_rfl
theorem chk_int (a b : Int) (l : Int) (em : Bool) (w : World) : (Instr.checkKey em 10000 86 (.agg (Value.int .i64 a :: Value.int .i64 b :: [Value.int .i64 l]).toArray)).run Try.prog w = .ok () w := by
  show (Instr.checkKey em (9997 + 1 + 1 + 1) 86 _).run Try.prog w = .ok () w
  have h1 := run_checkEnds 9997 a b em w
  have h2 : (Instr.checkKey em (9997 + 1 + 1) 2 (.int .i64 l)).run Try.prog w = .ok () w := MapKept.run_checkKey underlying2 (by simp [MapKept.IsKey]) em 9998
  obtain ⟨i, hi, hz, hs, hb⟩ := info_parts infoEnds
  obtain ⟨i', hi', hz', hs', hb'⟩ := info_parts info64
  unfold Instr.checkKey
  simp [Sem.run_bind, run_underlying underlying86, run_underlying underlying59, run_underlying underlying2, part, sizeOf, typeInfo, hi, hs, hi', hs', h1, h2, Result.andThen]
theorem eqk_int (a b a' b' : Int) (l l' : Int) (w : World) : (Op.equal 86 (.agg (Value.int .i64 a :: Value.int .i64 b :: [Value.int .i64 l]).toArray) (.agg (Value.int .i64 a' :: Value.int .i64 b' :: [Value.int .i64 l']).toArray)).run Try.prog w = .ok (bP (a = a' ∧ b = b' ∧ l = l')) w := by
  show (Op.equalIn 10000 _ _ _).run Try.prog w = _
  rw [run_equalIn_struct _ 9999 _ _ _ (by kernel_rfl) (by kernel_rfl)]
  simp only [Program.fieldsOf, underlying86]
  have h1 : (Op.equalIn 9999 59 (.agg #[.int .i64 a, .int .i64 b]) (.agg #[.int .i64 a', .int .i64 b'])).run Try.prog w = .ok (decide (a = a' ∧ b = b')) w := by
    rw [run_equalIn_struct _ 9998 _ _ _ (by kernel_rfl) (by kernel_rfl)]
    simp only [Program.fieldsOf, underlying59]
    by_cases h1 : a = a' <;> by_cases h2 : b = b' <;> simp [go_sem, h1, h2, Op.eqFields]
  rw [bP_dec]
  by_cases h2 : a = a' ∧ b = b' <;> by_cases h3 : l = l' <;> simp [go_sem, h1, h2, h3, Op.eqFields] <;> exact fun x y => h2 ⟨x, y⟩
noncomputable def lab_int : Lab Int where
  z := 1
  lc l := [Value.int .i64 l]
  tE := 86
  tS := 53
  tM := 87
  bts := 16 + 8
  zc := .agg #[.int .i64 0, .int .i64 0, .int .i64 0]
  td := match Try.prog.underlying 86 with | some t => t | none => .bool
  len _ := rfl
  one _ := rfl
  inf := by kernel_rfl
  zl := rfl
  cap := 5000000000001
  hc1 := by decide
  hc2 := by decide
  hcb := by decide
  hz := by decide
  ud := by kernel_rfl
  row := by kernel_rfl
  ul := by kernel_rfl
  el := by kernel_rfl
  um := by kernel_rfl
  chk := chk_int
  eqk := eqk_int
theorem bt_pairOf_arrowEnds_int64 {a b : Int} {l : Int} : Try.prog.built 86 [(0, .agg #[.int .i64 a, .int .i64 b]), (1, (.int .i64 l))] = some #[.int .i64 a, .int .i64 b, Value.int .i64 l] := by kernel_rfl
section
variable {w0 : World} {is : List Itm} {o : Oper} {e : Env}
end
end Go.Proofs.Ytbiplocgenppoaa
