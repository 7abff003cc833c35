
/- What Cnt, CntA, CntB, CntC, CntD, CntE hold, one behind the other. -/
import Derived.Test.YtgkfampgofjkfaaArr
import Derived.Test.YtgkfampgofjkfaaIrr
import Derived.Test.YtgkfampgofjkfaaZer
set_option linter.unusedSimpArgs false
set_option linter.unusedVariables false
set_option linter.unusedSectionVars false
namespace Go.Proofs.Ytgkfampgofjkfaa
open Go.RowKit
section
def fac : Nat → Nat
  | 0 => 1
  | n + 1 => (n + 1) * fac n
theorem fac_pos : ∀ n, 1 ≤ fac n
  | 0 => Nat.le_refl _
  | n + 1 => Nat.le_trans (fac_pos n) (Nat.le_mul_of_pos_left _ (by omega))
def endB : Nat → List (List Int) → List Int
  | _, [] => []
  | o, b :: bs => List.replicate b.length ((o + b.length : Nat) : Int) ++ endB (o + b.length) bs
theorem endB_snoc : ∀ (bs : List (List Int)) (o : Nat) (b : List Int), endB o (bs ++ [b]) = endB o bs ++ List.replicate b.length ((o + (bs.flatten ++ b).length : Nat) : Int)
  | [], o, b => by simp [endB]
  | a :: bs, o, b => by
    rw [List.cons_append, endB, endB, endB_snoc bs, List.append_assoc]
    simp only [List.flatten_cons, List.length_append, Nat.add_assoc]
theorem endB_len : ∀ (bs : List (List Int)) (o : Nat), (endB o bs).length = bs.flatten.length
  | [], _ => rfl
  | a :: bs, o => by rw [endB, List.length_append, List.length_replicate, endB_len bs, List.flatten_cons, List.length_append]
theorem endB_at : ∀ (bs : List (List Int)) (o k : Nat), k < (endB o bs).length → ((o + k : Nat) : Int) < (endB o bs).getD k 0 ∧ (endB o bs).getD k 0 ≤ ((o + bs.flatten.length : Nat) : Int)
  | [], o, k, hk => by simp [endB] at hk
  | a :: bs, o, k, hk => by
    rw [endB] at hk ⊢
    rw [List.length_append, List.length_replicate] at hk
    rw [List.flatten_cons, List.length_append]
    by_cases h : k < a.length
    · rw [List.getD_eq_getElem?_getD, List.getElem?_append_left (by simpa using h), List.getElem?_replicate, if_pos h]
      simp only [Option.getD_some]; omega
    · have ih := endB_at bs (o + a.length) (k - a.length) (by omega)
      rw [List.getD_eq_getElem?_getD] at ih ⊢
      rw [List.getElem?_append_right (by simpa using h), List.length_replicate]
      omega
theorem arr_snoc (B : Nat) (bs : List (List Int)) (ys : List Int) : arrI B (bs.flatten ++ ys) (endB 0 bs ++ List.replicate ys.length (((bs.flatten ++ ys).length : Nat) : Int)) = arrI B (bs ++ [ys]).flatten (endB 0 (bs ++ [ys])) := by
  rw [endB_snoc, Nat.zero_add, List.flatten_append, List.flatten_singleton]
/-! ### The product, capped -/
def cntE (m : Nat) (es : List Int) : Nat → Nat
  | 0 => m
  | k + 1 => min (cntE m es k * (at0 es (k : Int) - (k : Int)).toNat) 5001
def cntL (m k : Nat) : List Int → Nat
  | [] => m
  | e :: es => cntL (min (m * (e - (k : Int)).toNat) 5001) (k + 1) es
def capF (m : Nat) : Nat → Nat
  | 0 => m
  | n + 1 => capF (min (m * (n + 1)) 5001) n
theorem cntE_drop (m : Nat) (es : List Int) : ∀ k, k ≤ es.length → cntL (cntE m es k) k (es.drop k) = cntL m 0 es := by
  intro k
  induction k with
  | zero => intro _; rfl
  | succ k ih =>
    intro hk
    rw [← ih (by omega), List.drop_eq_getElem_cons (show k < es.length by omega)]
    rw [show cntL (cntE m es k) k (es[k] :: es.drop (k + 1)) = cntL (min (cntE m es k * (es[k] - (k : Int)).toNat) 5001) (k + 1) (es.drop (k + 1)) from rfl]
    rw [show es[k] = at0 es (k : Int) from by rw [at0_nat]; simp [List.getD_eq_getElem?_getD, List.getElem?_eq_getElem (show k < es.length by omega)]]
    rfl
theorem cntE_all (m : Nat) (es : List Int) : cntE m es es.length = cntL m 0 es := by
  rw [← cntE_drop m es es.length (Nat.le_refl _), List.drop_length]; rfl
theorem cntL_block (E : Nat) : ∀ (n m k : Nat) (rest : List Int), E = k + n → cntL m k (List.replicate n (E : Int) ++ rest) = cntL (capF m n) E rest
  | 0, m, k, rest, h => by subst h; rfl
  | n + 1, m, k, rest, h => by
    rw [List.replicate_succ, List.cons_append]
    show cntL (min (m * ((E : Int) - (k : Int)).toNat) 5001) (k + 1) (List.replicate n (E : Int) ++ rest) = _
    rw [show ((E : Int) - (k : Int)).toNat = n + 1 by omega, cntL_block E n _ _ rest (by omega)]
    rfl
theorem cntL_bs : ∀ (bs : List (List Int)) (m o : Nat), cntL m o (endB o bs) = bs.foldl (fun m b => capF m b.length) m
  | [], _, _ => rfl
  | b :: bs, m, o => by
    rw [endB, cntL_block (o + b.length) _ _ _ _ rfl, cntL_bs bs]; rfl
theorem capF_min : ∀ (n P : Nat), 1 ≤ P → capF (min P 5001) n = min (P * fac n) 5001
  | 0, P, _ => by simp [capF, fac]
  | n + 1, P, h => by
    have e : min (min P 5001 * (n + 1)) 5001 = min (P * (n + 1)) 5001 := by
      by_cases hp : P ≤ 5001
      · rw [Nat.min_eq_left hp]
      · have h1 : 5001 * 1 ≤ 5001 * (n + 1) := Nat.mul_le_mul_left _ (by omega)
        have h2 : 5001 * (n + 1) ≤ P * (n + 1) := Nat.mul_le_mul_right _ (by omega)
        rw [Nat.min_eq_right (show 5001 ≤ P by omega)]; omega
    rw [capF, e, capF_min n _ (Nat.le_trans h (Nat.le_mul_of_pos_right _ (by omega))), fac, Nat.mul_assoc]
def facB (P : Nat) (bs : List (List Int)) : Nat := bs.foldl (fun P b => P * fac b.length) P
theorem cap_bs : ∀ (bs : List (List Int)) (P : Nat), 1 ≤ P → bs.foldl (fun m b => capF m b.length) (min P 5001) = min (facB P bs) 5001
  | [], _, _ => rfl
  | b :: bs, P, h => by
    rw [List.foldl_cons, capF_min _ _ h, cap_bs bs _ (Nat.le_trans h (Nat.le_mul_of_pos_right _ (fac_pos _)))]; rfl
theorem facB_app (P : Nat) (ds bs : List (List Int)) : facB P (ds ++ bs) = facB (facB P ds) bs := by unfold facB; rw [List.foldl_append]
theorem facB_one (P : Nat) (b : List Int) : facB P [b] = P * fac b.length := rfl
theorem facB_pos : ∀ (bs : List (List Int)) (P : Nat), 1 ≤ P → 1 ≤ facB P bs
  | [], _, h => h
  | b :: bs, P, h => facB_pos bs _ (Nat.le_trans h (Nat.le_mul_of_pos_right _ (fac_pos _)))
theorem cnt_arr {bs : List (List Int)} {P : Nat} (h : 1 ≤ P) : cntE (min P 5001) (endB 0 bs) (endB 0 bs).length = min (facB P bs) 5001 := by rw [cntE_all, cntL_bs, cap_bs bs P h]
theorem cntE_le {m : Nat} {es : List Int} (hm : m ≤ 5001) : ∀ k, cntE m es k ≤ 5001
  | 0 => hm
  | k + 1 => Nat.min_le_right _ _
/-! ### The blocks of a category -/
noncomputable def idB (c : Cat) (f : Int) : Bool := decide (at0 c.e (at0 c.s f) = f)
noncomputable def ownA (c : Cat) (x : Nat) : List Int := (homTo c (x : Int) (x : Int) c.s.length).filter fun f => !idB c f
noncomputable def blkY (c : Cat) (x : Nat) (bs : List (List Int)) : Nat → List (List Int)
  | 0 => bs
  | y + 1 => if x = y then blkY c x bs y ++ [[at0 c.e (x : Int)]] ++ [ownA c x] else blkY c x bs y ++ [homTo c (x : Int) (y : Int) c.s.length]
noncomputable def blkX (c : Cat) : Nat → List (List Int)
  | 0 => []
  | x + 1 => blkY c x (blkX c x) c.e.length
def hs (c : Cat) (x y : Nat) : Nat := (homTo c (x : Int) (y : Int) c.s.length).length - (if x = y then 1 else 0)
def prY (c : Cat) (x P : Nat) : Nat → Nat
  | 0 => P
  | y + 1 => prY c x P y * fac (hs c x y)
def prX (c : Cat) : Nat → Nat
  | 0 => fac c.e.length
  | x + 1 => prY c x (prX c x) c.e.length
theorem prY_pos {c : Cat} {x P : Nat} (h : 1 ≤ P) : ∀ y, 1 ≤ prY c x P y
  | 0 => h
  | y + 1 => Nat.le_trans (prY_pos h y) (Nat.le_mul_of_pos_right _ (fac_pos _))
theorem prX_pos (c : Cat) : ∀ x, 1 ≤ prX c x
  | 0 => fac_pos _
  | x + 1 => prY_pos (prX_pos c x) _
theorem hom_nodup (c : Cat) (x y : Int) (k : Nat) : (homTo c x y k).Nodup := by
  unfold homTo
  refine List.Pairwise.map _ (fun a b (h : a ≠ b) => ?_) (List.Pairwise.filter _ List.nodup_range)
  intro e; exact h (Int.ofNat.inj e)
theorem filter_ne {a : Int} : ∀ {l : List Int}, l.Nodup → a ∈ l → (l.filter fun x => !decide (a = x)).length + 1 = l.length
  | [], _, h => by simp at h
  | b :: l, hn, h => by
    rw [List.nodup_cons] at hn
    by_cases e : a = b
    · subst e
      have : (l.filter fun x => !decide (a = x)) = l := List.filter_eq_self.2 fun x hx => by
        have : ¬ a = x := fun e => hn.1 (e ▸ hx)
        simp [this]
      simp [this]
    · have hl : a ∈ l := by
        rcases List.mem_cons.1 h with h | h
        · exact absurd h e
        · exact h
      have ih := filter_ne hn.2 hl
      simp [e]; omega
theorem ownA_len {c : Cat} (hS : ShapeP c) {x : Nat} (hx : x < c.e.length) : (ownA c x).length = hs c x x := by
  have h := hS.id x hx
  obtain ⟨j, hj⟩ := Int.eq_ofNat_of_zero_le h.1.1
  have hm : at0 c.e (x : Int) ∈ homTo c (x : Int) (x : Int) c.s.length := mem_homTo.2 ⟨j, by have := h.1.2; omega, hj, by rw [← hj]; exact h.2.1, by rw [← hj]; exact h.2.2⟩
  have e : ownA c x = (homTo c (x : Int) (x : Int) c.s.length).filter fun f => !decide (at0 c.e (x : Int) = f) := List.filter_congr fun f hf => by
    obtain ⟨i, _, rfl, hs, _⟩ := mem_homTo.1 hf
    unfold idB; rw [hs]
  have hf := filter_ne (hom_nodup c (x : Int) (x : Int) c.s.length) hm
  rw [e]; unfold hs; rw [if_pos rfl]; omega
theorem facB_Y {c : Cat} (hS : ShapeP c) {x P : Nat} (hx : x < c.e.length) (bs : List (List Int)) : ∀ y, facB P (blkY c x bs y) = prY c x (facB P bs) y
  | 0 => rfl
  | y + 1 => by
    rw [blkY, prY, ← facB_Y hS hx bs y]
    by_cases h : x = y
    · subst h
      rw [if_pos rfl, facB_app, facB_app, facB_one, facB_one, ownA_len hS hx]
      show _ * fac 1 * _ = _
      rw [show fac 1 = 1 from rfl, Nat.mul_one]
    · rw [if_neg h, facB_app, facB_one]; unfold hs; rw [if_neg h, Nat.sub_zero]
theorem facB_X {c : Cat} (hS : ShapeP c) : ∀ x, x ≤ c.e.length → facB (fac c.e.length) (blkX c x) = prX c x
  | 0, _ => rfl
  | x + 1, h => by rw [blkX, facB_Y hS (by omega), facB_X hS x (by omega)]; rfl
theorem blkY_len {c : Cat} (hn : c.s.length ≤ 40) (x : Nat) (bs : List (List Int)) : ∀ y, (blkY c x bs y).flatten.length ≤ bs.flatten.length + y * 41
  | 0 => by simp [blkY]
  | y + 1 => by
    have ih := blkY_len hn x bs y
    have h1 := homTo_len c (x : Int) (y : Int) c.s.length
    have h2 : (ownA c x).length ≤ c.s.length := Nat.le_trans (List.length_filter_le _ _) (homTo_len _ _ _ _)
    rw [blkY, Nat.succ_mul]
    by_cases h : x = y
    · rw [if_pos h]; simp only [List.flatten_append, List.flatten_singleton, List.length_append, List.length_singleton]; omega
    · rw [if_neg h]; simp only [List.flatten_append, List.flatten_singleton, List.length_append]; omega
theorem blkX_len {c : Cat} (hn : c.s.length ≤ 40) (he : c.e.length ≤ 8) : ∀ x, (blkX c x).flatten.length ≤ x * 328
  | 0 => by simp [blkX]
  | x + 1 => by
    have h1 := blkX_len hn he x
    have h2 := blkY_len hn x (blkX c x) c.e.length
    rw [blkX, Nat.succ_mul]; omega
/-! ### The model's count -/
def tms (n : Nat) : Nat → Nat
  | 0 => n
  | 1 => n
  | k + 2 => if tms n (k + 1) ≤ 5000 then tms n (k + 1) * (k + 2) else tms n (k + 1)
theorem tms_big {n j : Nat} (h : 5000 < tms n j) (h1 : 1 ≤ j) : ∀ d, tms n (j + d) = tms n j
  | 0 => rfl
  | d + 1 => by
    have ih := tms_big h h1 d
    obtain ⟨i, rfl⟩ : ∃ i, j = i + 1 := ⟨j - 1, by omega⟩
    rw [show i + 1 + (d + 1) = (i + d) + 2 by omega, tms, show i + d + 1 = i + 1 + d by omega, ih, if_neg (by omega)]
def relT (v P : Nat) : Prop := (P ≤ 5000 → v = P) ∧ (5000 < P → 5000 < v)
theorem relT_tms {n P : Nat} (h : relT n P) : ∀ k, relT (tms n k) (P * fac k)
  | 0 => by simpa [tms, fac] using h
  | 1 => by simpa [tms, fac] using h
  | k + 2 => by
    have ih := relT_tms h (k + 1)
    have e : P * fac (k + 2) = P * fac (k + 1) * (k + 2) := by rw [show fac (k + 2) = (k + 2) * fac (k + 1) from rfl, Nat.mul_comm (k + 2), Nat.mul_assoc]
    have hle : P * fac (k + 1) ≤ P * fac (k + 1) * (k + 2) := Nat.le_mul_of_pos_right _ (by omega)
    rw [e, tms]
    by_cases hc : tms n (k + 1) ≤ 5000
    · rw [if_pos hc]
      have : P * fac (k + 1) ≤ 5000 := by
        refine Nat.le_of_not_lt fun hq => ?_
        have := ih.2 hq; omega
      rw [ih.1 this]
      exact ⟨fun _ => rfl, fun h => h⟩
    · rw [if_neg hc]
      have hb : 5000 < P * fac (k + 1) := by
        refine Nat.lt_of_not_le fun hq => ?_
        have := ih.1 hq; omega
      exact ⟨fun hq => by omega, fun _ => by omega⟩
def spY (c : Cat) (x m : Nat) : Nat → Nat
  | 0 => m
  | y + 1 => tms (spY c x m y) (hs c x y)
def spX (c : Cat) : Nat → Nat
  | 0 => tms 1 c.e.length
  | x + 1 => spY c x (spX c x) c.e.length
theorem relT_Y {c : Cat} {x m P : Nat} (h : relT m P) : ∀ y, relT (spY c x m y) (prY c x P y)
  | 0 => h
  | y + 1 => relT_tms (relT_Y h y) _
theorem relT_X (c : Cat) : ∀ x, relT (spX c x) (prX c x)
  | 0 => by
    have := relT_tms (n := 1) (P := 1) ⟨fun _ => rfl, fun h => absurd h (by omega)⟩ c.e.length
    rwa [Nat.one_mul] at this
  | x + 1 => relT_Y (relT_X c x) _
noncomputable def fCountNumberings (c : Cat) : Int × Int := if fIsCategory c = true then (if prX c c.e.length ≤ 5000 then ((prX c c.e.length : Nat), 0) else (0, 3)) else (0, 1)
theorem cn_f {c : Cat} (h : fIsCategory c = false) : fCountNumberings c = (0, 1) := if_neg (by rw [h]; decide)
theorem cn_n {c : Cat} (h : fIsCategory c = true) (h' : 5000 < prX c c.e.length) : fCountNumberings c = (0, 3) := by unfold fCountNumberings; rw [if_pos h, if_neg (by omega)]
theorem cn_t {c : Cat} (h : fIsCategory c = true) (h' : prX c c.e.length ≤ 5000) : fCountNumberings c = (((prX c c.e.length : Nat) : Int), 0) := by unfold fCountNumberings; rw [if_pos h, if_pos h']
end

section
def addE (es : List Int) (z : Int) (k : Nat) : List Int := es ++ List.replicate k z
theorem addE_zero (es : List Int) (z : Int) : es = addE es z 0 := by simp [addE]
theorem addE_succ (es : List Int) (z : Int) (k : Nat) : addE es z k ++ [z] = addE es z (k + 1) := by unfold addE; rw [List.append_assoc, ← List.replicate_succ']
theorem addE_len (es : List Int) (z : Int) (k : Nat) : (addE es z k).length = es.length + k := by simp [addE]

set_option maxHeartbeats 1000000 in
set_option maxRecDepth 100000 in
theorem addA_any (w0 w : World) (R : Itm) (PB : Nat) (ns es ys : List Int) (ya : Option Addr) (yq : Nat) (hb : ns.length + ys.length ≤ 100000) (he : es.length = ns.length) (M : Mem w0 w [arrI PB ns es, own1I (.slice ya ys.length yq) ys, R]) :
    Calls Try.prog 98 #[.pointer (some ⟨PB, 0, none⟩), .slice ya ys.length yq] w (fun e w' => ∃ _ : Unit, e = .returned (.tuple #[]) ∧ Mem w0 w' [arrI PB (ns ++ ys) (es ++ List.replicate ys.length ((((ns ++ ys).length : Nat) : Int))), own1I (.slice ya ys.length yq) ys, R]) := by
  go_enter Try.func98, Try.ntmps98
  refine gc_enterM M (N := 32) rfl (look_cons (k := 0) rfl (look_cons (k := 1) rfl (look_nil _))) ?_
  clear M
  refine gc_seq fun K1 hK1 => ?_
  refine gc_unarr (n := 0) rfl fun a q b r => ?_
  try simp only [List.nil_append, List.cons_append, List.append_assoc, List.set_cons_succ, List.set_cons_zero]
  refine gc_region ?_
  refine g_v (.free rfl) rfl rfl (qt_move rfl rfl) ?_
  refine g_v (.free rfl) rfl rfl (qt_move rfl rfl) ?_
  refine g_v (.free rfl) rfl rfl (qt_nilP rfl rfl) ?_
  refine g_v (.free rfl) rfl rfl (qt_field (z := 0) (off := 0) rfl rfl Try.underlying90 rfl (by kernel_rfl) rfl) ?_
  refine g_v (.free rfl) rfl rfl (qt_loadB (n := 0) rfl rfl Try.underlying22 rfl rfl rfl) ?_
  refine g_v (.free rfl) rfl rfl (qt_move rfl rfl) ?_
  refine g_op (.free rfl) fun K3 hK3 => ?_
  refine go_appendA (n := 3) rfl rfl rfl Try.underlying22 rfl rfl rfl (fun w M => (mem_own1 (n := 1) M rfl).rd) (by first | simp; omega | omega) ?_
  intro va2 vc2
  refine hK3 _ _ ?_
  refine g_v (.free rfl) rfl rfl (qt_nilP rfl rfl) ?_
  refine g_v (.free rfl) rfl rfl (qt_field (z := 0) (off := 0) rfl rfl Try.underlying90 rfl (by kernel_rfl) rfl) ?_
  refine g_op (.free rfl) fun K4 hK4 => ?_
  refine go_storeB (n := 0) rfl rfl rfl rfl (by kernel_rfl) rfl rfl rfl (by first | decide | simp) ?_
  refine hK4 _ _ ?_
  refine g_nil ?_
  refine gk_then (hK1 _ _ ?_)
  refine gc_seq fun K5 hK5 => ?_
  refine gc_region ?_
  refine g_v (.free rfl) rfl rfl (qt_move rfl rfl) ?_
  refine g_v (.free rfl) rfl rfl (qt_len rfl rfl ulE1 (fun w M => lenV_own1 (n := 1) rfl M)) ?_
  refine g_v (.free rfl) rfl rfl (qt_move rfl rfl) ?_
  refine g_nil ?_
  refine gk_then (hK5 _ _ ?_)
  refine gc_block ?_
  rw [show Value.slice b es.length r = Value.slice b (addE es ((((ns ++ ys).length : Nat) : Int)) 0).length r from by rw [← addE_zero], show ownGI elN (Value.slice b (addE es ((((ns ++ ys).length : Nat) : Int)) 0).length r) es = ownGI elN (Value.slice b (addE es ((((ns ++ ys).length : Nat) : Int)) 0).length r) (addE es ((((ns ++ ys).length : Nat) : Int)) 0) from by rw [← addE_zero]]
  try simp only [List.nil_append, List.cons_append, List.append_assoc, List.set_cons_succ, List.set_cons_zero]
  refine gc_loop ([(0, _), (1, _), (14, _)] : Env) (fun s : Nat × (Option Addr) × Nat => (fun (k : Nat) (b : Option Addr) (r : Nat) => ([(15, .int .i64 (k : Int))] : Env)) s.1 s.2.1 s.2.2) (fun s : Nat × (Option Addr) × Nat => (fun (k : Nat) (b : Option Addr) (r : Nat) => ([(0, bxI PB 90 [.slice va2 (ns ++ ys).length vc2, .slice b (addE es ((((ns ++ ys).length : Nat) : Int)) k).length r]), (4, ownGI elN (.slice b (addE es ((((ns ++ ys).length : Nat) : Int)) k).length r) (addE es ((((ns ++ ys).length : Nat) : Int)) k))] : List (Nat × Itm))) s.1 s.2.1 s.2.2) (fun s : Nat × (Option Addr) × Nat => (fun (k : Nat) (b : Option Addr) (r : Nat) => k ≤ ys.length) s.1 s.2.1 s.2.2) (fun s : Nat × (Option Addr) × Nat => (fun (k : Nat) (b : Option Addr) (r : Nat) => ys.length - k) s.1 s.2.1 s.2.2) ((0, _, _)) (sub_cons rfl (sub_cons rfl (sub_cons rfl (sub_cons rfl sub_nil)))) rfl (Nat.zero_le _) ?_
  rintro ⟨k, b, r⟩ hinv KL6 hKL6
  simp only [updL, List.foldl_cons, List.foldl_nil, List.set_cons_succ, List.set_cons_zero, List.cons_append, List.nil_append] at hinv hKL6 ⊢
  have hk := hinv
  have hel := addE_len es ((((ns ++ ys).length : Nat) : Int)) k
  refine gc_seq fun K7 hK7 => ?_
  refine gc_region ?_
  refine g_v (.free rfl) rfl rfl (qt_lss rfl rfl rfl) ?_
  refine g_nil ?_
  refine gk_then (hK7 _ _ ?_)
  refine gc_seq fun K8 hK8 => ?_
  refine gc_cond rfl (fun hc0 => ?_) (fun hc0 => ?_)
  · try simp only [decide_eq_true_eq, decide_eq_false_iff_not, Bool.not_eq_true', Bool.not_eq_false', Bool.not_eq_eq_eq_not, Bool.not_true, Bool.not_false, ne_eq, Decidable.not_not, Classical.not_not] at hc0
    refine gc_skip ?_
    refine gk_then (hK8 _ _ ?_)
    refine gc_seq fun K9 hK9 => ?_
    refine gc_block ?_
    try simp only [List.nil_append, List.cons_append, List.append_assoc, List.set_cons_succ, List.set_cons_zero]
    refine ga_start _ (fun w M => mem_erase 0 (mem_erase 4 (M))) ?_
    refine ga_v 0 rfl (by kernel_rfl) (by kernel_rfl) (by kernel_rfl) (.free rfl) rfl rfl (qt_move rfl rfl) (fun _ _ _ h => h) ?_
    refine ga_v 1 rfl (by kernel_rfl) (by kernel_rfl) (by kernel_rfl) (.free rfl) rfl rfl (qt_move rfl rfl) (fun _ _ _ h => h) ?_
    refine ga_v 2 rfl (by kernel_rfl) (by kernel_rfl) (by kernel_rfl) (.free rfl) rfl rfl (qt_nilP rfl rfl) (fun _ _ _ h => h) ?_
    refine ga_v 3 rfl (by kernel_rfl) (by kernel_rfl) (by kernel_rfl) (.free rfl) rfl rfl (qt_field (z := 0) (off := 1) rfl rfl Try.underlying90 rfl (by kernel_rfl) rfl) (fun _ _ _ h => h) ?_
    refine ga_v 5 rfl (by kernel_rfl) (by kernel_rfl) (by kernel_rfl) (.free rfl) rfl rfl (qt_move rfl rfl) (fun _ _ _ h => h) ?_
    refine ga_v 6 rfl (by kernel_rfl) (by kernel_rfl) (by kernel_rfl) (.free rfl) rfl rfl (qt_nilP rfl rfl) (fun _ _ _ h => h) ?_
    refine ga_v 7 rfl (by kernel_rfl) (by kernel_rfl) (by kernel_rfl) (.free rfl) rfl rfl (qt_field (z := 0) (off := 0) rfl rfl Try.underlying90 rfl (by kernel_rfl) rfl) (fun _ _ _ h => h) ?_
    refine ga_two 4 8 (by kernel_rfl) rfl rfl (.free rfl) (.free rfl) (fun K10 hK10 => ?_) (fun K10 hK10 => ?_)
    · refine go_v rfl rfl (qt_loadB (n := 0) rfl rfl Try.underlying88 rfl rfl rfl) ?_
      refine hK10 _ _ (fun w M => (mem_erase 0 (mem_erase 4 (mem_take 5 M)) :)) ?_
      refine ga_op 8 (by kernel_rfl) rfl (.free rfl) fun K12 hK12 => ?_
      refine go_v rfl rfl (qt_loadB (n := 0) rfl rfl Try.underlying22 rfl rfl rfl) ?_
      refine hK12 _ _ (fun w M => (mem_erase 0 (mem_erase 4 (mem_take 5 M)) :)) ?_
      refine ga_v 9 rfl (by kernel_rfl) (by kernel_rfl) (by kernel_rfl) (.free rfl) rfl rfl (qt_len rfl rfl ulE1 (fun w M => lenV_own1 (n := 2) rfl M)) (fun _ _ _ h => h) ?_
      refine ga_op 10 (by kernel_rfl) rfl (.free rfl) fun K14 hK14 => ?_
      refine go_sliceN1 rfl rfl rfl rfl Try.underlying88 ?_
      intro B13
      refine hK14 _ _ (fun w M => (mem_erase 0 (mem_erase 4 (mem_take 5 M)) :)) ?_
      refine ga_op 11 (by kernel_rfl) rfl (.free rfl) fun K16 hK16 => ?_
      refine go_appendG elN (n := 4) rfl rfl rfl Try.underlying88 rfl rfl rfl (fun w M => mem_ownG (n := 5) rfl M) rfl (by rw [List.length_singleton]; omega) ?_
      intro va15 vc15
      refine hK16 _ _ (fun w M => (mem_erase 0 (mem_erase 4 (mem_take 5 M)) :)) ?_
      refine ga_v 12 rfl (by kernel_rfl) (by kernel_rfl) (by kernel_rfl) (.free rfl) rfl rfl (qt_nilP rfl rfl) (fun _ _ _ h => h) ?_
      refine ga_v 13 rfl (by kernel_rfl) (by kernel_rfl) (by kernel_rfl) (.free rfl) rfl rfl (qt_field (z := 0) (off := 1) rfl rfl Try.underlying90 rfl (by kernel_rfl) rfl) (fun _ _ _ h => h) ?_
      refine ga_op 14 (by kernel_rfl) rfl (.free rfl) fun K17 hK17 => ?_
      refine go_storeB (n := 0) rfl rfl rfl rfl (by kernel_rfl) rfl rfl rfl (by first | decide | simp) ?_
      refine hK17 _ _ (fun w M => (mem_erase 0 (mem_erase 4 (mem_take 5 M)) :)) ?_
      refine ga_done (by kernel_rfl) ?_
      refine gk_block ?_
      refine gk_then (hK9 _ _ ?_)
      refine gc_region ?_
      refine g_v (.free rfl) rfl rfl (qt_add rfl rfl rfl (by omega)) ?_
      refine g_v (.free rfl) rfl rfl (qt_move rfl rfl) ?_
      refine g_nil ?_
      rw [addE_succ]
      refine gk_then (gk_take 5 ?_)
      refine gk_sub ?hs_18 (hKL6 ((k + 1, _, _)) ?hi_18 ?hm_18)
      case hs_18 => exact (sub_cons rfl (sub_cons rfl (sub_cons rfl (sub_cons rfl sub_nil))))
      case hi_18 => omega
      case hm_18 => omega
    · refine go_v rfl rfl (qt_loadB (n := 0) rfl rfl Try.underlying22 rfl rfl rfl) ?_
      refine hK10 _ _ (fun w M => (mem_erase 0 (mem_erase 4 (mem_take 5 M)) :)) ?_
      refine ga_v 9 rfl (by kernel_rfl) (by kernel_rfl) (by kernel_rfl) (.free rfl) rfl rfl (qt_len rfl rfl ulE1 (fun w M => lenV_own1 (n := 2) rfl M)) (fun _ _ _ h => h) ?_
      refine ga_two 4 10 (by kernel_rfl) rfl rfl (.free rfl) (.free rfl) (fun K20 hK20 => ?_) (fun K20 hK20 => ?_)
      · refine go_v rfl rfl (qt_loadB (n := 0) rfl rfl Try.underlying88 rfl rfl rfl) ?_
        refine hK20 _ _ (fun w M => (mem_erase 0 (mem_erase 4 (mem_take 5 M)) :)) ?_
        refine ga_op 10 (by kernel_rfl) rfl (.free rfl) fun K23 hK23 => ?_
        refine go_sliceN1 rfl rfl rfl rfl Try.underlying88 ?_
        intro B22
        refine hK23 _ _ (fun w M => (mem_erase 0 (mem_erase 4 (mem_take 5 M)) :)) ?_
        refine ga_op 11 (by kernel_rfl) rfl (.free rfl) fun K25 hK25 => ?_
        refine go_appendG elN (n := 4) rfl rfl rfl Try.underlying88 rfl rfl rfl (fun w M => mem_ownG (n := 5) rfl M) rfl (by rw [List.length_singleton]; omega) ?_
        intro va24 vc24
        refine hK25 _ _ (fun w M => (mem_erase 0 (mem_erase 4 (mem_take 5 M)) :)) ?_
        refine ga_v 12 rfl (by kernel_rfl) (by kernel_rfl) (by kernel_rfl) (.free rfl) rfl rfl (qt_nilP rfl rfl) (fun _ _ _ h => h) ?_
        refine ga_v 13 rfl (by kernel_rfl) (by kernel_rfl) (by kernel_rfl) (.free rfl) rfl rfl (qt_field (z := 0) (off := 1) rfl rfl Try.underlying90 rfl (by kernel_rfl) rfl) (fun _ _ _ h => h) ?_
        refine ga_op 14 (by kernel_rfl) rfl (.free rfl) fun K26 hK26 => ?_
        refine go_storeB (n := 0) rfl rfl rfl rfl (by kernel_rfl) rfl rfl rfl (by first | decide | simp) ?_
        refine hK26 _ _ (fun w M => (mem_erase 0 (mem_erase 4 (mem_take 5 M)) :)) ?_
        refine ga_done (by kernel_rfl) ?_
        refine gk_block ?_
        refine gk_then (hK9 _ _ ?_)
        refine gc_region ?_
        refine g_v (.free rfl) rfl rfl (qt_add rfl rfl rfl (by omega)) ?_
        refine g_v (.free rfl) rfl rfl (qt_move rfl rfl) ?_
        refine g_nil ?_
        rw [addE_succ]
        refine gk_then (gk_take 5 ?_)
        refine gk_sub ?hs_27 (hKL6 ((k + 1, _, _)) ?hi_27 ?hm_27)
        case hs_27 => exact (sub_cons rfl (sub_cons rfl (sub_cons rfl (sub_cons rfl sub_nil))))
        case hi_27 => omega
        case hm_27 => omega
      · refine go_sliceN1 rfl rfl rfl rfl Try.underlying88 ?_
        intro B28
        refine hK20 _ _ (fun w M => (mem_erase 0 (mem_erase 4 (mem_take 5 M)) :)) ?_
        refine ga_op 4 (by kernel_rfl) rfl (.free rfl) fun K30 hK30 => ?_
        refine go_v rfl rfl (qt_loadB (n := 0) rfl rfl Try.underlying88 rfl rfl rfl) ?_
        refine hK30 _ _ (fun w M => (mem_erase 0 (mem_erase 4 (mem_take 5 M)) :)) ?_
        refine ga_op 11 (by kernel_rfl) rfl (.free rfl) fun K32 hK32 => ?_
        refine go_appendG elN (n := 4) rfl rfl rfl Try.underlying88 rfl rfl rfl (fun w M => mem_ownG (n := 5) rfl M) rfl (by rw [List.length_singleton]; omega) ?_
        intro va31 vc31
        refine hK32 _ _ (fun w M => (mem_erase 0 (mem_erase 4 (mem_take 5 M)) :)) ?_
        refine ga_v 12 rfl (by kernel_rfl) (by kernel_rfl) (by kernel_rfl) (.free rfl) rfl rfl (qt_nilP rfl rfl) (fun _ _ _ h => h) ?_
        refine ga_v 13 rfl (by kernel_rfl) (by kernel_rfl) (by kernel_rfl) (.free rfl) rfl rfl (qt_field (z := 0) (off := 1) rfl rfl Try.underlying90 rfl (by kernel_rfl) rfl) (fun _ _ _ h => h) ?_
        refine ga_op 14 (by kernel_rfl) rfl (.free rfl) fun K33 hK33 => ?_
        refine go_storeB (n := 0) rfl rfl rfl rfl (by kernel_rfl) rfl rfl rfl (by first | decide | simp) ?_
        refine hK33 _ _ (fun w M => (mem_erase 0 (mem_erase 4 (mem_take 5 M)) :)) ?_
        refine ga_done (by kernel_rfl) ?_
        refine gk_block ?_
        refine gk_then (hK9 _ _ ?_)
        refine gc_region ?_
        refine g_v (.free rfl) rfl rfl (qt_add rfl rfl rfl (by omega)) ?_
        refine g_v (.free rfl) rfl rfl (qt_move rfl rfl) ?_
        refine g_nil ?_
        rw [addE_succ]
        refine gk_then (gk_take 5 ?_)
        refine gk_sub ?hs_34 (hKL6 ((k + 1, _, _)) ?hi_34 ?hm_34)
        case hs_34 => exact (sub_cons rfl (sub_cons rfl (sub_cons rfl (sub_cons rfl sub_nil))))
        case hi_34 => omega
        case hm_34 => omega
  · try simp only [decide_eq_true_eq, decide_eq_false_iff_not, Bool.not_eq_true', Bool.not_eq_false', Bool.not_eq_eq_eq_not, Bool.not_true, Bool.not_false, ne_eq, Decidable.not_not, Classical.not_not] at hc0
    refine gc_exit ?_
    refine gk_then_exit ?_
    refine gk_then_exit ?_
    refine gk_block_hit ?_
    refine ret_0n rfl (fun w M => ?_)
    obtain rfl : k = ys.length := by omega
    exact ⟨(), rfl, mem_arr (mem_pick (n := 2) (mem_pick (n := 4) (mem_pick (n := 4) M rfl) rfl) rfl)⟩
end

section
def cntU (n : Nat) : List Int := tabTo (fun j => (j : Int)) n
theorem cntU_len (n : Nat) : (cntU n).length = n := tabTo_len _ _
theorem cntU_at {n k : Nat} (h : k < n) : at0 (cntU n) (k : Int) = k := tabTo_at _ h
theorem retArr_star {W w' : World} {ns es : List Int} {a b : Option Addr} {q r : Nat} {is : List Itm} (M : Mem W w' (own1I (.slice a ns.length q) ns :: ownGI elN (.slice b es.length r) es :: is)) : RetArr W ns es (.returned (.agg #[.slice a ns.length q, .slice b es.length r])) w' :=
  ⟨a, q, b, r, rfl, star_take _ 2 M.2, M.1⟩
theorem arr_nil (B : Nat) : arrI B [] [] = arrI B ([] : List (List Int)).flatten (endB 0 []) := rfl

set_option maxHeartbeats 1000000 in
set_option maxRecDepth 100000 in
theorem countU_any (w : World) (n : Int) (m : Nat) (hm : n = (m : Int)) (hb : m ≤ 100000) :
    Calls Try.prog 88 #[.int .i64 n] w (RetL w (cntU m)) := by
  subst hm
  go_enter Try.func88, Try.ntmps88
  refine gc_enter (N := 18) rfl (look_cons (k := 0) rfl (look_nil _)) ?_
  refine gc_seq fun K1 hK1 => ?_
  refine gc_region ?_
  refine g_v (.free rfl) rfl rfl (qt_assign rfl rfl) ?_
  refine g_nil ?_
  refine gk_then (hK1 _ _ ?_)
  refine gc_seq fun K2 hK2 => ?_
  refine gc_region ?_
  refine g_v (.free rfl) rfl rfl (qt_move rfl rfl) ?_
  refine g_op (.free rfl) fun K4 hK4 => ?_
  refine go_make1 rfl rfl rfl Try.underlying22 rfl rfl (by omega) ?_
  intro B3
  refine hK4 _ _ ?_
  refine g_v (.free rfl) rfl rfl (qt_assign rfl rfl) ?_
  refine g_nil ?_
  refine gk_then (hK2 _ _ ?_)
  refine gc_seq fun K5 hK5 => ?_
  refine gc_seq fun K6 hK6 => ?_
  refine gc_region ?_
  refine g_v (.free rfl) rfl rfl (qt_move rfl rfl) ?_
  refine g_v (.free rfl) rfl rfl (qt_len rfl rfl ulE1 (fun w M => lenV_own1 (n := 0) rfl M)) ?_
  refine g_v (.free rfl) rfl rfl (qt_move rfl rfl) ?_
  refine g_nil ?_
  refine gk_then (hK6 _ _ ?_)
  refine gc_block ?_
  rw [fillTo_zero (fun j => (j : Int)) m]
  try simp only [List.nil_append, List.cons_append, List.append_assoc, List.set_cons_succ, List.set_cons_zero]
  refine gc_loop ([(0, _), (2, _), (3, _), (8, _)] : Env) (fun s : Nat => (fun (k : Nat) => ([(9, .int .i64 (k : Int))] : Env)) s) (fun s : Nat => (fun (k : Nat) => ([(0, own1I (.slice (some ⟨B3, 0, none⟩) m m) (fillTo (fun j => (j : Int)) m k))] : List (Nat × Itm))) s) (fun s : Nat => (fun (k : Nat) => k ≤ m) s) (fun s : Nat => (fun (k : Nat) => m - k) s) (0) (sub_cons rfl (sub_cons rfl (sub_cons rfl (sub_cons rfl (sub_cons rfl sub_nil))))) rfl (Nat.zero_le _) ?_
  rintro k hinv KL7 hKL7
  simp only [updL, List.foldl_cons, List.foldl_nil, List.set_cons_succ, List.set_cons_zero, List.cons_append, List.nil_append] at hinv hKL7 ⊢
  have hk := hinv
  have hfl := fillTo_len (fun j => (j : Int)) m k
  have hf0 := fillTo_len (fun j => (j : Int)) m 0
  refine gc_seq fun K8 hK8 => ?_
  refine gc_region ?_
  refine g_v (.free rfl) rfl rfl (qt_lss rfl rfl rfl) ?_
  refine g_nil ?_
  refine gk_then (hK8 _ _ ?_)
  refine gc_seq fun K9 hK9 => ?_
  refine gc_cond rfl (fun hc0 => ?_) (fun hc0 => ?_)
  · try simp only [decide_eq_true_eq, decide_eq_false_iff_not, Bool.not_eq_true', Bool.not_eq_false', Bool.not_eq_eq_eq_not, Bool.not_true, Bool.not_false, ne_eq, Decidable.not_not, Classical.not_not] at hc0
    refine gc_skip ?_
    refine gk_then (hK9 _ _ ?_)
    refine gc_seq fun K10 hK10 => ?_
    refine gc_block ?_
    refine gc_seq fun K11 hK11 => ?_
    refine gc_region ?_
    refine g_v (.free rfl) rfl rfl (qt_move rfl rfl) ?_
    refine g_v (.free rfl) rfl rfl (qt_assign rfl rfl) ?_
    refine g_nil ?_
    refine gk_then (hK11 _ _ ?_)
    refine gc_region ?_
    refine g_v (.free rfl) rfl rfl (qt_move rfl rfl) ?_
    refine g_v (.free rfl) rfl rfl (qt_move rfl rfl) ?_
    refine g_v (.free rfl) rfl rfl (qt_move rfl rfl) ?_
    refine g_v (.free rfl) rfl rfl (qt_index rfl rfl rfl ulE1 szE1 (fun w M => lenA_own1 (n := 0) rfl M) (by omega) (by omega)) ?_
    refine g_op (.free rfl) fun K12 hK12 => ?_
    refine go_store1 (n := 0) rfl rfl rfl rfl (by kernel_rfl) rfl (by omega) (by omega) ?_
    refine hK12 _ _ ?_
    refine g_nil ?_
    refine gk_block ?_
    refine gk_then (hK10 _ _ ?_)
    refine gc_region ?_
    refine g_v (.free rfl) rfl rfl (qt_add rfl rfl rfl (by omega)) ?_
    refine g_v (.free rfl) rfl rfl (qt_move rfl rfl) ?_
    refine g_nil ?_
    rw [fillTo_set (fun j => (j : Int)) (by omega)]
    refine gk_then (gk_take 1 ?_)
    refine gk_sub ?hs_13 (hKL7 (k + 1) ?hi_13 ?hm_13)
    case hs_13 => exact (sub_cons rfl (sub_cons rfl (sub_cons rfl (sub_cons rfl (sub_cons rfl sub_nil)))))
    case hi_13 => omega
    case hm_13 => omega
  · try simp only [decide_eq_true_eq, decide_eq_false_iff_not, Bool.not_eq_true', Bool.not_eq_false', Bool.not_eq_eq_eq_not, Bool.not_true, Bool.not_false, ne_eq, Decidable.not_not, Classical.not_not] at hc0
    refine gc_exit ?_
    refine gk_then_exit ?_
    refine gk_then_exit ?_
    refine gk_block_hit ?_
    refine gk_then (hK5 _ _ ?_)
    refine gc_seq fun K14 hK14 => ?_
    refine gc_region ?_
    refine g_v (.free rfl) rfl rfl (qt_move rfl rfl) ?_
    refine g_v (.free rfl) rfl rfl (qt_assign rfl rfl) ?_
    refine g_nil ?_
    refine gk_then (hK14 _ _ ?_)
    refine gc_ret ?_
    refine ret_1 rfl rfl  (fun w M => ?_)
    obtain rfl : k = m := by omega
    rw [fillTo_end] at M
    have hl := cntU_len k
    exact ⟨_, rfl, (by have := mem_own1 (n := 0) M rfl; exact this), M.1⟩

set_option maxHeartbeats 1000000 in
set_option maxRecDepth 100000 in
theorem objOrd_any (w : World) (v : Value) (c : Cat) (h : RdC w v c) (hS : ShapeP c) :
    Calls Try.prog 81 #[v] w (RetArr w (cntU c.e.length) (endB 0 [cntU c.e.length])) := by
  have h0 := h
  obtain ⟨va, vb, vc, vd, ve, vf, vg, vh, rfl, h1, h2, h3, h4, _⟩ := h.lists
  have hn40 := hS.n40; have htl := hS.tl; have hel := hS.el; have hob0 := hS.ob0; have hob8 := hS.ob8; have hml := hS.ml
  have hon : c.ob = ((c.e.length : Nat) : Int) := by omega
  go_enter Try.func81, Try.ntmps81
  refine gc_enter (N := 9) rfl (look_cons (k := 0) rfl (look_nil _)) ?_
  refine gc_seq fun K1 hK1 => ?_
  refine gc_region ?_
  refine g_op (.free rfl) fun K3 hK3 => ?_
  refine go_box rfl rfl rfl rfl rfl ?_
  intro B2
  refine hK3 _ _ ?_
  refine g_op (.free rfl) fun K5 hK5 => ?_
  refine go_alloc (z := (.agg #[.slice none 0 0, .slice none 0 0])) (cs := [.slice none 0 0, .slice none 0 0]) rfl rfl rfl (fun w => by kernel_rfl) rfl ?_
  intro B4
  refine hK5 _ _ ?_
  refine g_nil ?_
  refine gk_then (hK1 _ _ ?_)
  refine gc_seq fun K6 hK6 => ?_
  refine gc_region ?_
  refine g_op (.free rfl) fun K8 hK8 => ?_
  refine go_alloc (z := (.agg #[.slice none 0 0, .slice none 0 0])) (cs := [.slice none 0 0, .slice none 0 0]) rfl rfl rfl (fun w => by kernel_rfl) rfl ?_
  intro B7
  refine hK8 _ _ ?_
  refine g_nil ?_
  refine gk_then (hK6 _ _ ?_)
  refine gc_seq fun K9 hK9 => ?_
  refine gc_arr0 (n := 2) rfl ?_
  try simp only [List.nil_append, List.cons_append, List.append_assoc, List.set_cons_succ, List.set_cons_zero]
  refine gc_region ?_
  refine g_v (.free rfl) rfl rfl (qt_field (z := 0) (off := 0) rfl rfl Try.underlying27 rfl (by kernel_rfl) rfl) ?_
  refine g_v (.free rfl) rfl rfl (qt_loadB (n := 0) rfl rfl Try.underlying2 rfl rfl rfl) ?_
  refine g_op (.free rfl) fun K11 hK11 => ?_
  refine go_callL rfl rfl rfl Try.func88 rfl (by decide) rfl (fun w M => countU_any w _ (c.e.length) (hon) (by first | assumption | omega)) ?_
  intro va10 vc10
  refine hK11 _ _ ?_
  refine g_op (.free rfl) fun K13 hK13 => ?_
  refine go_two (n := 2) (m := 3) (m' := 2) (σ := Unit) rfl rfl rfl Try.func98 rfl (by decide) rfl rfl rfl (fun z => rfl) (fun R w M => addA_any _ w R _ _ _ _ _ _ (by have := cntU_len c.e.length; simp only [List.length_nil]; omega) rfl M) ?_
  intro _
  refine hK13 _ _ ?_
  refine g_nil ?_
  refine gk_then (hK9 _ _ ?_)
  refine gc_seq fun K14 hK14 => ?_
  refine gc_unarr (n := 2) rfl fun a q b r => ?_
  try simp only [List.nil_append, List.cons_append, List.append_assoc, List.set_cons_succ, List.set_cons_zero]
  refine gc_region ?_
  refine g_v (.free rfl) rfl rfl (qt_loadS (n := 2) rfl rfl Try.underlying90 rfl (by kernel_rfl) rfl) ?_
  refine g_op (.free rfl) fun K15 hK15 => ?_
  refine go_storeS (n := 1) rfl rfl rfl rfl (by kernel_rfl) rfl rfl rfl ?_
  refine hK15 _ _ ?_
  refine g_nil ?_
  refine gk_then (hK14 _ _ ?_)
  refine gc_ret ?_
  refine ret_S (n := 1) rfl rfl Try.underlying90 rfl (by kernel_rfl) rfl (fun w M => ?_)
  rw [show endB 0 [cntU c.e.length] = List.replicate (cntU c.e.length).length (((cntU c.e.length).length : Nat) : Int) from by simp [endB]]
  exact retArr_star (ns := cntU c.e.length) (mem_pick (n := 5) (mem_pick (n := 5) M rfl) rfl)
end

section
section
variable {w0 : World} {is : List Itm} {o : Oper} {e : Env} {r : Value}
theorem qt_makeFBr {f : Fn} {x : Operand} (hop : o.op = .makeFunc f #[x] #[]) (hx : evo e x = some r) : QV w0 is o e (.func f #[r] #[]) := fun w ρ M F => by
  have hx := F _ _ hx
  simp [execOp, hop, hx, Instr.makeFunc]
end
theorem blkY_eq {c : Cat} {k l : Nat} (h : (k : Int) = (l : Int)) : blkY c k (blkX c k) l ++ [[at0 c.e (k : Int)]] ++ [ownA c k] = blkY c k (blkX c k) (l + 1) := by rw [blkY, if_pos (by omega)]
theorem blkY_ne {c : Cat} {k l : Nat} (h : ¬ (k : Int) = (l : Int)) : blkY c k (blkX c k) l ++ [homTo c (k : Int) (l : Int) c.s.length] = blkY c k (blkX c k) (l + 1) := by rw [blkY, if_neg (by omega)]
theorem ownA_eq {c : Cat} {k l : Nat} (h : (k : Int) = (l : Int)) : (homTo c (k : Int) (l : Int) c.s.length).filter (fun x => !idB c x) = ownA c k := by rw [← h]; rfl

set_option maxHeartbeats 1000000 in
set_option maxRecDepth 100000 in
theorem arrOrd_any (w : World) (v : Value) (c : Cat) (h : RdC w v c) (hS : ShapeP c) (vo : Value) (ho : Rd w vo (cntU c.e.length)) :
    Calls Try.prog 82 #[v, vo] w (RetArr w (blkX c c.e.length).flatten (endB 0 (blkX c c.e.length))) := by
  have h0 := h
  obtain ⟨va, vb, vc, vd, ve, vf, vg, vh, rfl, h1, h2, h3, h4, _⟩ := h.lists
  obtain ⟨voa, voc, rfl⟩ := rd_form ho
  have hn40 := hS.n40; have htl := hS.tl; have hel := hS.el; have hob0 := hS.ob0; have hob8 := hS.ob8; have hml := hS.ml
  have hon : c.ob = ((c.e.length : Nat) : Int) := by omega
  have hcl := cntU_len c.e.length
  go_enter Try.func82, Try.ntmps82
  refine gc_enter (N := 47) rfl (look_cons (k := 0) rfl (look_cons (k := 1) rfl (look_nil _))) ?_
  refine gc_seq fun K1 hK1 => ?_
  refine gc_region ?_
  refine g_op (.free rfl) fun K3 hK3 => ?_
  refine go_box rfl rfl rfl rfl rfl ?_
  intro B2
  refine hK3 _ _ ?_
  refine g_op (.free rfl) fun K5 hK5 => ?_
  refine go_alloc (z := (.agg #[.slice none 0 0, .slice none 0 0])) (cs := [.slice none 0 0, .slice none 0 0]) rfl rfl rfl (fun w => by kernel_rfl) rfl ?_
  intro B4
  refine hK5 _ _ ?_
  refine g_nil ?_
  refine gk_then (hK1 _ _ ?_)
  refine gc_seq fun K6 hK6 => ?_
  refine gc_region ?_
  refine g_op (.free rfl) fun K8 hK8 => ?_
  refine go_alloc (z := (.agg #[.slice none 0 0, .slice none 0 0])) (cs := [.slice none 0 0, .slice none 0 0]) rfl rfl rfl (fun w => by kernel_rfl) rfl ?_
  intro B7
  refine hK8 _ _ ?_
  refine g_nil ?_
  refine gk_then (hK6 _ _ ?_)
  refine gc_seq fun K9 hK9 => ?_
  refine gc_seq fun K10 hK10 => ?_
  refine gc_arr0 (n := 2) rfl ?_
  try simp only [List.nil_append, List.cons_append, List.append_assoc, List.set_cons_succ, List.set_cons_zero]
  refine gc_region ?_
  refine g_v (.free rfl) rfl rfl (qt_move rfl rfl) ?_
  refine g_v (.free rfl) rfl rfl (qt_len rfl rfl ulE1 (fun w M => lenV_rd ho)) ?_
  refine g_v (.free rfl) rfl rfl (qt_move rfl rfl) ?_
  refine g_nil ?_
  refine gk_then (hK10 _ _ ?_)
  refine gc_block ?_
  try simp only [List.nil_append, List.cons_append, List.append_assoc, List.set_cons_succ, List.set_cons_zero]
  refine gc_loop ([(0, _), (1, _), (2, _), (4, _), (5, _), (11, _), (12, _)] : Env) (fun s : Nat => (fun (k : Nat) => ([(13, .int .i64 (k : Int))] : Env)) s) (fun s : Nat => (fun (k : Nat) => ([(2, arrI B7 (blkX c k).flatten (endB 0 (blkX c k)))] : List (Nat × Itm))) s) (fun s : Nat => (fun (k : Nat) => k ≤ c.e.length) s) (fun s : Nat => (fun (k : Nat) => c.e.length - k) s) (0) (sub_cons rfl (sub_cons rfl (sub_cons rfl (sub_cons rfl (sub_cons rfl (sub_cons rfl (sub_cons rfl (sub_cons rfl sub_nil)))))))) rfl (Nat.zero_le _) ?_
  rintro k hinv KL11 hKL11
  simp only [updL, List.foldl_cons, List.foldl_nil, List.set_cons_succ, List.set_cons_zero, List.cons_append, List.nil_append] at hinv hKL11 ⊢
  have hk := hinv
  refine gc_seq fun K12 hK12 => ?_
  refine gc_region ?_
  refine g_v (.free rfl) rfl rfl (qt_lss rfl rfl rfl) ?_
  refine g_nil ?_
  refine gk_then (hK12 _ _ ?_)
  refine gc_seq fun K13 hK13 => ?_
  refine gc_cond rfl (fun hc0 => ?_) (fun hc0 => ?_)
  · try simp only [decide_eq_true_eq, decide_eq_false_iff_not, Bool.not_eq_true', Bool.not_eq_false', Bool.not_eq_eq_eq_not, Bool.not_true, Bool.not_false, ne_eq, Decidable.not_not, Classical.not_not] at hc0
    refine gc_skip ?_
    refine gk_then (hK13 _ _ ?_)
    refine gc_seq fun K14 hK14 => ?_
    refine gc_block ?_
    refine gc_seq fun K15 hK15 => ?_
    refine gc_region ?_
    refine g_v (.free rfl) rfl rfl (qt_index rfl rfl rfl ulE1 szE1 (fun w M => lenA_rd ho) (by omega) (by omega)) ?_
    refine g_v (.free rfl) rfl rfl (qt_load1 rfl rfl Try.underlying2 rfl (fun w M => mem_rd M ho) (by omega) (by omega)) ?_
    refine g_v (.free rfl) rfl rfl (qt_assign rfl rfl) ?_
    refine g_nil ?_
    refine gk_then (hK15 _ _ ?_)
    refine gc_seq fun K16 hK16 => ?_
    simp only [cntU_at (show k < c.e.length by omega)]
    refine gc_region ?_
    refine g_v (.free rfl) rfl rfl (qt_move rfl rfl) ?_
    refine g_v (.free rfl) rfl rfl (qt_len rfl rfl ulE1 (fun w M => lenV_rd ho)) ?_
    refine g_v (.free rfl) rfl rfl (qt_move rfl rfl) ?_
    refine g_nil ?_
    refine gk_then (hK16 _ _ ?_)
    refine gc_block ?_
    try simp only [List.nil_append, List.cons_append, List.append_assoc, List.set_cons_succ, List.set_cons_zero]
    refine gc_loop ([(0, _), (1, _), (2, _), (4, _), (5, _), (7, _), (11, _), (12, _), (13, _), (14, _), (17, _), (18, _)] : Env) (fun s : Nat => (fun (l : Nat) => ([(19, .int .i64 (l : Int))] : Env)) s) (fun s : Nat => (fun (l : Nat) => ([(2, arrI B7 (blkY c k (blkX c k) l).flatten (endB 0 (blkY c k (blkX c k) l)))] : List (Nat × Itm))) s) (fun s : Nat => (fun (l : Nat) => l ≤ c.e.length) s) (fun s : Nat => (fun (l : Nat) => c.e.length - l) s) (0) (sub_cons rfl (sub_cons rfl (sub_cons rfl (sub_cons rfl (sub_cons rfl (sub_cons rfl (sub_cons rfl (sub_cons rfl (sub_cons rfl (sub_cons rfl (sub_cons rfl (sub_cons rfl (sub_cons rfl sub_nil))))))))))))) rfl (Nat.zero_le _) ?_
    rintro l hinv KL17 hKL17
    simp only [updL, List.foldl_cons, List.foldl_nil, List.set_cons_succ, List.set_cons_zero, List.cons_append, List.nil_append] at hinv hKL17 ⊢
    have hl := hinv
    have hb1 := blkY_len hn40 k (blkX c k) l
    have hb2 := blkX_len (c := c) hn40 (by omega) k
    refine gc_seq fun K18 hK18 => ?_
    refine gc_region ?_
    refine g_v (.free rfl) rfl rfl (qt_lss rfl rfl rfl) ?_
    refine g_nil ?_
    refine gk_then (hK18 _ _ ?_)
    refine gc_seq fun K19 hK19 => ?_
    refine gc_cond rfl (fun hc1 => ?_) (fun hc1 => ?_)
    · try simp only [decide_eq_true_eq, decide_eq_false_iff_not, Bool.not_eq_true', Bool.not_eq_false', Bool.not_eq_eq_eq_not, Bool.not_true, Bool.not_false, ne_eq, Decidable.not_not, Classical.not_not] at hc1
      refine gc_skip ?_
      refine gk_then (hK19 _ _ ?_)
      refine gc_seq fun K20 hK20 => ?_
      refine gc_block ?_
      refine gc_seq fun K21 hK21 => ?_
      refine gc_region ?_
      refine g_v (.free rfl) rfl rfl (qt_index rfl rfl rfl ulE1 szE1 (fun w M => lenA_rd ho) (by omega) (by omega)) ?_
      refine g_v (.free rfl) rfl rfl (qt_load1 rfl rfl Try.underlying2 rfl (fun w M => mem_rd M ho) (by omega) (by omega)) ?_
      refine g_v (.free rfl) rfl rfl (qt_assign rfl rfl) ?_
      refine g_nil ?_
      refine gk_then (hK21 _ _ ?_)
      refine gc_seq fun K22 hK22 => ?_
      simp only [cntU_at (show l < c.e.length by omega)]
      have hh := homTo_len c (k : Int) (l : Int) c.s.length
      have hfl : ((homTo c (k : Int) (l : Int) c.s.length).filter fun x => !idB c x).length ≤ c.s.length := Nat.le_trans (List.length_filter_le _ _) hh
      refine gc_region ?_
      refine g_v (.free rfl) rfl rfl (qt_loadS (n := 0) rfl rfl Try.underlying27 rfl (by kernel_rfl) rfl) ?_
      refine g_v (.free rfl) rfl rfl (qt_move rfl rfl) ?_
      refine g_v (.free rfl) rfl rfl (qt_move rfl rfl) ?_
      refine g_v (.free rfl) rfl rfl (qt_build rfl rfl bt_arrowEnds) ?_
      refine g_op (.free rfl) fun K24 hK24 => ?_
      refine go_callL rfl rfl rfl Try.func79 rfl (by decide) rfl (fun w M => arrowsBetween_any w _ _ _ _ (mem_rdC M h0) (by first | assumption | omega)) ?_
      intro va23 vc23
      refine hK24 _ _ ?_
      refine g_v (.free rfl) rfl rfl (qt_assign rfl rfl) ?_
      refine g_nil ?_
      refine gk_then (hK22 _ _ ?_)
      refine gc_seq fun K25 hK25 => ?_
      refine gc_seq fun K26 hK26 => ?_
      refine gc_region ?_
      refine g_v (.free rfl) rfl rfl (qt_move rfl rfl) ?_
      refine g_v (.free rfl) rfl rfl (qt_move rfl rfl) ?_
      refine g_v (.free rfl) rfl rfl (qt_eql rfl rfl rfl) ?_
      refine g_nil ?_
      refine gk_then (hK26 _ _ ?_)
      refine gc_cond rfl (fun hc2 => ?_) (fun hc2 => ?_)
      · try simp only [decide_eq_true_eq, decide_eq_false_iff_not, Bool.not_eq_true', Bool.not_eq_false', Bool.not_eq_eq_eq_not, Bool.not_true, Bool.not_false, ne_eq, Decidable.not_not, Classical.not_not] at hc2
        refine gc_seq fun K27 hK27 => ?_
        refine gc_region ?_
        refine g_v (.free rfl) rfl rfl (qt_field (z := 0) (off := 3) rfl rfl Try.underlying27 rfl (by kernel_rfl) rfl) ?_
        refine g_v (.free rfl) rfl rfl (qt_loadB (n := 0) rfl rfl Try.underlying22 rfl rfl rfl) ?_
        refine g_v (.free rfl) rfl rfl (qt_move rfl rfl) ?_
        refine g_v (.free rfl) rfl rfl (qt_index rfl rfl rfl ulE1 szE1 (fun w M => lenA_rd h3) (by omega) (by omega)) ?_
        refine g_v (.free rfl) rfl rfl (qt_load1 rfl rfl Try.underlying2 rfl (fun w M => mem_rd M h3) (by omega) (by omega)) ?_
        refine g_op (.free rfl) fun K29 hK29 => ?_
        refine go_slice1 rfl rfl rfl rfl Try.underlying22 ?_
        intro B28
        refine hK29 _ _ ?_
        refine g_op (.free rfl) fun K31 hK31 => ?_
        refine go_two (n := 2) (m := 4) (m' := 3) (σ := Unit) rfl rfl rfl Try.func98 rfl (by decide) rfl rfl rfl (fun z => rfl) (fun R w M => addA_any _ w R _ _ _ [_] _ _ (by first | omega | (simp only [List.length_append, List.length_singleton, List.flatten_append, List.flatten_singleton]; omega)) (by simp only [List.length_append, List.length_replicate, endB_len]) M) ?_
        intro _
        refine hK31 _ _ ?_
        refine g_nil ?_
        refine gk_then (hK27 _ _ ?_)
        rw [arr_snoc]
        refine gc_region ?_
        refine g_v (.free rfl) rfl rfl (qt_move rfl rfl) ?_
        refine g_v (.free rfl) rfl rfl (qt_loadS (n := 0) rfl rfl Try.underlying27 rfl (by kernel_rfl) rfl) ?_
        refine g_v (.free rfl) rfl rfl (qt_makeFBr rfl rfl) ?_
        refine g_op (.free rfl) fun K33 hK33 => ?_
        refine go_oneS (n := 3) (σ := Option Addr × Nat) rfl rfl rfl Try.func99 rfl (by decide) rfl rfl (fun R w M => delF_any _ w R _ _ _ _ (idB c) (fun w' hb x hx => callsV_f (bnd := [_]) (vs := [_]) (caps := []) Try.func100 rfl (by decide) (isIdentity_any w' _ c x (rdC_below hb h0) hS (by obtain ⟨j, hj, rfl, _⟩ := mem_homTo.1 hx; omega) (by obtain ⟨j, hj, rfl, _⟩ := mem_homTo.1 hx; omega))) (by omega) M) ?_
        intro ⟨sa, sq⟩
        refine hK33 _ _ ?_
        refine g_v (.free rfl) rfl rfl (qt_assign rfl rfl) ?_
        refine g_nil ?_
        refine gk_then (hK25 _ _ ?_)
        refine gc_region ?_
        refine g_v (.free rfl) rfl rfl (qt_move rfl rfl) ?_
        refine g_op (.free rfl) fun K35 hK35 => ?_
        refine go_two (n := 2) (m := 3) (m' := 2) (σ := Unit) rfl rfl rfl Try.func98 rfl (by decide) rfl rfl rfl (fun z => rfl) (fun R w M => addA_any _ w R _ _ _ _ _ _ (by first | omega | (simp only [List.length_append, List.length_singleton, List.flatten_append, List.flatten_singleton]; omega)) (by simp only [List.length_append, List.length_replicate, endB_len]) M) ?_
        intro _
        refine hK35 _ _ ?_
        refine g_nil ?_
        refine gk_block ?_
        refine gk_then (hK20 _ _ ?_)
        refine gc_region ?_
        refine g_v (.free rfl) rfl rfl (qt_add rfl rfl rfl (by omega)) ?_
        refine g_v (.free rfl) rfl rfl (qt_move rfl rfl) ?_
        refine g_nil ?_
        rw [arr_snoc, ownA_eq hc2, blkY_eq hc2]
        refine gk_then (gk_take 3 ?_)
        refine gk_sub ?hs_36 (hKL17 (l + 1) ?hi_36 ?hm_36)
        case hs_36 => exact (sub_cons rfl (sub_cons rfl (sub_cons rfl (sub_cons rfl (sub_cons rfl (sub_cons rfl (sub_cons rfl (sub_cons rfl (sub_cons rfl (sub_cons rfl (sub_cons rfl (sub_cons rfl (sub_cons rfl sub_nil)))))))))))))
        case hi_36 => omega
        case hm_36 => omega
      · try simp only [decide_eq_true_eq, decide_eq_false_iff_not, Bool.not_eq_true', Bool.not_eq_false', Bool.not_eq_eq_eq_not, Bool.not_true, Bool.not_false, ne_eq, Decidable.not_not, Classical.not_not] at hc2
        refine gc_skip ?_
        refine gk_then (hK25 _ _ ?_)
        refine gc_region ?_
        refine g_v (.free rfl) rfl rfl (qt_move rfl rfl) ?_
        refine g_op (.free rfl) fun K38 hK38 => ?_
        refine go_two (n := 2) (m := 3) (m' := 2) (σ := Unit) rfl rfl rfl Try.func98 rfl (by decide) rfl rfl rfl (fun z => rfl) (fun R w M => addA_any _ w R _ _ _ _ _ _ (by first | omega | (simp only [List.length_append, List.length_singleton, List.flatten_append, List.flatten_singleton]; omega)) (by simp only [List.length_append, List.length_replicate, endB_len]) M) ?_
        intro _
        refine hK38 _ _ ?_
        refine g_nil ?_
        refine gk_block ?_
        refine gk_then (hK20 _ _ ?_)
        refine gc_region ?_
        refine g_v (.free rfl) rfl rfl (qt_add rfl rfl rfl (by omega)) ?_
        refine g_v (.free rfl) rfl rfl (qt_move rfl rfl) ?_
        refine g_nil ?_
        rw [arr_snoc, blkY_ne hc2]
        refine gk_then (gk_take 3 ?_)
        refine gk_sub ?hs_39 (hKL17 (l + 1) ?hi_39 ?hm_39)
        case hs_39 => exact (sub_cons rfl (sub_cons rfl (sub_cons rfl (sub_cons rfl (sub_cons rfl (sub_cons rfl (sub_cons rfl (sub_cons rfl (sub_cons rfl (sub_cons rfl (sub_cons rfl (sub_cons rfl (sub_cons rfl sub_nil)))))))))))))
        case hi_39 => omega
        case hm_39 => omega
    · try simp only [decide_eq_true_eq, decide_eq_false_iff_not, Bool.not_eq_true', Bool.not_eq_false', Bool.not_eq_eq_eq_not, Bool.not_true, Bool.not_false, ne_eq, Decidable.not_not, Classical.not_not] at hc1
      refine gc_exit ?_
      refine gk_then_exit ?_
      refine gk_then_exit ?_
      refine gk_block_hit ?_
      refine gk_block ?_
      refine gk_then (hK14 _ _ ?_)
      refine gc_region ?_
      refine g_v (.free rfl) rfl rfl (qt_add rfl rfl rfl (by omega)) ?_
      refine g_v (.free rfl) rfl rfl (qt_move rfl rfl) ?_
      refine g_nil ?_
      obtain rfl : l = c.e.length := by omega
      refine gk_then (gk_take 3 ?_)
      refine gk_sub ?hs_40 (hKL11 (k + 1) ?hi_40 ?hm_40)
      case hs_40 => exact (sub_cons rfl (sub_cons rfl (sub_cons rfl (sub_cons rfl (sub_cons rfl (sub_cons rfl (sub_cons rfl (sub_cons rfl sub_nil))))))))
      case hi_40 => omega
      case hm_40 => omega
  · try simp only [decide_eq_true_eq, decide_eq_false_iff_not, Bool.not_eq_true', Bool.not_eq_false', Bool.not_eq_eq_eq_not, Bool.not_true, Bool.not_false, ne_eq, Decidable.not_not, Classical.not_not] at hc0
    refine gc_exit ?_
    refine gk_then_exit ?_
    refine gk_then_exit ?_
    refine gk_block_hit ?_
    refine gk_then (hK9 _ _ ?_)
    refine gc_seq fun K41 hK41 => ?_
    refine gc_unarr (n := 2) rfl fun a q b r => ?_
    try simp only [List.nil_append, List.cons_append, List.append_assoc, List.set_cons_succ, List.set_cons_zero]
    refine gc_region ?_
    refine g_v (.free rfl) rfl rfl (qt_loadS (n := 2) rfl rfl Try.underlying90 rfl (by kernel_rfl) rfl) ?_
    refine g_op (.free rfl) fun K42 hK42 => ?_
    refine go_storeS (n := 1) rfl rfl rfl rfl (by kernel_rfl) rfl rfl rfl ?_
    refine hK42 _ _ ?_
    refine g_nil ?_
    refine gk_then (hK41 _ _ ?_)
    refine gc_ret ?_
    refine ret_S (n := 1) rfl rfl Try.underlying90 rfl (by kernel_rfl) rfl (fun w M => ?_)
    obtain rfl : k = c.e.length := by omega
    exact retArr_star (mem_pick (n := 4) (mem_pick (n := 4) M rfl) rfl)
end

section
noncomputable def esO (c : Cat) : List Int := endB 0 [cntU c.e.length]
noncomputable def esA (c : Cat) : List Int := endB 0 (blkX c c.e.length)
noncomputable def cK (c : Cat) : Nat → Nat
  | 0 => 1
  | 1 => cntE 1 (esO c) (esO c).length
  | _ => cntE (cntE 1 (esO c) (esO c).length) (esA c) (esA c).length
noncomputable def esK (c : Cat) : Nat → List Int
  | 0 => esO c
  | _ => esA c
theorem cK_next (c : Cat) {k : Nat} (h : k < 2) : cntE (cK c k) (esK c k) (esK c k).length = cK c (k + 1) := by
  rcases (show k = 0 ∨ k = 1 by omega) with rfl | rfl <;> rfl
theorem cK_1 (c : Cat) : cK c 1 = min (fac c.e.length) 5001 := by
  show cntE 1 (esO c) (esO c).length = _
  have h := cnt_arr (bs := [cntU c.e.length]) (P := 1) (Nat.le_refl _)
  rw [show min 1 5001 = 1 from rfl] at h
  unfold esO
  rw [h, facB_one, Nat.one_mul, cntU_len]
theorem cK_2 {c : Cat} (hS : ShapeP c) : cK c 2 = min (prX c c.e.length) 5001 := by
  show cntE (cK c 1) (esA c) (esA c).length = _
  rw [cK_1]; unfold esA
  rw [cnt_arr (fac_pos _), facB_X hS _ (Nat.le_refl _)]
theorem cK_le (c : Cat) : ∀ k, cK c k ≤ 5001
  | 0 => (by decide : (1 : Nat) ≤ 5001)
  | 1 => cntE_le (by decide) _
  | _ + 2 => cntE_le (cntE_le (by decide) _) _
theorem end_at {bs : List (List Int)} {k : Nat} (hk : k < (endB 0 bs).length) : (k : Int) < at0 (endB 0 bs) (k : Int) ∧ at0 (endB 0 bs) (k : Int) ≤ (bs.flatten.length : Int) := by
  have h := endB_at bs 0 k hk
  rw [at0_nat]
  rw [Nat.zero_add, Nat.zero_add] at h
  exact h
theorem cntE_next {m : Nat} {es : List Int} {k : Nat} (h : (k : Int) < at0 es (k : Int)) : min (((cntE m es k : Nat) : Int) * (at0 es (k : Int) - (k : Int))) 5001 = ((cntE m es (k + 1) : Nat) : Int) := by
  have e : at0 es (k : Int) - (k : Int) = (((at0 es (k : Int) - (k : Int)).toNat : Nat) : Int) := by omega
  rw [e, cntE]
  generalize (at0 es (k : Int) - (k : Int)).toNat = z
  rw [← Int.natCast_mul]
  omega
theorem mul_rng {a : Nat} {z : Int} (ha : a ≤ 5001) (h0 : 0 ≤ z) (h1 : z ≤ 100000) : 0 ≤ (a : Int) * z ∧ (a : Int) * z ≤ 500100000 := by
  obtain ⟨n, rfl⟩ := Int.eq_ofNat_of_zero_le h0
  rw [← Int.natCast_mul]
  have : a * n ≤ 5001 * 100000 := Nat.mul_le_mul ha (by omega)
  omega

set_option maxHeartbeats 1000000 in
set_option maxRecDepth 100000 in
theorem cntN_any (w : World) (v : Value) (c : Cat) (h : RdC w v c) (hS : ShapeP c) :
    Calls Try.prog 51 #[v] w (RetI w ((cK c 2 : Nat) : Int)) := by
  have h0 := h
  obtain ⟨va, vb, vc, vd, ve, vf, vg, vh, rfl, h1, h2, h3, h4, _⟩ := h.lists
  have hn40 := hS.n40; have htl := hS.tl; have hel := hS.el; have hob0 := hS.ob0; have hob8 := hS.ob8; have hml := hS.ml
  have hon : c.ob = ((c.e.length : Nat) : Int) := by omega
  have hcl := cntU_len c.e.length
  have hbx := blkX_len (c := c) hn40 (by omega) c.e.length
  have hlo : (endB 0 [cntU c.e.length]).length = c.e.length := by rw [endB_len, List.flatten_singleton, hcl]
  have hla : (endB 0 (blkX c c.e.length)).length = (blkX c c.e.length).flatten.length := endB_len _ _
  go_enter Try.func51, Try.ntmps51
  refine gc_enter (N := 39) rfl (look_cons (k := 0) rfl (look_nil _)) ?_
  refine gc_seq fun K1 hK1 => ?_
  refine gc_region ?_
  refine g_op (.free rfl) fun K3 hK3 => ?_
  refine go_box rfl rfl rfl rfl rfl ?_
  intro B2
  refine hK3 _ _ ?_
  refine g_v (.free rfl) rfl rfl (qt_assign rfl rfl) ?_
  refine g_nil ?_
  refine gk_then (hK1 _ _ ?_)
  refine gc_seq fun K4 hK4 => ?_
  refine gc_region ?_
  refine g_v (.free rfl) rfl rfl (qt_loadS (n := 0) rfl rfl Try.underlying27 rfl (by kernel_rfl) rfl) ?_
  refine g_op (.free rfl) fun K6 hK6 => ?_
  refine go_callArr rfl rfl rfl Try.func81 rfl (by decide) rfl (fun w M => objOrd_any w _ _ (mem_rdC M h0) (by first | assumption | omega)) ?_
  intro aa5 aq5 ab5 ar5
  refine hK6 _ _ ?_
  refine g_op (.free rfl) fun K8 hK8 => ?_
  refine go_alloc (z := (.agg #[.slice none 0 0, .slice none 0 0])) (cs := [.slice none 0 0, .slice none 0 0]) rfl rfl rfl (fun w => by kernel_rfl) rfl ?_
  intro B7
  refine hK8 _ _ ?_
  refine g_op (.free rfl) fun K9 hK9 => ?_
  refine go_storeS (n := 3) rfl rfl rfl rfl (by kernel_rfl) rfl rfl rfl ?_
  refine hK9 _ _ ?_
  refine g_nil ?_
  refine gk_then (hK4 _ _ ?_)
  refine gc_seq fun K10 hK10 => ?_
  refine gc_region ?_
  refine g_v (.free rfl) rfl rfl (qt_assign rfl rfl) ?_
  refine g_nil ?_
  refine gk_then (hK10 _ _ ?_)
  refine gc_seq fun K11 hK11 => ?_
  refine gc_seq fun K12 hK12 => ?_
  try simp only [List.nil_append, List.cons_append, List.append_assoc, List.set_cons_succ, List.set_cons_zero]
  refine ga_start _ (fun w M => M) ?_
  refine ga_v 0 rfl (by kernel_rfl) (by kernel_rfl) (by kernel_rfl) (.free rfl) rfl rfl (qt_loadS (n := 3) rfl rfl Try.underlying90 rfl (by kernel_rfl) rfl) (fun _ _ _ h => h) ?_
  refine ga_v 1 rfl (by kernel_rfl) (by kernel_rfl) (by kernel_rfl) (.free rfl) rfl rfl (qt_loadS (n := 0) rfl rfl Try.underlying27 rfl (by kernel_rfl) rfl) (fun _ _ _ h => h) ?_
  refine ga_v 2 rfl (by kernel_rfl) (by kernel_rfl) (by kernel_rfl) (.free rfl) rfl rfl (qt_field (z := 0) (off := 0) rfl rfl Try.underlying90 rfl (by kernel_rfl) rfl) (fun _ _ _ h => h) ?_
  refine ga_v 3 rfl (by kernel_rfl) (by kernel_rfl) (by kernel_rfl) (.free rfl) rfl rfl (qt_loadB (n := 3) rfl rfl Try.underlying22 rfl rfl rfl) (fun _ _ _ h => h) ?_
  refine ga_v 7 rfl (by kernel_rfl) (by kernel_rfl) (by kernel_rfl) (.free rfl) rfl rfl (qt_move rfl rfl) (fun _ _ _ h => h) ?_
  refine ga_op 4 (by kernel_rfl) rfl (.free rfl) fun K14 hK14 => ?_
  refine go_callArr rfl rfl rfl Try.func82 rfl (by decide) rfl (fun w M => arrOrd_any w _ _ (mem_rdC M h0) (by first | assumption | omega) _ ((mem_own1 (n := 1) M rfl).rd)) ?_
  intro aa13 aq13 ab13 ar13
  refine hK14 _ _ (fun w M => (mem_take 4 M :)) ?_
  refine ga_op 5 (by kernel_rfl) rfl (.free rfl) fun K16 hK16 => ?_
  refine go_sliceA2 rfl rfl rfl rfl rfl Try.underlying93 ?_
  intro B15
  refine hK16 _ _ (fun w M => (mem_take 4 M :)) ?_
  refine ga_v 6 rfl (by kernel_rfl) (by kernel_rfl) (by kernel_rfl) (.free rfl) rfl rfl (qt_len (n := 2) rfl rfl ulEA (fun w M => ⟨_, _, rfl⟩)) (fun _ _ _ h => h) ?_
  refine ga_done (by kernel_rfl) ?_
  refine gk_then (hK12 _ _ ?_)
  refine gc_block ?_
  try simp only [List.nil_append, List.cons_append, List.append_assoc, List.set_cons_succ, List.set_cons_zero]
  refine gc_loop ([(0, _), (1, _), (2, _), (3, _), (16, _), (17, _)] : Env) (fun s : Nat => (fun (k : Nat) => ([(4, .int .i64 ((cK c k : Nat) : Int)), (18, .int .i64 (k : Int))] : Env)) s) (fun s : Nat => (fun (k : Nat) => ([] : List (Nat × Itm))) s) (fun s : Nat => (fun (k : Nat) => k ≤ 2) s) (fun s : Nat => (fun (k : Nat) => 2 - k) s) (0) (sub_cons rfl (sub_cons rfl (sub_cons rfl (sub_cons rfl (sub_cons rfl (sub_cons rfl (sub_cons rfl (sub_cons rfl sub_nil)))))))) rfl (Nat.zero_le _) ?_
  rintro k hinv KL17 hKL17
  simp only [updL, List.foldl_cons, List.foldl_nil, List.set_cons_succ, List.set_cons_zero, List.cons_append, List.nil_append] at hinv hKL17 ⊢
  have hk := hinv
  refine gc_seq fun K18 hK18 => ?_
  refine gc_region ?_
  refine g_v (.free rfl) rfl rfl (qt_lss rfl rfl rfl) ?_
  refine g_nil ?_
  refine gk_then (hK18 _ _ ?_)
  refine gc_seq fun K19 hK19 => ?_
  refine gc_cond rfl (fun hc0 => ?_) (fun hc0 => ?_)
  · try simp only [decide_eq_true_eq, decide_eq_false_iff_not, Bool.not_eq_true', Bool.not_eq_false', Bool.not_eq_eq_eq_not, Bool.not_true, Bool.not_false, ne_eq, Decidable.not_not, Classical.not_not] at hc0
    refine gc_skip ?_
    refine gk_then (hK19 _ _ ?_)
    refine gc_seq fun K20 hK20 => ?_
    refine gc_block ?_
    refine gc_seq fun K21 hK21 => ?_
    rcases (show k = 0 ∨ k = 1 by omega) with hk0 | hk1
    · skip
      have hes : esK c k = endB 0 [cntU c.e.length] := by rw [hk0]; rfl
      have hel2 : (endB 0 [cntU c.e.length]).length = (esK c k).length := by rw [hes]
      have hpos : ∀ j : Nat, j < (endB 0 [cntU c.e.length]).length → (j : Int) < at0 (endB 0 [cntU c.e.length]) (j : Int) ∧ at0 (endB 0 [cntU c.e.length]) (j : Int) ≤ 100000 := fun j hj => by have h := end_at hj; have h2 : (endB 0 [cntU c.e.length]).length ≤ 100000 := (by omega); exact ⟨h.1, Int.le_trans h.2 (by rw [← endB_len _ 0]; omega)⟩
      have hmr := fun (j : Nat) (hj : j < (endB 0 [cntU c.e.length]).length) => mul_rng (a := cntE (cK c k) (esK c k) j) (z := at0 (endB 0 [cntU c.e.length]) (j : Int) - (j : Int)) (cntE_le (cK_le c k) j) (by have := hpos j hj; omega) (by have := hpos j hj; omega)
      have hnx : ∀ j : Nat, j < (endB 0 [cntU c.e.length]).length → min (((cntE (cK c k) (esK c k) j : Nat) : Int) * (at0 (endB 0 [cntU c.e.length]) (j : Int) - (j : Int))) 5001 = ((cntE (cK c k) (esK c k) (j + 1) : Nat) : Int) := fun j hj => by have h := (hpos j hj).1; rw [← hes] at h ⊢; exact cntE_next h
      refine gc_region ?_
      refine g_v (.free rfl) rfl rfl (qt_indexA 0 rfl rfl rfl Try.underlying93 (by omega) (by decide)) ?_
      refine g_v (.free rfl) rfl rfl (qt_loadP (n := 6) (z := 2) rfl rfl Try.underlying90 rfl (by kernel_rfl) rfl (by first | decide | exact Nat.le_refl _ | simp)) ?_
      refine g_op (.free rfl) fun K23 hK23 => ?_
      refine go_alloc (z := (.agg #[.slice none 0 0, .slice none 0 0])) (cs := [.slice none 0 0, .slice none 0 0]) rfl rfl rfl (fun w => by kernel_rfl) rfl ?_
      intro B22
      refine hK23 _ _ ?_
      refine g_op (.free rfl) fun K24 hK24 => ?_
      refine go_storeS (n := 7) rfl rfl rfl rfl (by kernel_rfl) rfl rfl rfl ?_
      refine hK24 _ _ ?_
      refine g_nil ?_
      refine gk_then (hK21 _ _ ?_)
      refine gc_seq fun K25 hK25 => ?_
      refine gc_region ?_
      refine g_v (.free rfl) rfl rfl (qt_field (z := 0) (off := 1) rfl rfl Try.underlying90 rfl (by kernel_rfl) rfl) ?_
      refine g_v (.free rfl) rfl rfl (qt_loadB (n := 7) rfl rfl Try.underlying88 rfl rfl rfl) ?_
      refine g_v (.free rfl) rfl rfl (qt_len rfl rfl ul_elN (fun w M => lenV_G (mem_ownG (n := 2) rfl M))) ?_
      refine g_v (.free rfl) rfl rfl (qt_move rfl rfl) ?_
      refine g_nil ?_
      refine gk_then (hK25 _ _ ?_)
      refine gc_block ?_
      try simp only [List.nil_append, List.cons_append, List.append_assoc, List.set_cons_succ, List.set_cons_zero]
      refine gc_loop ([(0, _), (1, _), (2, _), (3, _), (6, _), (16, _), (17, _), (18, _), (19, _), (23, _), (24, _)] : Env) (fun s : Nat => (fun (j : Nat) => ([(4, .int .i64 ((cntE (cK c k) (esK c k) j : Nat) : Int)), (25, .int .i64 (j : Int))] : Env)) s) (fun s : Nat => (fun (j : Nat) => ([] : List (Nat × Itm))) s) (fun s : Nat => (fun (j : Nat) => j ≤ (esK c k).length) s) (fun s : Nat => (fun (j : Nat) => (esK c k).length - j) s) (0) (sub_cons rfl (sub_cons rfl (sub_cons rfl (sub_cons rfl (sub_cons rfl (sub_cons rfl (sub_cons rfl (sub_cons rfl (sub_cons rfl (sub_cons rfl (sub_cons rfl (sub_cons rfl (sub_cons rfl sub_nil))))))))))))) rfl (Nat.zero_le _) ?_
      rintro j hinv KL26 hKL26
      simp only [updL, List.foldl_cons, List.foldl_nil, List.set_cons_succ, List.set_cons_zero, List.cons_append, List.nil_append] at hinv hKL26 ⊢
      have hj := hinv
      refine gc_seq fun K27 hK27 => ?_
      refine gc_region ?_
      refine g_v (.free rfl) rfl rfl (qt_lss rfl rfl rfl) ?_
      refine g_nil ?_
      refine gk_then (hK27 _ _ ?_)
      refine gc_seq fun K28 hK28 => ?_
      refine gc_cond rfl (fun hc1 => ?_) (fun hc1 => ?_)
      · try simp only [decide_eq_true_eq, decide_eq_false_iff_not, Bool.not_eq_true', Bool.not_eq_false', Bool.not_eq_eq_eq_not, Bool.not_true, Bool.not_false, ne_eq, Decidable.not_not, Classical.not_not] at hc1
        refine gc_skip ?_
        refine gk_then (hK28 _ _ ?_)
        refine gc_seq fun K29 hK29 => ?_
        refine gc_block ?_
        refine gc_seq fun K30 hK30 => ?_
        refine gc_region ?_
        refine g_v (.free rfl) rfl rfl (qt_move rfl rfl) ?_
        refine g_v (.free rfl) rfl rfl (qt_index rfl rfl rfl ul_elN sz_elN (fun w M => lenA_G (mem_ownG (n := 2) rfl M)) (by omega) (by omega)) ?_
        refine g_v (.free rfl) rfl rfl (qt_loadG elN rfl rfl Try.underlying3 rfl (fun w M => mem_ownG (n := 2) rfl M) (by omega) (by omega)) ?_
        refine g_v (.free rfl) rfl rfl (qt_assign rfl rfl) ?_
        refine g_v (.free rfl) rfl rfl (qt_assign rfl rfl) ?_
        refine g_nil ?_
        refine gk_then (hK30 _ _ ?_)
        simp only [show ∀ xs i, elN.enc (getE elN xs i) = Value.int .i64 (at0 xs i) from fun _ _ => rfl]
        have hm2 := hmr j (by omega)
        have hj2 := hpos j (by omega)
        have hj3 := hm2.1; have hj4 := hm2.2
        refine gc_region ?_
        refine g_v (.free rfl) rfl rfl (qt_move rfl rfl) ?_
        refine g_v (.free rfl) rfl rfl (qt_move rfl rfl) ?_
        refine g_v (.free rfl) rfl rfl (qt_move rfl rfl) ?_
        refine g_v (.free rfl) rfl rfl (qt_sub rfl rfl rfl (by omega)) ?_
        refine g_v (.free rfl) rfl rfl (qt_mul rfl rfl rfl (by omega)) ?_
        refine g_v (.free rfl) rfl rfl (qt_min2 rfl rfl rfl) ?_
        refine g_v (.free rfl) rfl rfl (qt_assign rfl rfl) ?_
        refine g_nil ?_
        refine gk_block ?_
        refine gk_then (hK29 _ _ ?_)
        refine gc_region ?_
        refine g_v (.free rfl) rfl rfl (qt_add rfl rfl rfl (by omega)) ?_
        refine g_v (.free rfl) rfl rfl (qt_move rfl rfl) ?_
        refine g_nil ?_
        rw [hnx j (by omega)]
        refine gk_then (gk_take 8 ?_)
        refine gk_sub ?hs_31 (hKL26 (j + 1) ?hi_31 ?hm_31)
        case hs_31 => exact (sub_cons rfl (sub_cons rfl (sub_cons rfl (sub_cons rfl (sub_cons rfl (sub_cons rfl (sub_cons rfl (sub_cons rfl (sub_cons rfl (sub_cons rfl (sub_cons rfl (sub_cons rfl (sub_cons rfl sub_nil)))))))))))))
        case hi_31 => omega
        case hm_31 => omega
      · try simp only [decide_eq_true_eq, decide_eq_false_iff_not, Bool.not_eq_true', Bool.not_eq_false', Bool.not_eq_eq_eq_not, Bool.not_true, Bool.not_false, ne_eq, Decidable.not_not, Classical.not_not] at hc1
        refine gc_exit ?_
        refine gk_then_exit ?_
        refine gk_then_exit ?_
        refine gk_block_hit ?_
        refine gk_block ?_
        refine gk_then (hK20 _ _ ?_)
        refine gc_region ?_
        refine g_v (.free rfl) rfl rfl (qt_add rfl rfl rfl (by omega)) ?_
        refine g_v (.free rfl) rfl rfl (qt_move rfl rfl) ?_
        refine g_nil ?_
        obtain rfl : j = (esK c k).length := by omega
        rw [cK_next c (by omega)]
        refine gk_then (gk_take 7 ?_)
        refine gk_sub ?hs_32 (hKL17 (k + 1) ?hi_32 ?hm_32)
        case hs_32 => exact (sub_cons rfl (sub_cons rfl (sub_cons rfl (sub_cons rfl (sub_cons rfl (sub_cons rfl (sub_cons rfl (sub_cons rfl sub_nil))))))))
        case hi_32 => omega
        case hm_32 => omega
    · skip
      have hes : esK c k = endB 0 (blkX c c.e.length) := by rw [hk1]; rfl
      have hel2 : (endB 0 (blkX c c.e.length)).length = (esK c k).length := by rw [hes]
      have hpos : ∀ j : Nat, j < (endB 0 (blkX c c.e.length)).length → (j : Int) < at0 (endB 0 (blkX c c.e.length)) (j : Int) ∧ at0 (endB 0 (blkX c c.e.length)) (j : Int) ≤ 100000 := fun j hj => by have h := end_at hj; have h2 : (endB 0 (blkX c c.e.length)).length ≤ 100000 := (by omega); exact ⟨h.1, Int.le_trans h.2 (by rw [← endB_len _ 0]; omega)⟩
      have hmr := fun (j : Nat) (hj : j < (endB 0 (blkX c c.e.length)).length) => mul_rng (a := cntE (cK c k) (esK c k) j) (z := at0 (endB 0 (blkX c c.e.length)) (j : Int) - (j : Int)) (cntE_le (cK_le c k) j) (by have := hpos j hj; omega) (by have := hpos j hj; omega)
      have hnx : ∀ j : Nat, j < (endB 0 (blkX c c.e.length)).length → min (((cntE (cK c k) (esK c k) j : Nat) : Int) * (at0 (endB 0 (blkX c c.e.length)) (j : Int) - (j : Int))) 5001 = ((cntE (cK c k) (esK c k) (j + 1) : Nat) : Int) := fun j hj => by have h := (hpos j hj).1; rw [← hes] at h ⊢; exact cntE_next h
      refine gc_region ?_
      refine g_v (.free rfl) rfl rfl (qt_indexA 1 rfl rfl rfl Try.underlying93 (by omega) (by decide)) ?_
      refine g_v (.free rfl) rfl rfl (qt_loadP (n := 6) (z := 2) rfl rfl Try.underlying90 rfl (by kernel_rfl) rfl (by first | decide | exact Nat.le_refl _ | simp)) ?_
      refine g_op (.free rfl) fun K34 hK34 => ?_
      refine go_alloc (z := (.agg #[.slice none 0 0, .slice none 0 0])) (cs := [.slice none 0 0, .slice none 0 0]) rfl rfl rfl (fun w => by kernel_rfl) rfl ?_
      intro B33
      refine hK34 _ _ ?_
      refine g_op (.free rfl) fun K35 hK35 => ?_
      refine go_storeS (n := 7) rfl rfl rfl rfl (by kernel_rfl) rfl rfl rfl ?_
      refine hK35 _ _ ?_
      refine g_nil ?_
      refine gk_then (hK21 _ _ ?_)
      refine gc_seq fun K36 hK36 => ?_
      refine gc_region ?_
      refine g_v (.free rfl) rfl rfl (qt_field (z := 0) (off := 1) rfl rfl Try.underlying90 rfl (by kernel_rfl) rfl) ?_
      refine g_v (.free rfl) rfl rfl (qt_loadB (n := 7) rfl rfl Try.underlying88 rfl rfl rfl) ?_
      refine g_v (.free rfl) rfl rfl (qt_len rfl rfl ul_elN (fun w M => lenV_G (mem_ownG (n := 5) rfl M))) ?_
      refine g_v (.free rfl) rfl rfl (qt_move rfl rfl) ?_
      refine g_nil ?_
      refine gk_then (hK36 _ _ ?_)
      refine gc_block ?_
      try simp only [List.nil_append, List.cons_append, List.append_assoc, List.set_cons_succ, List.set_cons_zero]
      refine gc_loop ([(0, _), (1, _), (2, _), (3, _), (6, _), (16, _), (17, _), (18, _), (19, _), (23, _), (24, _)] : Env) (fun s : Nat => (fun (j : Nat) => ([(4, .int .i64 ((cntE (cK c k) (esK c k) j : Nat) : Int)), (25, .int .i64 (j : Int))] : Env)) s) (fun s : Nat => (fun (j : Nat) => ([] : List (Nat × Itm))) s) (fun s : Nat => (fun (j : Nat) => j ≤ (esK c k).length) s) (fun s : Nat => (fun (j : Nat) => (esK c k).length - j) s) (0) (sub_cons rfl (sub_cons rfl (sub_cons rfl (sub_cons rfl (sub_cons rfl (sub_cons rfl (sub_cons rfl (sub_cons rfl (sub_cons rfl (sub_cons rfl (sub_cons rfl (sub_cons rfl (sub_cons rfl sub_nil))))))))))))) rfl (Nat.zero_le _) ?_
      rintro j hinv KL37 hKL37
      simp only [updL, List.foldl_cons, List.foldl_nil, List.set_cons_succ, List.set_cons_zero, List.cons_append, List.nil_append] at hinv hKL37 ⊢
      have hj := hinv
      refine gc_seq fun K38 hK38 => ?_
      refine gc_region ?_
      refine g_v (.free rfl) rfl rfl (qt_lss rfl rfl rfl) ?_
      refine g_nil ?_
      refine gk_then (hK38 _ _ ?_)
      refine gc_seq fun K39 hK39 => ?_
      refine gc_cond rfl (fun hc2 => ?_) (fun hc2 => ?_)
      · try simp only [decide_eq_true_eq, decide_eq_false_iff_not, Bool.not_eq_true', Bool.not_eq_false', Bool.not_eq_eq_eq_not, Bool.not_true, Bool.not_false, ne_eq, Decidable.not_not, Classical.not_not] at hc2
        refine gc_skip ?_
        refine gk_then (hK39 _ _ ?_)
        refine gc_seq fun K40 hK40 => ?_
        refine gc_block ?_
        refine gc_seq fun K41 hK41 => ?_
        refine gc_region ?_
        refine g_v (.free rfl) rfl rfl (qt_move rfl rfl) ?_
        refine g_v (.free rfl) rfl rfl (qt_index rfl rfl rfl ul_elN sz_elN (fun w M => lenA_G (mem_ownG (n := 5) rfl M)) (by omega) (by omega)) ?_
        refine g_v (.free rfl) rfl rfl (qt_loadG elN rfl rfl Try.underlying3 rfl (fun w M => mem_ownG (n := 5) rfl M) (by omega) (by omega)) ?_
        refine g_v (.free rfl) rfl rfl (qt_assign rfl rfl) ?_
        refine g_v (.free rfl) rfl rfl (qt_assign rfl rfl) ?_
        refine g_nil ?_
        refine gk_then (hK41 _ _ ?_)
        simp only [show ∀ xs i, elN.enc (getE elN xs i) = Value.int .i64 (at0 xs i) from fun _ _ => rfl]
        have hm2 := hmr j (by omega)
        have hj2 := hpos j (by omega)
        have hj3 := hm2.1; have hj4 := hm2.2
        refine gc_region ?_
        refine g_v (.free rfl) rfl rfl (qt_move rfl rfl) ?_
        refine g_v (.free rfl) rfl rfl (qt_move rfl rfl) ?_
        refine g_v (.free rfl) rfl rfl (qt_move rfl rfl) ?_
        refine g_v (.free rfl) rfl rfl (qt_sub rfl rfl rfl (by omega)) ?_
        refine g_v (.free rfl) rfl rfl (qt_mul rfl rfl rfl (by omega)) ?_
        refine g_v (.free rfl) rfl rfl (qt_min2 rfl rfl rfl) ?_
        refine g_v (.free rfl) rfl rfl (qt_assign rfl rfl) ?_
        refine g_nil ?_
        refine gk_block ?_
        refine gk_then (hK40 _ _ ?_)
        refine gc_region ?_
        refine g_v (.free rfl) rfl rfl (qt_add rfl rfl rfl (by omega)) ?_
        refine g_v (.free rfl) rfl rfl (qt_move rfl rfl) ?_
        refine g_nil ?_
        rw [hnx j (by omega)]
        refine gk_then (gk_take 8 ?_)
        refine gk_sub ?hs_42 (hKL37 (j + 1) ?hi_42 ?hm_42)
        case hs_42 => exact (sub_cons rfl (sub_cons rfl (sub_cons rfl (sub_cons rfl (sub_cons rfl (sub_cons rfl (sub_cons rfl (sub_cons rfl (sub_cons rfl (sub_cons rfl (sub_cons rfl (sub_cons rfl (sub_cons rfl sub_nil)))))))))))))
        case hi_42 => omega
        case hm_42 => omega
      · try simp only [decide_eq_true_eq, decide_eq_false_iff_not, Bool.not_eq_true', Bool.not_eq_false', Bool.not_eq_eq_eq_not, Bool.not_true, Bool.not_false, ne_eq, Decidable.not_not, Classical.not_not] at hc2
        refine gc_exit ?_
        refine gk_then_exit ?_
        refine gk_then_exit ?_
        refine gk_block_hit ?_
        refine gk_block ?_
        refine gk_then (hK20 _ _ ?_)
        refine gc_region ?_
        refine g_v (.free rfl) rfl rfl (qt_add rfl rfl rfl (by omega)) ?_
        refine g_v (.free rfl) rfl rfl (qt_move rfl rfl) ?_
        refine g_nil ?_
        obtain rfl : j = (esK c k).length := by omega
        rw [cK_next c (by omega)]
        refine gk_then (gk_take 7 ?_)
        refine gk_sub ?hs_43 (hKL17 (k + 1) ?hi_43 ?hm_43)
        case hs_43 => exact (sub_cons rfl (sub_cons rfl (sub_cons rfl (sub_cons rfl (sub_cons rfl (sub_cons rfl (sub_cons rfl (sub_cons rfl sub_nil))))))))
        case hi_43 => omega
        case hm_43 => omega
  · try simp only [decide_eq_true_eq, decide_eq_false_iff_not, Bool.not_eq_true', Bool.not_eq_false', Bool.not_eq_eq_eq_not, Bool.not_true, Bool.not_false, ne_eq, Decidable.not_not, Classical.not_not] at hc0
    refine gc_exit ?_
    refine gk_then_exit ?_
    refine gk_then_exit ?_
    refine gk_block_hit ?_
    refine gk_then (hK11 _ _ ?_)
    refine gc_seq fun K44 hK44 => ?_
    refine gc_region ?_
    refine g_v (.free rfl) rfl rfl (qt_move rfl rfl) ?_
    refine g_v (.free rfl) rfl rfl (qt_assign rfl rfl) ?_
    refine g_nil ?_
    refine gk_then (hK44 _ _ ?_)
    refine gc_ret ?_
    refine ret_1 rfl rfl  (fun w M => ?_)
    obtain rfl : k = 2 := by omega
    exact ⟨rfl, M.1⟩
end

section
theorem tms_step {n i : Nat} (hi : 1 ≤ i) (h : tms n i ≤ 5000) : tms n (i + 1) = tms n i * (i + 1) := by
  obtain ⟨j, rfl⟩ : ∃ j, i = j + 1 := ⟨i - 1, by omega⟩
  rw [tms, if_pos h]
theorem tms_stop {n i k : Nat} (hi : 1 ≤ i) (hk : i ≤ k) (h : 5000 < tms n i) : tms n k = tms n i := by
  have := tms_big h hi (k - i)
  rwa [show i + (k - i) = k by omega] at this
theorem tms_low {n k : Nat} (h : k ≤ 1) : tms n k = tms n 1 := by
  rcases (show k = 0 ∨ k = 1 by omega) with rfl | rfl <;> rfl
theorem tms_le {n : Nat} (hn : n ≤ 500000) : ∀ k, k ≤ 100 → tms n k ≤ 500000
  | 0, _ => hn
  | 1, _ => hn
  | k + 2, h => by
    have ih := tms_le hn (k + 1) (by omega)
    rw [tms]
    by_cases hc : tms n (k + 1) ≤ 5000
    · rw [if_pos hc]
      have : tms n (k + 1) * (k + 2) ≤ 5000 * 100 := Nat.mul_le_mul hc h
      omega
    · rw [if_neg hc]; exact ih
theorem hs_le {c : Cat} (hn : c.s.length ≤ 40) (x y : Nat) : hs c x y ≤ 40 := by
  have := homTo_len c (x : Int) (y : Int) c.s.length
  unfold hs; omega
theorem spY_le {c : Cat} (hn : c.s.length ≤ 40) {x m : Nat} (hm : m ≤ 500000) : ∀ y, spY c x m y ≤ 500000
  | 0 => hm
  | y + 1 => tms_le (spY_le hn hm y) _ (Nat.le_trans (hs_le hn _ _) (by omega))
theorem spX_le {c : Cat} (hn : c.s.length ≤ 40) (he : c.e.length ≤ 8) : ∀ x, spX c x ≤ 500000
  | 0 => tms_le (by omega) _ (by omega)
  | x + 1 => spY_le hn (spX_le hn he x) _
theorem mulN_rng {a i : Nat} (ha : a ≤ 5000) (hi : i ≤ 100) : (a : Int) * (i : Int) ≤ 500000 ∧ 0 ≤ (a : Int) * (i : Int) := by
  rw [← Int.natCast_mul]
  have : a * i ≤ 5000 * 100 := Nat.mul_le_mul ha hi
  omega
theorem hom_pos2 {c : Cat} (hS : ShapeP c) {x : Nat} (hx : x < c.e.length) : 0 < (homTo c (x : Int) (x : Int) c.s.length).length := by
  have h := hS.id x hx
  have ha := h.1
  obtain ⟨j, hj⟩ := Int.eq_ofNat_of_zero_le ha.1
  have hm : at0 c.e (x : Int) ∈ homTo c (x : Int) (x : Int) c.s.length := mem_homTo.2 ⟨j, by have := ha.2; omega, hj, by rw [← hj]; exact h.2.1, by rw [← hj]; exact h.2.2⟩
  exact List.length_pos_of_mem hm
theorem hs_int {c : Cat} (hS : ShapeP c) {x y : Nat} (hx : x < c.e.length) (h : (x : Int) = (y : Int)) : (((homTo c (x : Int) (y : Int) c.s.length).length : Nat) : Int) - 1 = ((hs c x y : Nat) : Int) := by
  obtain rfl : x = y := by omega
  have := hom_pos2 hS hx
  unfold hs; rw [if_pos rfl]; omega
theorem hs_ne {c : Cat} {x y : Nat} (h : ¬ (x : Int) = (y : Int)) : (((homTo c (x : Int) (y : Int) c.s.length).length : Nat) : Int) = ((hs c x y : Nat) : Int) := by
  unfold hs; rw [if_neg (by omega)]; rfl

set_option maxHeartbeats 1000000 in
set_option maxRecDepth 100000 in
theorem tms_any (w : World) (n z : Int) (m k : Nat) (hm : n = (m : Int)) (hk : z = (k : Int)) (hb : m ≤ 500000) (hk4 : k ≤ 100) :
    Calls Try.prog 80 #[.int .i64 n, .int .i64 z] w (RetI w ((tms m k : Nat) : Int)) := by
  subst hm; subst hk
  go_enter Try.func80, Try.ntmps80
  refine gc_enter (N := 19) rfl (look_cons (k := 0) rfl (look_cons (k := 1) rfl (look_nil _))) ?_
  refine gc_seq fun K1 hK1 => ?_
  refine gc_region ?_
  refine g_v (.free rfl) rfl rfl (qt_assign rfl rfl) ?_
  refine g_nil ?_
  refine gk_then (hK1 _ _ ?_)
  refine gc_seq fun K2 hK2 => ?_
  refine gc_seq fun K3 hK3 => ?_
  refine gc_region ?_
  refine g_v (.free rfl) rfl rfl (qt_assign rfl rfl) ?_
  refine g_nil ?_
  refine gk_then (hK3 _ _ ?_)
  refine gc_block ?_
  try simp only [List.nil_append, List.cons_append, List.append_assoc, List.set_cons_succ, List.set_cons_zero]
  refine gc_loop ([(1, _), (4, _)] : Env) (fun s : Nat => (fun (i : Nat) => ([(0, .int .i64 ((tms m i : Nat) : Int)), (5, .int .i64 ((i + 1 : Nat) : Int))] : Env)) s) (fun s : Nat => (fun (i : Nat) => ([] : List (Nat × Itm))) s) (fun s : Nat => (fun (i : Nat) => 1 ≤ i ∧ (i ≤ k ∨ i = 1)) s) (fun s : Nat => (fun (i : Nat) => k + 1 - i) s) (1) (sub_cons rfl (sub_cons rfl (sub_cons rfl (sub_cons rfl sub_nil)))) rfl ⟨Nat.le_refl _, .inr rfl⟩ ?_
  rintro i hinv KL4 hKL4
  simp only [updL, List.foldl_cons, List.foldl_nil, List.set_cons_succ, List.set_cons_zero, List.cons_append, List.nil_append] at hinv hKL4 ⊢
  obtain ⟨hi1, hi⟩ := hinv
  have hle := tms_le hb i (by omega)
  refine gc_seq fun K5 hK5 => ?_
  refine gc_seq fun K6 hK6 => ?_
  refine gc_region ?_
  refine g_v (.free rfl) rfl rfl (qt_move rfl rfl) ?_
  refine g_v (.free rfl) rfl rfl (qt_move rfl rfl) ?_
  refine g_v (.free rfl) rfl rfl (qt_leq rfl rfl rfl) ?_
  refine g_splitv (.free rfl) rfl rfl (qt_move rfl rfl) (fun hs2_3 => ?_) (fun hs2_3 => ?_)
  · try simp only [decide_eq_true_eq, decide_eq_false_iff_not, Bool.not_eq_true', Bool.not_eq_false', Bool.not_eq_eq_eq_not, Bool.not_true, Bool.not_false, ne_eq, Decidable.not_not, Classical.not_not] at hs2_3
    refine g_v (.held _ _ _ rfl rfl rfl) rfl rfl (qt_move rfl rfl) ?_
    refine g_v (.held _ _ _ rfl rfl rfl) rfl rfl (qt_leq rfl rfl rfl) ?_
    refine g_v (.free rfl) rfl rfl (qt_pick_t rfl rfl rfl) ?_
    refine g_nil ?_
    refine gk_then (hK6 _ _ ?_)
    refine gc_cond rfl (fun hc0 => ?_) (fun hc0 => ?_)
    · try simp only [decide_eq_true_eq, decide_eq_false_iff_not, Bool.not_eq_true', Bool.not_eq_false', Bool.not_eq_eq_eq_not, Bool.not_true, Bool.not_false, ne_eq, Decidable.not_not, Classical.not_not] at hc0
      refine gc_skip ?_
      refine gk_then (hK5 _ _ ?_)
      refine gc_seq fun K7 hK7 => ?_
      refine gc_block ?_
      have hmr := mulN_rng (a := tms m i) (i := i + 1) (by omega) (by omega)
      have hm1 := hmr.1; have hm2 := hmr.2
      refine gc_region ?_
      refine g_v (.free rfl) rfl rfl (qt_move rfl rfl) ?_
      refine g_v (.free rfl) rfl rfl (qt_move rfl rfl) ?_
      refine g_v (.free rfl) rfl rfl (qt_mul rfl rfl rfl (by omega)) ?_
      refine g_v (.free rfl) rfl rfl (qt_assign rfl rfl) ?_
      refine g_nil ?_
      refine gk_block ?_
      refine gk_then (hK7 _ _ ?_)
      refine gc_region ?_
      refine g_v (.free rfl) rfl rfl (qt_move rfl rfl) ?_
      refine g_v (.free rfl) rfl rfl (qt_add rfl rfl rfl (by omega)) ?_
      refine g_v (.free rfl) rfl rfl (qt_assign rfl rfl) ?_
      refine g_nil ?_
      rw [show ((tms m i : Nat) : Int) * ((i + 1 : Nat) : Int) = ((tms m (i + 1) : Nat) : Int) from by rw [tms_step hi1 (by omega), Int.natCast_mul]]
      refine gk_then (gk_take 0 ?_)
      refine gk_sub ?hs_8 (hKL4 (i + 1) ?hi_8 ?hm_8)
      case hs_8 => exact (sub_cons rfl (sub_cons rfl (sub_cons rfl (sub_cons rfl sub_nil))))
      case hi_8 => exact ⟨by omega, by omega⟩
      case hm_8 => omega
    · try simp only [decide_eq_true_eq, decide_eq_false_iff_not, Bool.not_eq_true', Bool.not_eq_false', Bool.not_eq_eq_eq_not, Bool.not_true, Bool.not_false, ne_eq, Decidable.not_not, Classical.not_not] at hc0
      refine gc_exit ?_
      refine gk_then_exit ?_
      refine gk_then_exit ?_
      refine gk_block_hit ?_
      refine gk_then (hK2 _ _ ?_)
      refine gc_seq fun K9 hK9 => ?_
      refine gc_region ?_
      refine g_v (.free rfl) rfl rfl (qt_move rfl rfl) ?_
      refine g_v (.free rfl) rfl rfl (qt_assign rfl rfl) ?_
      refine g_nil ?_
      refine gk_then (hK9 _ _ ?_)
      refine gc_ret ?_
      refine ret_1 rfl rfl  (fun w M => ?_)
      rw [tms_stop (k := k) hi1 (by omega) (by omega)]; exact ⟨rfl, M.1⟩
  · try simp only [decide_eq_true_eq, decide_eq_false_iff_not, Bool.not_eq_true', Bool.not_eq_false', Bool.not_eq_eq_eq_not, Bool.not_true, Bool.not_false, ne_eq, Decidable.not_not, Classical.not_not] at hs2_3
    refine g_skip (.not _ _ _ _ rfl rfl rfl rfl) rfl rfl ?_
    refine g_skip (.not _ _ _ _ rfl rfl rfl rfl) rfl rfl ?_
    refine g_v (.free rfl) rfl rfl (qt_pick_f rfl rfl rfl) ?_
    refine g_nil ?_
    refine gk_then (hK6 _ _ ?_)
    refine gc_cond_f rfl ?_
    refine gc_exit ?_
    refine gk_then_exit ?_
    refine gk_then_exit ?_
    refine gk_block_hit ?_
    refine gk_then (hK2 _ _ ?_)
    refine gc_seq fun K10 hK10 => ?_
    refine gc_region ?_
    refine g_v (.free rfl) rfl rfl (qt_move rfl rfl) ?_
    refine g_v (.free rfl) rfl rfl (qt_assign rfl rfl) ?_
    refine g_nil ?_
    refine gk_then (hK10 _ _ ?_)
    refine gc_ret ?_
    refine ret_1 rfl rfl  (fun w M => ?_)
    have hki : k = i ∨ i = 1 ∧ k ≤ 1 := by omega
    rw [show tms m k = tms m i from hki.elim (fun e => by rw [e]) fun e => by rw [e.1]; exact tms_low e.2]
    exact ⟨rfl, M.1⟩

set_option maxHeartbeats 1000000 in
set_option maxRecDepth 100000 in
theorem spCnt_any (w : World) (v : Value) (c : Cat) (h : RdC w v c) (hS : ShapeP c) :
    Calls Try.prog 49 #[v] w (RetI w ((spX c c.e.length : Nat) : Int)) := by
  have h0 := h
  obtain ⟨va, vb, vc, vd, ve, vf, vg, vh, rfl, h1, h2, h3, h4, _⟩ := h.lists
  have hn40 := hS.n40; have htl := hS.tl; have hel := hS.el; have hob0 := hS.ob0; have hob8 := hS.ob8; have hml := hS.ml
  have hon : c.ob = ((c.e.length : Nat) : Int) := by omega
  go_enter Try.func49, Try.ntmps49
  refine gc_enter (N := 36) rfl (look_cons (k := 0) rfl (look_nil _)) ?_
  refine gc_seq fun K1 hK1 => ?_
  refine gc_region ?_
  refine g_op (.free rfl) fun K3 hK3 => ?_
  refine go_box rfl rfl rfl rfl rfl ?_
  intro B2
  refine hK3 _ _ ?_
  refine g_v (.free rfl) rfl rfl (qt_assign rfl rfl) ?_
  refine g_nil ?_
  refine gk_then (hK1 _ _ ?_)
  refine gc_seq fun K4 hK4 => ?_
  refine gc_region ?_
  refine g_v (.free rfl) rfl rfl (qt_field (z := 0) (off := 0) rfl rfl Try.underlying27 rfl (by kernel_rfl) rfl) ?_
  refine g_v (.free rfl) rfl rfl (qt_loadB (n := 0) rfl rfl Try.underlying2 rfl rfl rfl) ?_
  refine g_q (.free rfl) rfl rfl (qt_call rfl Try.func80 rfl (by decide) rfl (fun w M => tms_any w _ _ 1 (_) (rfl) (by first | exact hon | rfl) (by first | assumption | omega) (by first | assumption | omega))) ?_
  refine g_v (.free rfl) rfl rfl (qt_assign rfl rfl) ?_
  refine g_nil ?_
  refine gk_then (hK4 _ _ ?_)
  refine gc_seq fun K5 hK5 => ?_
  refine gc_seq fun K6 hK6 => ?_
  refine gc_region ?_
  refine g_v (.free rfl) rfl rfl (qt_assign rfl rfl) ?_
  refine g_nil ?_
  refine gk_then (hK6 _ _ ?_)
  refine gc_block ?_
  try simp only [List.nil_append, List.cons_append, List.append_assoc, List.set_cons_succ, List.set_cons_zero]
  refine gc_loop ([(0, _), (1, _), (2, _)] : Env) (fun s : Nat => (fun (x : Nat) => ([(3, .int .i64 ((spX c x : Nat) : Int)), (4, .int .i64 (x : Int))] : Env)) s) (fun s : Nat => (fun (x : Nat) => ([] : List (Nat × Itm))) s) (fun s : Nat => (fun (x : Nat) => x ≤ c.e.length) s) (fun s : Nat => (fun (x : Nat) => c.e.length - x) s) (0) (sub_cons rfl (sub_cons rfl (sub_cons rfl (sub_cons rfl (sub_cons rfl sub_nil))))) rfl (Nat.zero_le _) ?_
  rintro x hinv KL7 hKL7
  simp only [updL, List.foldl_cons, List.foldl_nil, List.set_cons_succ, List.set_cons_zero, List.cons_append, List.nil_append] at hinv hKL7 ⊢
  have hx := hinv
  have hxl := spX_le (c := c) hn40 (by omega) x
  refine gc_seq fun K8 hK8 => ?_
  refine gc_seq fun K9 hK9 => ?_
  refine gc_region ?_
  refine g_v (.free rfl) rfl rfl (qt_move rfl rfl) ?_
  refine g_v (.free rfl) rfl rfl (qt_field (z := 0) (off := 0) rfl rfl Try.underlying27 rfl (by kernel_rfl) rfl) ?_
  refine g_v (.free rfl) rfl rfl (qt_loadB (n := 0) rfl rfl Try.underlying2 rfl rfl rfl) ?_
  refine g_v (.free rfl) rfl rfl (qt_lss rfl rfl rfl) ?_
  refine g_nil ?_
  refine gk_then (hK9 _ _ ?_)
  refine gc_cond rfl (fun hc0 => ?_) (fun hc0 => ?_)
  · try simp only [decide_eq_true_eq, decide_eq_false_iff_not, Bool.not_eq_true', Bool.not_eq_false', Bool.not_eq_eq_eq_not, Bool.not_true, Bool.not_false, ne_eq, Decidable.not_not, Classical.not_not] at hc0
    refine gc_skip ?_
    refine gk_then (hK8 _ _ ?_)
    refine gc_seq fun K10 hK10 => ?_
    refine gc_block ?_
    refine gc_seq fun K11 hK11 => ?_
    refine gc_region ?_
    refine g_v (.free rfl) rfl rfl (qt_assign rfl rfl) ?_
    refine g_nil ?_
    refine gk_then (hK11 _ _ ?_)
    refine gc_block ?_
    try simp only [List.nil_append, List.cons_append, List.append_assoc, List.set_cons_succ, List.set_cons_zero]
    refine gc_loop ([(0, _), (1, _), (2, _), (4, _), (13, _)] : Env) (fun s : Nat => (fun (y : Nat) => ([(3, .int .i64 ((spY c x (spX c x) y : Nat) : Int)), (5, .int .i64 (y : Int))] : Env)) s) (fun s : Nat => (fun (y : Nat) => ([] : List (Nat × Itm))) s) (fun s : Nat => (fun (y : Nat) => y ≤ c.e.length) s) (fun s : Nat => (fun (y : Nat) => c.e.length - y) s) (0) (sub_cons rfl (sub_cons rfl (sub_cons rfl (sub_cons rfl (sub_cons rfl (sub_cons rfl (sub_cons rfl sub_nil))))))) rfl (Nat.zero_le _) ?_
    rintro y hinv KL12 hKL12
    simp only [updL, List.foldl_cons, List.foldl_nil, List.set_cons_succ, List.set_cons_zero, List.cons_append, List.nil_append] at hinv hKL12 ⊢
    have hy := hinv
    have hyl := spY_le (c := c) hn40 hxl (x := x) y
    have hh := homTo_len c (x : Int) (y : Int) c.s.length
    have hh2 := hs_le (c := c) hn40 x y
    refine gc_seq fun K13 hK13 => ?_
    refine gc_seq fun K14 hK14 => ?_
    refine gc_region ?_
    refine g_v (.free rfl) rfl rfl (qt_move rfl rfl) ?_
    refine g_v (.free rfl) rfl rfl (qt_field (z := 0) (off := 0) rfl rfl Try.underlying27 rfl (by kernel_rfl) rfl) ?_
    refine g_v (.free rfl) rfl rfl (qt_loadB (n := 0) rfl rfl Try.underlying2 rfl rfl rfl) ?_
    refine g_v (.free rfl) rfl rfl (qt_lss rfl rfl rfl) ?_
    refine g_nil ?_
    refine gk_then (hK14 _ _ ?_)
    refine gc_cond rfl (fun hc1 => ?_) (fun hc1 => ?_)
    · try simp only [decide_eq_true_eq, decide_eq_false_iff_not, Bool.not_eq_true', Bool.not_eq_false', Bool.not_eq_eq_eq_not, Bool.not_true, Bool.not_false, ne_eq, Decidable.not_not, Classical.not_not] at hc1
      refine gc_skip ?_
      refine gk_then (hK13 _ _ ?_)
      refine gc_seq fun K15 hK15 => ?_
      refine gc_block ?_
      refine gc_seq fun K16 hK16 => ?_
      refine gc_region ?_
      refine g_v (.free rfl) rfl rfl (qt_loadS (n := 0) rfl rfl Try.underlying27 rfl (by kernel_rfl) rfl) ?_
      refine g_v (.free rfl) rfl rfl (qt_move rfl rfl) ?_
      refine g_v (.free rfl) rfl rfl (qt_move rfl rfl) ?_
      refine g_op (.free rfl) fun K18 hK18 => ?_
      refine go_callL rfl rfl rfl Try.func76 rfl (by decide) rfl (fun w M => specHom_any w _ _ _ _ (mem_rdC M h0) (by first | assumption | omega)) ?_
      intro va17 vc17
      refine hK18 _ _ ?_
      refine g_v (.free rfl) rfl rfl (qt_len rfl rfl ulE1 (fun w M => lenV_own1 (n := 1) rfl M)) ?_
      refine g_v (.free rfl) rfl rfl (qt_assign rfl rfl) ?_
      refine g_nil ?_
      refine gk_then (hK16 _ _ ?_)
      refine gc_seq fun K19 hK19 => ?_
      refine gc_seq fun K20 hK20 => ?_
      refine gc_region ?_
      refine g_v (.free rfl) rfl rfl (qt_move rfl rfl) ?_
      refine g_v (.free rfl) rfl rfl (qt_move rfl rfl) ?_
      refine g_v (.free rfl) rfl rfl (qt_eql rfl rfl rfl) ?_
      refine g_nil ?_
      refine gk_then (hK20 _ _ ?_)
      refine gc_cond rfl (fun hc2 => ?_) (fun hc2 => ?_)
      · try simp only [decide_eq_true_eq, decide_eq_false_iff_not, Bool.not_eq_true', Bool.not_eq_false', Bool.not_eq_eq_eq_not, Bool.not_true, Bool.not_false, ne_eq, Decidable.not_not, Classical.not_not] at hc2
        refine gc_region ?_
        refine g_v (.free rfl) rfl rfl (qt_move rfl rfl) ?_
        refine g_v (.free rfl) rfl rfl (qt_sub rfl rfl rfl (by omega)) ?_
        refine g_v (.free rfl) rfl rfl (qt_assign rfl rfl) ?_
        refine g_nil ?_
        refine gk_then (hK19 _ _ ?_)
        first | rw [hs_int hS (by omega) hc2] | rw [hs_ne hc2]
        refine gc_region ?_
        refine g_v (.free rfl) rfl rfl (qt_move rfl rfl) ?_
        refine g_v (.free rfl) rfl rfl (qt_move rfl rfl) ?_
        refine g_q (.free rfl) rfl rfl (qt_call rfl Try.func80 rfl (by decide) rfl (fun w M => tms_any w _ _ _ (_) (rfl) (by first | exact hon | rfl) (by first | assumption | omega) (by first | assumption | omega))) ?_
        refine g_v (.free rfl) rfl rfl (qt_assign rfl rfl) ?_
        refine g_nil ?_
        refine gk_block ?_
        refine gk_then (hK15 _ _ ?_)
        refine gc_region ?_
        refine g_v (.free rfl) rfl rfl (qt_move rfl rfl) ?_
        refine g_v (.free rfl) rfl rfl (qt_add rfl rfl rfl (by omega)) ?_
        refine g_v (.free rfl) rfl rfl (qt_assign rfl rfl) ?_
        refine g_nil ?_
        refine gk_then (gk_take 1 ?_)
        refine gk_sub ?hs_21 (hKL12 (y + 1) ?hi_21 ?hm_21)
        case hs_21 => exact (sub_cons rfl (sub_cons rfl (sub_cons rfl (sub_cons rfl (sub_cons rfl (sub_cons rfl (sub_cons rfl sub_nil)))))))
        case hi_21 => omega
        case hm_21 => omega
      · try simp only [decide_eq_true_eq, decide_eq_false_iff_not, Bool.not_eq_true', Bool.not_eq_false', Bool.not_eq_eq_eq_not, Bool.not_true, Bool.not_false, ne_eq, Decidable.not_not, Classical.not_not] at hc2
        refine gc_skip ?_
        refine gk_then (hK19 _ _ ?_)
        first | rw [hs_int hS (by omega) hc2] | rw [hs_ne hc2]
        refine gc_region ?_
        refine g_v (.free rfl) rfl rfl (qt_move rfl rfl) ?_
        refine g_v (.free rfl) rfl rfl (qt_move rfl rfl) ?_
        refine g_q (.free rfl) rfl rfl (qt_call rfl Try.func80 rfl (by decide) rfl (fun w M => tms_any w _ _ _ (_) (rfl) (by first | exact hon | rfl) (by first | assumption | omega) (by first | assumption | omega))) ?_
        refine g_v (.free rfl) rfl rfl (qt_assign rfl rfl) ?_
        refine g_nil ?_
        refine gk_block ?_
        refine gk_then (hK15 _ _ ?_)
        refine gc_region ?_
        refine g_v (.free rfl) rfl rfl (qt_move rfl rfl) ?_
        refine g_v (.free rfl) rfl rfl (qt_add rfl rfl rfl (by omega)) ?_
        refine g_v (.free rfl) rfl rfl (qt_assign rfl rfl) ?_
        refine g_nil ?_
        refine gk_then (gk_take 1 ?_)
        refine gk_sub ?hs_22 (hKL12 (y + 1) ?hi_22 ?hm_22)
        case hs_22 => exact (sub_cons rfl (sub_cons rfl (sub_cons rfl (sub_cons rfl (sub_cons rfl (sub_cons rfl (sub_cons rfl sub_nil)))))))
        case hi_22 => omega
        case hm_22 => omega
    · try simp only [decide_eq_true_eq, decide_eq_false_iff_not, Bool.not_eq_true', Bool.not_eq_false', Bool.not_eq_eq_eq_not, Bool.not_true, Bool.not_false, ne_eq, Decidable.not_not, Classical.not_not] at hc1
      refine gc_exit ?_
      refine gk_then_exit ?_
      refine gk_then_exit ?_
      refine gk_block_hit ?_
      refine gk_block ?_
      refine gk_then (hK10 _ _ ?_)
      refine gc_region ?_
      refine g_v (.free rfl) rfl rfl (qt_move rfl rfl) ?_
      refine g_v (.free rfl) rfl rfl (qt_add rfl rfl rfl (by omega)) ?_
      refine g_v (.free rfl) rfl rfl (qt_assign rfl rfl) ?_
      refine g_nil ?_
      obtain rfl : y = c.e.length := by omega
      refine gk_then (gk_take 1 ?_)
      refine gk_sub ?hs_23 (hKL7 (x + 1) ?hi_23 ?hm_23)
      case hs_23 => exact (sub_cons rfl (sub_cons rfl (sub_cons rfl (sub_cons rfl (sub_cons rfl sub_nil)))))
      case hi_23 => omega
      case hm_23 => omega
  · try simp only [decide_eq_true_eq, decide_eq_false_iff_not, Bool.not_eq_true', Bool.not_eq_false', Bool.not_eq_eq_eq_not, Bool.not_true, Bool.not_false, ne_eq, Decidable.not_not, Classical.not_not] at hc0
    refine gc_exit ?_
    refine gk_then_exit ?_
    refine gk_then_exit ?_
    refine gk_block_hit ?_
    refine gk_then (hK5 _ _ ?_)
    refine gc_seq fun K24 hK24 => ?_
    refine gc_region ?_
    refine g_v (.free rfl) rfl rfl (qt_move rfl rfl) ?_
    refine g_v (.free rfl) rfl rfl (qt_assign rfl rfl) ?_
    refine g_nil ?_
    refine gk_then (hK24 _ _ ?_)
    refine gc_ret ?_
    refine ret_1 rfl rfl  (fun w M => ?_)
    obtain rfl : x = c.e.length := by omega
    exact ⟨rfl, M.1⟩

set_option maxHeartbeats 1000000 in
set_option maxRecDepth 100000 in
theorem spec_CountNumberings (w : World) (v : Value) (c : Cat) (h : RdC w v c) :
    Calls Try.prog 20 #[v] w (RetII w (fCountNumberings c).1 (fCountNumberings c).2) := by
  have h0 := h
  obtain ⟨va, vb, vc, vd, ve, vf, vg, vh, rfl, h1, h2, h3, h4, _⟩ := h.lists
  go_enter Try.func20, Try.ntmps20
  refine gc_enter (N := 13) rfl (look_cons (k := 0) rfl (look_nil _)) ?_
  refine gc_seq fun K1 hK1 => ?_
  refine gc_region ?_
  refine g_op (.free rfl) fun K3 hK3 => ?_
  refine go_box rfl rfl rfl rfl rfl ?_
  intro B2
  refine hK3 _ _ ?_
  refine g_v (.free rfl) rfl rfl (qt_assign rfl rfl) ?_
  refine g_v (.free rfl) rfl rfl (qt_assign rfl rfl) ?_
  refine g_nil ?_
  refine gk_then (hK1 _ _ ?_)
  refine gc_seq fun K4 hK4 => ?_
  refine gc_seq fun K5 hK5 => ?_
  refine gc_region ?_
  refine g_v (.free rfl) rfl rfl (qt_loadS (n := 0) rfl rfl Try.underlying27 rfl (by kernel_rfl) rfl) ?_
  refine g_q (.free rfl) rfl rfl (qt_call rfl Try.func34 rfl (by decide) rfl (fun w M => specIs_any w _ _ (mem_rdC M h0))) ?_
  refine g_v (.free rfl) rfl rfl (qt_not rfl rfl) ?_
  refine g_nil ?_
  refine gk_then (hK5 _ _ ?_)
  refine gc_cond rfl (fun hc0 => ?_) (fun hc0 => ?_)
  · try simp only [decide_eq_true_eq, decide_eq_false_iff_not, Bool.not_eq_true', Bool.not_eq_false', Bool.not_eq_eq_eq_not, Bool.not_true, Bool.not_false, ne_eq, Decidable.not_not, Classical.not_not] at hc0
    refine gc_seq fun K6 hK6 => ?_
    refine gc_region ?_
    refine g_v (.free rfl) rfl rfl (qt_assign rfl rfl) ?_
    refine g_v (.free rfl) rfl rfl (qt_assign rfl rfl) ?_
    refine g_nil ?_
    refine gk_then (hK6 _ _ ?_)
    refine gc_ret ?_
    refine gk_then_ret ?_
    refine ret_2 rfl rfl rfl  (fun w M => ?_)
    rw [cn_f hc0]; exact ⟨rfl, M.1⟩
  · try simp only [decide_eq_true_eq, decide_eq_false_iff_not, Bool.not_eq_true', Bool.not_eq_false', Bool.not_eq_eq_eq_not, Bool.not_true, Bool.not_false, ne_eq, Decidable.not_not, Classical.not_not] at hc0
    refine gc_skip ?_
    refine gk_then (hK4 _ _ ?_)
    refine gc_seq fun K7 hK7 => ?_
    have hrl := relT_X c c.e.length
    have hr1 := hrl.1; have hr2 := hrl.2
    refine gc_region ?_
    refine g_v (.free rfl) rfl rfl (qt_loadS (n := 0) rfl rfl Try.underlying27 rfl (by kernel_rfl) rfl) ?_
    refine g_q (.free rfl) rfl rfl (qt_call rfl Try.func49 rfl (by decide) rfl (fun w M => spCnt_any w _ _ (mem_rdC M h0) (isCat_of hc0).toShapeP)) ?_
    refine g_v (.free rfl) rfl rfl (qt_assign rfl rfl) ?_
    refine g_nil ?_
    refine gk_then (hK7 _ _ ?_)
    refine gc_seq fun K8 hK8 => ?_
    refine gc_seq fun K9 hK9 => ?_
    refine gc_region ?_
    refine g_v (.free rfl) rfl rfl (qt_move rfl rfl) ?_
    refine g_v (.free rfl) rfl rfl (qt_gtr rfl rfl rfl) ?_
    refine g_nil ?_
    refine gk_then (hK9 _ _ ?_)
    refine gc_cond rfl (fun hc1 => ?_) (fun hc1 => ?_)
    · try simp only [decide_eq_true_eq, decide_eq_false_iff_not, Bool.not_eq_true', Bool.not_eq_false', Bool.not_eq_eq_eq_not, Bool.not_true, Bool.not_false, ne_eq, Decidable.not_not, Classical.not_not] at hc1
      refine gc_seq fun K10 hK10 => ?_
      refine gc_region ?_
      refine g_v (.free rfl) rfl rfl (qt_assign rfl rfl) ?_
      refine g_v (.free rfl) rfl rfl (qt_assign rfl rfl) ?_
      refine g_nil ?_
      refine gk_then (hK10 _ _ ?_)
      refine gc_ret ?_
      refine gk_then_ret ?_
      refine ret_2 rfl rfl rfl  (fun w M => ?_)
      have hb : 5000 < prX c c.e.length := Nat.lt_of_not_le fun hq => by have := hr1 hq; omega
      rw [cn_n hc0 hb]; exact ⟨rfl, M.1⟩
    · try simp only [decide_eq_true_eq, decide_eq_false_iff_not, Bool.not_eq_true', Bool.not_eq_false', Bool.not_eq_eq_eq_not, Bool.not_true, Bool.not_false, ne_eq, Decidable.not_not, Classical.not_not] at hc1
      refine gc_skip ?_
      refine gk_then (hK8 _ _ ?_)
      refine gc_seq fun K11 hK11 => ?_
      refine gc_region ?_
      refine g_v (.free rfl) rfl rfl (qt_move rfl rfl) ?_
      refine g_v (.free rfl) rfl rfl (qt_assign rfl rfl) ?_
      refine g_v (.free rfl) rfl rfl (qt_assign rfl rfl) ?_
      refine g_nil ?_
      refine gk_then (hK11 _ _ ?_)
      refine gc_ret ?_
      refine ret_2 rfl rfl rfl  (fun w M => ?_)
      have hb : prX c c.e.length ≤ 5000 := Nat.le_of_not_lt fun hq => by have := hr2 hq; omega
      rw [cn_t hc0 hb, ← hr1 hb]; exact ⟨rfl, M.1⟩


noncomputable def nmErr (c : Cat) : Int := if fIsCategory c = true then (if prX c c.e.length ≤ 5000 then 0 else 3) else 1
noncomputable def nmCat (c : Cat) : Cat := if nmErr c = 0 then c else cat0
theorem nm_f {c : Cat} (h : fIsCategory c = false) : nmErr c = 1 ∧ nmCat c = cat0 := by
  have e : nmErr c = 1 := if_neg (by rw [h]; decide)
  exact ⟨e, if_neg (by rw [e]; decide)⟩
theorem nm_n {c : Cat} (h : fIsCategory c = true) (hb : 5000 < prX c c.e.length) : nmErr c = 3 ∧ nmCat c = cat0 := by
  have e : nmErr c = 3 := by unfold nmErr; rw [if_pos h, if_neg (by omega)]
  exact ⟨e, if_neg (by rw [e]; decide)⟩
theorem nm_t {c : Cat} (h : fIsCategory c = true) (hb : prX c c.e.length ≤ 5000) : nmErr c = 0 ∧ nmCat c = c := by
  have e : nmErr c = 0 := by unfold nmErr; rw [if_pos h, if_pos hb]
  exact ⟨e, if_pos e⟩
theorem nm_0 {c : Cat} (h : nmErr c = 0) : fIsCategory c = true ∧ prX c c.e.length ≤ 5000 ∧ nmCat c = c := by
  cases hI : fIsCategory c with
  | false => rw [(nm_f hI).1] at h; exact absurd h (by decide)
  | true =>
    by_cases hb : prX c c.e.length ≤ 5000
    · exact ⟨rfl, hb, if_pos h⟩
    · rw [(nm_n hI (by omega)).1] at h; exact absurd h (by decide)
theorem nm_c {c : Cat} (h : ¬ nmErr c = 0) : fCountNumberings c = (0, nmErr c) := by
  cases hI : fIsCategory c with
  | false => rw [(nm_f hI).1, cn_f hI]
  | true =>
    by_cases hb : prX c c.e.length ≤ 5000
    · exact absurd (nm_t hI hb).1 h
    · rw [(nm_n hI (by omega)).1, cn_n hI (by omega)]

set_option maxHeartbeats 1000000 in
set_option maxRecDepth 100000 in
theorem readNm_any (w : World) (v : Value) (c : Cat) (h : RdC w v c) :
    Calls Try.prog 50 #[v] w (RetCI w (nmCat c) (nmErr c)) := by
  have h0 := h
  obtain ⟨va, vb, vc, vd, ve, vf, vg, vh, rfl, h1, h2, h3, h4, _⟩ := h.lists
  go_enter Try.func50, Try.ntmps50
  refine gc_enter (N := 21) rfl (look_cons (k := 0) rfl (look_nil _)) ?_
  refine gc_seq fun K1 hK1 => ?_
  refine gc_region ?_
  refine g_op (.free rfl) fun K3 hK3 => ?_
  refine go_box rfl rfl rfl rfl rfl ?_
  intro B2
  refine hK3 _ _ ?_
  refine g_op (.free rfl) fun K5 hK5 => ?_
  refine go_alloc (z := (.agg #[.int .i64 0, .slice none 0 0, .slice none 0 0, .slice none 0 0, .slice none 0 0])) (cs := [.int .i64 0, .slice none 0 0, .slice none 0 0, .slice none 0 0, .slice none 0 0]) rfl rfl rfl (fun w => by kernel_rfl) rfl ?_
  intro B4
  refine hK5 _ _ ?_
  refine g_v (.free rfl) rfl rfl (qt_assign rfl rfl) ?_
  refine g_nil ?_
  refine gk_then (hK1 _ _ ?_)
  refine gc_seq fun K6 hK6 => ?_
  refine gc_region ?_
  refine g_v (.free rfl) rfl rfl (qt_loadS (n := 0) rfl rfl Try.underlying27 rfl (by kernel_rfl) rfl) ?_
  refine g_op (.free rfl) fun K8 hK8 => ?_
  refine go_callCI rfl rfl rfl Try.func38 rfl (by decide) rfl (fun w M => readCat_any w _ _ (mem_rdC M h0)) ?_
  intro ca7 cb7 cc7 cd7 ce7 cf7 cg7 ch7 cu7
  refine hK8 _ _ ?_
  refine g_v (.free rfl) rfl rfl (qt_move rfl rfl) ?_
  refine g_v (.free rfl) rfl rfl (qt_extract rfl rfl rfl) ?_
  refine g_v (.free rfl) rfl rfl (qt_extract rfl rfl rfl) ?_
  refine g_op (.free rfl) fun K10 hK10 => ?_
  refine go_alloc (z := (.agg #[.int .i64 0, .slice none 0 0, .slice none 0 0, .slice none 0 0, .slice none 0 0])) (cs := [.int .i64 0, .slice none 0 0, .slice none 0 0, .slice none 0 0, .slice none 0 0]) rfl rfl rfl (fun w => by kernel_rfl) rfl ?_
  intro B9
  refine hK10 _ _ ?_
  refine g_op (.free rfl) fun K11 hK11 => ?_
  refine go_storeS (n := 6) rfl rfl rfl rfl (by kernel_rfl) rfl rfl rfl ?_
  refine hK11 _ _ ?_
  refine g_v (.free rfl) rfl rfl (qt_assign rfl rfl) ?_
  refine g_nil ?_
  refine gk_then (hK6 _ _ ?_)
  refine gc_seq fun K12 hK12 => ?_
  refine gc_seq fun K13 hK13 => ?_
  refine gc_region ?_
  refine g_v (.free rfl) rfl rfl (qt_move rfl rfl) ?_
  refine g_v (.free rfl) rfl rfl (qt_eql rfl rfl rfl) ?_
  refine g_splitv (.free rfl) rfl rfl (qt_move rfl rfl) (fun hs2_2 => ?_) (fun hs2_2 => ?_)
  · try simp only [decide_eq_true_eq, decide_eq_false_iff_not, Bool.not_eq_true', Bool.not_eq_false', Bool.not_eq_eq_eq_not, Bool.not_true, Bool.not_false, ne_eq, Decidable.not_not, Classical.not_not] at hs2_2
    refine g_v (.held _ _ _ rfl rfl rfl) rfl rfl (qt_loadS (n := 6) rfl rfl Try.underlying27 rfl (by kernel_rfl) rfl) ?_
    refine g_q (.held _ _ _ rfl rfl rfl) rfl rfl (qt_call rfl Try.func51 rfl (by decide) rfl (fun w M => cntN_any w _ _ (rdC_mk ((mem_own1 (n := 2) M rfl).rd) ((mem_own1 (n := 3) M rfl).rd) ((mem_own1 (n := 4) M rfl).rd) (mem_rdU (n := 5) M rfl)) (by rw [catCat_t hs2_2]; exact (isCat_of (catErr_0 hs2_2)).toShapeP))) ?_
    refine g_v (.held _ _ _ rfl rfl rfl) rfl rfl (qt_gtr rfl rfl rfl) ?_
    refine g_v (.free rfl) rfl rfl (qt_pick_t rfl rfl rfl) ?_
    refine g_nil ?_
    refine gk_then (hK13 _ _ ?_)
    refine gc_cond rfl (fun hc0 => ?_) (fun hc0 => ?_)
    · try simp only [decide_eq_true_eq, decide_eq_false_iff_not, Bool.not_eq_true', Bool.not_eq_false', Bool.not_eq_eq_eq_not, Bool.not_true, Bool.not_false, ne_eq, Decidable.not_not, Classical.not_not] at hc0
      refine gc_seq fun K14 hK14 => ?_
      refine gc_region ?_
      refine g_v (.free rfl) rfl rfl (qt_build rfl rfl bt0_Category) ?_
      refine g_op (.free rfl) fun K15 hK15 => ?_
      refine go_storeS (n := 1) rfl rfl rfl rfl (by kernel_rfl) rfl rfl rfl ?_
      refine hK15 _ _ ?_
      refine g_v (.free rfl) rfl rfl (qt_assign rfl rfl) ?_
      refine g_nil ?_
      refine gk_then (hK14 _ _ ?_)
      refine gc_ret ?_
      refine gk_then_ret ?_
      refine ret_SI (n := 1) rfl rfl rfl Try.underlying27 rfl (by kernel_rfl) rfl (fun w M => ?_)
      have hI := catErr_0 hs2_2
      rw [catCat_t hs2_2, cK_2 (isCat_of hI).toShapeP] at hc0
      have hm := nm_n hI (by omega)
      rw [hm.1, hm.2]; exact ⟨_, rfl, ownC_zero _ _, M.1⟩
    · try simp only [decide_eq_true_eq, decide_eq_false_iff_not, Bool.not_eq_true', Bool.not_eq_false', Bool.not_eq_eq_eq_not, Bool.not_true, Bool.not_false, ne_eq, Decidable.not_not, Classical.not_not] at hc0
      refine gc_skip ?_
      refine gk_then (hK12 _ _ ?_)
      refine gc_seq fun K16 hK16 => ?_
      refine gc_region ?_
      refine g_v (.free rfl) rfl rfl (qt_loadS (n := 6) rfl rfl Try.underlying27 rfl (by kernel_rfl) rfl) ?_
      refine g_v (.free rfl) rfl rfl (qt_move rfl rfl) ?_
      refine g_op (.free rfl) fun K17 hK17 => ?_
      refine go_storeS (n := 1) rfl rfl rfl rfl (by kernel_rfl) rfl rfl rfl ?_
      refine hK17 _ _ ?_
      refine g_v (.free rfl) rfl rfl (qt_assign rfl rfl) ?_
      refine g_nil ?_
      refine gk_then (hK16 _ _ ?_)
      refine gc_ret ?_
      refine ret_SI (n := 1) rfl rfl rfl Try.underlying27 rfl (by kernel_rfl) rfl (fun w M => ?_)
      have hI := catErr_0 hs2_2
      rw [catCat_t hs2_2, cK_2 (isCat_of hI).toShapeP] at hc0
      have hm := nm_t hI (by omega)
      rw [show nmErr c = catErr c from hm.1.trans hs2_2.symm, show nmCat c = catCat c from hm.2.trans (catCat_t hs2_2).symm]; exact ⟨_, rfl, ownC_star (mem_pick (n := 5) (mem_pick (n := 5) (mem_pick (n := 5) (mem_pick (n := 5) (M) rfl) rfl) rfl) rfl).2, M.1⟩
  · try simp only [decide_eq_true_eq, decide_eq_false_iff_not, Bool.not_eq_true', Bool.not_eq_false', Bool.not_eq_eq_eq_not, Bool.not_true, Bool.not_false, ne_eq, Decidable.not_not, Classical.not_not] at hs2_2
    refine g_skip (.not _ _ _ _ rfl rfl rfl rfl) rfl rfl ?_
    refine g_skip (.not _ _ _ _ rfl rfl rfl rfl) rfl rfl ?_
    refine g_skip (.not _ _ _ _ rfl rfl rfl rfl) rfl rfl ?_
    refine g_v (.free rfl) rfl rfl (qt_pick_f rfl rfl rfl) ?_
    refine g_nil ?_
    refine gk_then (hK13 _ _ ?_)
    refine gc_cond_f rfl ?_
    refine gc_skip ?_
    refine gk_then (hK12 _ _ ?_)
    refine gc_seq fun K18 hK18 => ?_
    refine gc_region ?_
    refine g_v (.free rfl) rfl rfl (qt_loadS (n := 6) rfl rfl Try.underlying27 rfl (by kernel_rfl) rfl) ?_
    refine g_v (.free rfl) rfl rfl (qt_move rfl rfl) ?_
    refine g_op (.free rfl) fun K19 hK19 => ?_
    refine go_storeS (n := 1) rfl rfl rfl rfl (by kernel_rfl) rfl rfl rfl ?_
    refine hK19 _ _ ?_
    refine g_v (.free rfl) rfl rfl (qt_assign rfl rfl) ?_
    refine g_nil ?_
    refine gk_then (hK18 _ _ ?_)
    refine gc_ret ?_
    refine ret_SI (n := 1) rfl rfl rfl Try.underlying27 rfl (by kernel_rfl) rfl (fun w M => ?_)
    have hI := (catErr_n hs2_2).1
    have hm := nm_f hI
    rw [show nmErr c = catErr c from hm.1.trans (catErr_n hs2_2).2.symm, show nmCat c = catCat c from hm.2.trans (show catCat c = cat0 from if_neg (by rw [hI]; decide)).symm]; exact ⟨_, rfl, ownC_star (mem_pick (n := 5) (mem_pick (n := 5) (mem_pick (n := 5) (mem_pick (n := 5) (M) rfl) rfl) rfl) rfl).2, M.1⟩

set_option maxHeartbeats 1000000 in
set_option maxRecDepth 100000 in
theorem impl_CountNumberings (w : World) (v : Value) (c : Cat) (h : RdC w v c) :
    Calls Try.prog 21 #[v] w (RetII w (fCountNumberings c).1 (fCountNumberings c).2) := by
  have h0 := h
  obtain ⟨va, vb, vc, vd, ve, vf, vg, vh, rfl, h1, h2, h3, h4, _⟩ := h.lists
  go_enter Try.func21, Try.ntmps21
  refine gc_enter (N := 16) rfl (look_cons (k := 0) rfl (look_nil _)) ?_
  refine gc_seq fun K1 hK1 => ?_
  refine gc_region ?_
  refine g_op (.free rfl) fun K3 hK3 => ?_
  refine go_box rfl rfl rfl rfl rfl ?_
  intro B2
  refine hK3 _ _ ?_
  refine g_v (.free rfl) rfl rfl (qt_assign rfl rfl) ?_
  refine g_v (.free rfl) rfl rfl (qt_assign rfl rfl) ?_
  refine g_nil ?_
  refine gk_then (hK1 _ _ ?_)
  refine gc_seq fun K4 hK4 => ?_
  refine gc_region ?_
  refine g_v (.free rfl) rfl rfl (qt_loadS (n := 0) rfl rfl Try.underlying27 rfl (by kernel_rfl) rfl) ?_
  refine g_op (.free rfl) fun K6 hK6 => ?_
  refine go_callCI rfl rfl rfl Try.func50 rfl (by decide) rfl (fun w M => readNm_any w _ _ (mem_rdC M h0)) ?_
  intro ca5 cb5 cc5 cd5 ce5 cf5 cg5 ch5 cu5
  refine hK6 _ _ ?_
  refine g_v (.free rfl) rfl rfl (qt_move rfl rfl) ?_
  refine g_v (.free rfl) rfl rfl (qt_extract rfl rfl rfl) ?_
  refine g_v (.free rfl) rfl rfl (qt_extract rfl rfl rfl) ?_
  refine g_op (.free rfl) fun K8 hK8 => ?_
  refine go_alloc (z := (.agg #[.int .i64 0, .slice none 0 0, .slice none 0 0, .slice none 0 0, .slice none 0 0])) (cs := [.int .i64 0, .slice none 0 0, .slice none 0 0, .slice none 0 0, .slice none 0 0]) rfl rfl rfl (fun w => by kernel_rfl) rfl ?_
  intro B7
  refine hK8 _ _ ?_
  refine g_op (.free rfl) fun K9 hK9 => ?_
  refine go_storeS (n := 5) rfl rfl rfl rfl (by kernel_rfl) rfl rfl rfl ?_
  refine hK9 _ _ ?_
  refine g_v (.free rfl) rfl rfl (qt_assign rfl rfl) ?_
  refine g_nil ?_
  refine gk_then (hK4 _ _ ?_)
  refine gc_seq fun K10 hK10 => ?_
  refine gc_seq fun K11 hK11 => ?_
  refine gc_region ?_
  refine g_v (.free rfl) rfl rfl (qt_move rfl rfl) ?_
  refine g_v (.free rfl) rfl rfl (qt_neq rfl rfl rfl) ?_
  refine g_nil ?_
  refine gk_then (hK11 _ _ ?_)
  refine gc_cond rfl (fun hc0 => ?_) (fun hc0 => ?_)
  · try simp only [decide_eq_true_eq, decide_eq_false_iff_not, Bool.not_eq_true', Bool.not_eq_false', Bool.not_eq_eq_eq_not, Bool.not_true, Bool.not_false, ne_eq, Decidable.not_not, Classical.not_not] at hc0
    refine gc_seq fun K12 hK12 => ?_
    refine gc_region ?_
    refine g_v (.free rfl) rfl rfl (qt_move rfl rfl) ?_
    refine g_v (.free rfl) rfl rfl (qt_assign rfl rfl) ?_
    refine g_v (.free rfl) rfl rfl (qt_assign rfl rfl) ?_
    refine g_nil ?_
    refine gk_then (hK12 _ _ ?_)
    refine gc_ret ?_
    refine gk_then_ret ?_
    refine ret_2 rfl rfl rfl  (fun w M => ?_)
    rw [nm_c hc0]; exact ⟨rfl, M.1⟩
  · try simp only [decide_eq_true_eq, decide_eq_false_iff_not, Bool.not_eq_true', Bool.not_eq_false', Bool.not_eq_eq_eq_not, Bool.not_true, Bool.not_false, ne_eq, Decidable.not_not, Classical.not_not] at hc0
    refine gc_skip ?_
    refine gk_then (hK10 _ _ ?_)
    refine gc_seq fun K13 hK13 => ?_
    have h0n := nm_0 hc0
    simp only [h0n.2.2]
    have hS := (isCat_of h0n.1).toShapeP
    refine gc_region ?_
    refine g_v (.free rfl) rfl rfl (qt_loadS (n := 5) rfl rfl Try.underlying27 rfl (by kernel_rfl) rfl) ?_
    refine g_q (.free rfl) rfl rfl (qt_call rfl Try.func51 rfl (by decide) rfl (fun w M => cntN_any w _ _ (rdC_mk ((mem_own1 (n := 1) M rfl).rd) ((mem_own1 (n := 2) M rfl).rd) ((mem_own1 (n := 3) M rfl).rd) (mem_rdU (n := 4) M rfl)) (hS))) ?_
    refine g_v (.free rfl) rfl rfl (qt_assign rfl rfl) ?_
    refine g_v (.free rfl) rfl rfl (qt_assign rfl rfl) ?_
    refine g_nil ?_
    refine gk_then (hK13 _ _ ?_)
    refine gc_ret ?_
    refine ret_2 rfl rfl rfl  (fun w M => ?_)
    have e : cK c 2 = prX c c.e.length := by rw [cK_2 hS]; have := h0n.2.1; omega
    rw [cn_t h0n.1 h0n.2.1, ← e]; exact ⟨rfl, M.1⟩
end
end Go.Proofs.Ytgkfampgofjkfaa
