
/- The least subcategory that holds some arrows: what it is; the model's. -/
import Derived.Test.YtpfcfhjpgngneaaHomL
import Derived.Test.YtpfcfhjpgngneaaTab
import Derived.Test.YtpfcfhjpgngneaaRul7
import Derived.Test.YtpfcfhjpgngneaaCong
set_option linter.unusedSimpArgs false
set_option linter.unusedVariables false
set_option linter.unusedSectionVars false
namespace Go.Proofs.Ytpfcfhjpgngneaa
open Go.RowKit


/-- The arrows that a list generates. -/
inductive Gen (c : Cat) (xs : List Int) : Int → Prop
  | of {x : Int} : x ∈ xs → Gen c xs x
  | src {x : Int} : x ∈ xs → Gen c xs (at0 c.e (at0 c.s x))
  | tgt {x : Int} : x ∈ xs → Gen c xs (at0 c.e (at0 c.t x))
  | comp {f g : Int} : Gen c xs f → Gen c xs g → at0 c.t f = at0 c.s g → Gen c xs (c.th f g)
noncomputable def genL (c : Cat) (xs : List Int) (k : Nat) : List Int := filTo (fun f => Gen c xs (f : Int)) (fun f => (f : Int)) k
def Sound (c : Cat) (xs : List Int) (bs : List Bool) : Prop := ∀ f : Nat, atB bs (f : Int) = true → Gen c xs (f : Int)
def SeedA (c : Cat) (xs : List Int) (bs : List Bool) (j : Nat) : Prop := atB bs (at0 xs (j : Int)) = true ∧ atB bs (at0 c.e (at0 c.s (at0 xs (j : Int)))) = true ∧ atB bs (at0 c.e (at0 c.t (at0 xs (j : Int)))) = true
def Seeds (c : Cat) (xs : List Int) (bs : List Bool) (k : Nat) : Prop := ∀ j : Nat, j < k → SeedA c xs bs j
def ClosedAt (c : Cat) (bs : List Bool) (f g : Nat) : Prop := atB bs (f : Int) = true → atB bs (g : Int) = true → at0 c.t (f : Int) = at0 c.s (g : Int) → atB bs (c.th (f : Int) (g : Int)) = true
def ClosedTo (c : Cat) (bs : List Bool) (f g : Nat) : Prop := (∀ a b : Nat, a < f → b < c.s.length → ClosedAt c bs a b) ∧ ∀ b : Nat, b < g → ClosedAt c bs f b
def cntF (bs : List Bool) : Nat := (bs.filter fun b => !b).length
theorem atB_set {bs : List Bool} {x y : Int} (hx0 : 0 ≤ x) (hx : x < bs.length) (hy0 : 0 ≤ y) : atB (bs.set x.toNat true) y = if x = y then true else atB bs y := by
  unfold atB
  rw [List.getD_eq_getElem?_getD, List.getElem?_set]
  by_cases h : x = y
  · subst h; rw [if_pos rfl, if_pos rfl, if_pos (by omega)]; rfl
  · rw [if_neg (by omega), if_neg h, List.getD_eq_getElem?_getD]
theorem atB_keep {bs : List Bool} {x y : Int} (hx0 : 0 ≤ x) (hx : x < bs.length) (hy0 : 0 ≤ y) (h : atB bs y = true) : atB (bs.set x.toNat true) y = true := by
  rw [atB_set hx0 hx hy0]; split <;> simp [h]
theorem atB_new {bs : List Bool} {x : Int} (hx0 : 0 ≤ x) (hx : x < bs.length) : atB (bs.set x.toNat true) x = true := by
  rw [atB_set hx0 hx hx0, if_pos rfl]
theorem sound_set {c : Cat} {xs : List Int} {bs : List Bool} {x : Int} (h : Sound c xs bs) (hx0 : 0 ≤ x) (hx : x < bs.length) (hg : Gen c xs x) : Sound c xs (bs.set x.toNat true) := fun f hf => by
  rw [atB_set hx0 hx (by omega)] at hf
  split at hf
  · rename_i e; rw [← e]; exact hg
  · exact h f hf
theorem sound_zero (c : Cat) (xs : List Int) (m : Nat) : Sound c xs (List.replicate m false) := fun f hf => by
  unfold atB at hf
  rw [List.getD_eq_getElem?_getD, List.getElem?_replicate] at hf
  split at hf <;> simp at hf
theorem cntF_set {bs : List Bool} : ∀ {k : Nat}, k < bs.length → bs.getD k false = false → cntF (bs.set k true) + 1 = cntF bs := by
  induction bs with
  | nil => intro k hk; simp at hk
  | cons b bs ih =>
    intro k hk hb
    cases k with
    | zero => simp only [List.getD_cons_zero] at hb; subst hb; simp [cntF]
    | succ k =>
      simp only [List.getD_cons_succ] at hb
      have := ih (k := k) (by simpa using hk) hb
      simp only [List.set_cons_succ, cntF, List.filter_cons] at this ⊢
      split <;> simp_all <;> omega
theorem seeds_set {c : Cat} {xs : List Int} {bs : List Bool} {k : Nat} {x : Int} (h : Seeds c xs bs k) (hx0 : 0 ≤ x) (hx : x < bs.length) (hp : ∀ j : Nat, j < k → 0 ≤ at0 xs (j : Int) ∧ 0 ≤ at0 c.e (at0 c.s (at0 xs (j : Int))) ∧ 0 ≤ at0 c.e (at0 c.t (at0 xs (j : Int)))) : Seeds c xs (bs.set x.toNat true) k := fun j hj => by
  obtain ⟨h1, h2, h3⟩ := h j hj
  obtain ⟨p1, p2, p3⟩ := hp j hj
  exact ⟨atB_keep hx0 hx p1 h1, atB_keep hx0 hx p2 h2, atB_keep hx0 hx p3 h3⟩
theorem mem_at0C {xs : List Int} {x : Int} (h : x ∈ xs) : ∃ j : Nat, j < xs.length ∧ at0 xs (j : Int) = x := by
  obtain ⟨j, hj, rfl⟩ := List.getElem_of_mem h
  exact ⟨j, hj, by rw [at0_nat, List.getD_eq_getElem?_getD, List.getElem?_eq_getElem hj]; rfl⟩
theorem seed_pos {c : Cat} {xs : List Int} (hS : ShapeP c) (hx : AllP c.s.length xs) {j : Nat} (hj : j < xs.length) : 0 ≤ at0 xs (j : Int) ∧ at0 xs (j : Int) < c.s.length ∧ 0 ≤ at0 c.e (at0 c.s (at0 xs (j : Int))) ∧ at0 c.e (at0 c.s (at0 xs (j : Int))) < c.s.length ∧ 0 ≤ at0 c.e (at0 c.t (at0 xs (j : Int))) ∧ at0 c.e (at0 c.t (at0 xs (j : Int))) < c.s.length := by
  have h := allP_at hx hj
  have hA := arrP hS h.1 h.2
  have hid : ∀ x : Int, 0 ≤ x → x < c.e.length → 0 ≤ at0 c.e x ∧ at0 c.e x < c.s.length := fun x x0 x1 => by
    obtain ⟨k, rfl⟩ := Int.eq_ofNat_of_zero_le x0
    exact (hS.id k (by omega)).1
  have h1 := hid _ hA.s0 hA.s1
  have h2 := hid _ hA.t0 hA.t1
  exact ⟨h.1, h.2, h1.1, h1.2, h2.1, h2.2⟩
theorem seeds_next {c : Cat} {xs : List Int} {bs : List Bool} {k : Nat} (hS : ShapeP c) (hx : AllP c.s.length xs) (hk : k < xs.length) (hl : bs.length = c.s.length) (h : Seeds c xs bs k) (hs : Sound c xs bs) :
    let bs1 := bs.set (at0 xs (k : Int)).toNat true
    let bs2 := bs1.set (at0 c.e (at0 c.s (at0 xs (k : Int)))).toNat true
    let bs3 := bs2.set (at0 c.e (at0 c.t (at0 xs (k : Int)))).toNat true
    bs3.length = c.s.length ∧ Seeds c xs bs3 (k + 1) ∧ Sound c xs bs3 := by
  intro bs1 bs2 bs3
  obtain ⟨a0, a1, b0, b1, d0, d1⟩ := seed_pos hS hx hk
  have hp : ∀ j : Nat, j < k → 0 ≤ at0 xs (j : Int) ∧ 0 ≤ at0 c.e (at0 c.s (at0 xs (j : Int))) ∧ 0 ≤ at0 c.e (at0 c.t (at0 xs (j : Int))) := fun j hj => by
    obtain ⟨a0, _, b0, _, d0, _⟩ := seed_pos hS hx (j := j) (by omega)
    exact ⟨a0, b0, d0⟩
  have l1 : bs1.length = c.s.length := by simp [bs1, hl]
  have l2 : bs2.length = c.s.length := by simp [bs2, l1]
  have l3 : bs3.length = c.s.length := by simp [bs3, l2]
  have hm : at0 xs (k : Int) ∈ xs := at0_memC hk
  refine ⟨l3, fun j hj => ?_, sound_set (sound_set (sound_set hs a0 (by omega) (.of hm)) b0 (by omega) (.src hm)) d0 (by omega) (.tgt hm)⟩
  by_cases hjk : j = k
  · subst hjk
    exact ⟨atB_keep d0 (by omega) a0 (atB_keep b0 (by omega) a0 (atB_new a0 (by omega))), atB_keep d0 (by omega) b0 (atB_new b0 (by omega)), atB_new d0 (by omega)⟩
  · have q1 : Seeds c xs bs1 k := seeds_set h a0 (by omega) hp
    have q2 : Seeds c xs bs2 k := seeds_set (bs := bs1) q1 b0 (by omega) hp
    have q3 : Seeds c xs bs3 k := seeds_set (bs := bs2) q2 d0 (by omega) hp
    exact q3 j (by omega)
/-- All that the second loop keeps. -/
def CloseI (c : Cat) (xs : List Int) (bs : List Bool) : Prop := bs.length = c.s.length ∧ Seeds c xs bs xs.length ∧ Sound c xs bs
theorem closeI_set {c : Cat} {xs : List Int} {bs : List Bool} {x : Int} (hS : ShapeP c) (hx : AllP c.s.length xs) (h : CloseI c xs bs) (h0 : 0 ≤ x) (h1 : x < c.s.length) (hg : Gen c xs x) : CloseI c xs (bs.set x.toNat true) := by
  have hl := h.1
  refine ⟨by simp [hl], seeds_set h.2.1 h0 (by omega) fun j hj => ?_, sound_set h.2.2 h0 (by omega) hg⟩
  obtain ⟨a0, _, b0, _, d0, _⟩ := seed_pos hS hx (j := j) hj
  exact ⟨a0, b0, d0⟩
theorem closed_all {c : Cat} {xs : List Int} {bs : List Bool} (hS : ShapeP c) (hx : AllP c.s.length xs) (h : CloseI c xs bs) (hc : ClosedTo c bs c.s.length 0) : ∀ x : Int, Gen c xs x → 0 ≤ x ∧ x < c.s.length ∧ atB bs x = true := by
  intro x hg
  induction hg with
  | of hm =>
    obtain ⟨j, hj, rfl⟩ := mem_at0C hm
    have := seed_pos hS hx hj
    exact ⟨this.1, this.2.1, (h.2.1 j hj).1⟩
  | src hm =>
    obtain ⟨j, hj, rfl⟩ := mem_at0C hm
    have := seed_pos hS hx hj
    exact ⟨this.2.2.1, this.2.2.2.1, (h.2.1 j hj).2.1⟩
  | tgt hm =>
    obtain ⟨j, hj, rfl⟩ := mem_at0C hm
    have := seed_pos hS hx hj
    exact ⟨this.2.2.2.2.1, this.2.2.2.2.2, (h.2.1 j hj).2.2⟩
  | comp _ _ he ih1 ih2 =>
    obtain ⟨f0, f1, hf⟩ := ih1
    obtain ⟨g0, g1, hg⟩ := ih2
    have ht := (th_ends hS f0 f1 g0 g1 he).1
    obtain ⟨a, rfl⟩ := Int.eq_ofNat_of_zero_le f0
    obtain ⟨b, rfl⟩ := Int.eq_ofNat_of_zero_le g0
    exact ⟨ht.1, ht.2, hc.1 a b (by omega) (by omega) hf hg he⟩
theorem close_iff {c : Cat} {xs : List Int} {bs : List Bool} (hS : ShapeP c) (hx : AllP c.s.length xs) (h : CloseI c xs bs) (hc : ClosedTo c bs c.s.length 0) (f : Nat) : atB bs (f : Int) = true ↔ Gen c xs (f : Int) :=
  ⟨h.2.2 f, fun hg => (closed_all hS hx h hc _ hg).2.2⟩
theorem closedTo_next {c : Cat} {bs : List Bool} {f g : Nat} (h : ClosedTo c bs f g) (ha : ClosedAt c bs f g) : ClosedTo c bs f (g + 1) := ⟨h.1, fun b hb => by
  by_cases e : b = g
  · subst e; exact ha
  · exact h.2 b (by omega)⟩
theorem closedTo_row {c : Cat} {bs : List Bool} {f : Nat} (h : ClosedTo c bs f c.s.length) : ClosedTo c bs (f + 1) 0 := ⟨fun a b ha hb => by
  by_cases e : a = f
  · subst e; exact h.2 b hb
  · exact h.1 a b (by omega) hb, fun b hb => absurd hb (by omega)⟩
theorem closedTo_zero (c : Cat) (bs : List Bool) : ClosedTo c bs 0 0 := ⟨fun a b ha => absurd ha (by omega), fun b hb => absurd hb (by omega)⟩
def bN (b : Bool) : Nat := if b then 1 else 0
theorem gen_t {c : Cat} {xs : List Int} {k : Nat} (h : Gen c xs (k : Int)) : genL c xs k ++ [(k : Int)] = genL c xs (k + 1) := filTo_t (p := fun f => Gen c xs (f : Int)) h
theorem gen_f {c : Cat} {xs : List Int} {k : Nat} (h : ¬ Gen c xs (k : Int)) : genL c xs k = genL c xs (k + 1) := filTo_f (p := fun f => Gen c xs (f : Int)) h
theorem gen_len (c : Cat) (xs : List Int) (k : Nat) : (genL c xs k).length ≤ k := filTo_len _ _ _

set_option maxHeartbeats 1000000 in
set_option maxRecDepth 100000 in
theorem specClose_any (w : World) (v u : Value) (c : Cat) (xs : List Int) (h : RdC w v c) (hS : ShapeP c) (hu : Rd w u xs) (hx : AllP c.s.length xs) :
    Calls Try.prog 92 #[v, u] w (RetL w (genL c xs c.s.length)) := by
  have h0 := h
  obtain ⟨va, vb, vc, vd, ve, vf, vg, vh, rfl, h1, h2, h3, h4, _⟩ := h.lists
  obtain ⟨ua, uc, rfl⟩ := rd_form hu
  have hn40 := hS.n40; have htl := hS.tl; have hel := hS.el; have hob0 := hS.ob0; have hob8 := hS.ob8; have hml := hS.ml
  have hxl : xs.length ≤ 17592186044415 := by obtain ⟨_, _, _, hl, _⟩ := hu; exact hl
  go_enter Try.func92, Try.ntmps92
  refine gc_enter (N := 132) rfl (look_cons (k := 0) rfl (look_cons (k := 1) rfl (look_nil _))) ?_
  refine gc_seq fun K1 hK1 => ?_
  refine gc_region ?_
  refine g_op (.free rfl) fun K3 hK3 => ?_
  refine go_box rfl rfl rfl rfl rfl ?_
  intro B2
  refine hK3 _ _ ?_
  refine g_v (.free rfl) rfl rfl (qt_assign rfl rfl) ?_
  refine g_nil ?_
  refine gk_then (hK1 _ _ ?_)
  refine gc_seq fun K4 hK4 => ?_
  refine gc_region ?_
  refine g_v (.free rfl) rfl rfl (qt_field (z := 0) (off := 1) rfl rfl Try.underlying30 rfl (by kernel_rfl) rfl) ?_
  refine g_v (.free rfl) rfl rfl (qt_loadB (n := 0) rfl rfl Try.underlying22 rfl rfl rfl) ?_
  refine g_v (.free rfl) rfl rfl (qt_len rfl rfl ulE1 (fun w M => lenV_rd h1)) ?_
  refine g_op (.free rfl) fun K6 hK6 => ?_
  refine go_makeB rfl rfl rfl Try.underlying116 rfl rfl (by omega) ?_
  intro B5
  refine hK6 _ _ ?_
  refine g_v (.free rfl) rfl rfl (qt_assign rfl rfl) ?_
  refine g_nil ?_
  refine gk_then (hK4 _ _ ?_)
  refine gc_seq fun K7 hK7 => ?_
  refine gc_seq fun K8 hK8 => ?_
  refine gc_region ?_
  refine g_v (.free rfl) rfl rfl (qt_assign rfl rfl) ?_
  refine g_nil ?_
  refine gk_then (hK8 _ _ ?_)
  refine gc_block ?_
  try simp only [List.nil_append, List.cons_append, List.append_assoc, List.set_cons_succ, List.set_cons_zero]
  refine gc_loop ([(0, _), (1, _), (2, _), (4, _), (5, _)] : Env) (fun s : Nat × (List Bool) => (fun (k : Nat) (bs : List Bool) => ([(6, .int .i64 (k : Int))] : Env)) s.1 s.2) (fun s : Nat × (List Bool) => (fun (k : Nat) (bs : List Bool) => ([(1, ownBI (.slice (some ⟨B5, 0, none⟩) c.s.length c.s.length) bs)] : List (Nat × Itm))) s.1 s.2) (fun s : Nat × (List Bool) => (fun (k : Nat) (bs : List Bool) => k ≤ xs.length ∧ bs.length = c.s.length ∧ Seeds c xs bs k ∧ Sound c xs bs) s.1 s.2) (fun s : Nat × (List Bool) => (fun (k : Nat) (bs : List Bool) => xs.length - k) s.1 s.2) (0, List.replicate c.s.length false) (sub_cons rfl (sub_cons rfl (sub_cons rfl (sub_cons rfl (sub_cons rfl (sub_cons rfl sub_nil)))))) rfl ⟨Nat.zero_le _, by simp, fun j hj => absurd hj (by omega), sound_zero c xs _⟩ ?_
  rintro ⟨k, bs⟩ hinv KL9 hKL9
  simp only [updL, List.foldl_cons, List.foldl_nil, List.set_cons_succ, List.set_cons_zero, List.cons_append, List.nil_append] at hinv hKL9 ⊢
  obtain ⟨hk, hbl, hsd, hso⟩ := hinv
  refine gc_seq fun K10 hK10 => ?_
  refine gc_seq fun K11 hK11 => ?_
  refine gc_region ?_
  refine g_v (.free rfl) rfl rfl (qt_move rfl rfl) ?_
  refine g_v (.free rfl) rfl rfl (qt_move rfl rfl) ?_
  refine g_v (.free rfl) rfl rfl (qt_len rfl rfl ulE1 (fun w M => lenV_rd hu)) ?_
  refine g_v (.free rfl) rfl rfl (qt_lss rfl rfl rfl) ?_
  refine g_nil ?_
  refine gk_then (hK11 _ _ ?_)
  refine gc_cond rfl (fun hc0 => ?_) (fun hc0 => ?_)
  · try simp only [decide_eq_true_eq, decide_eq_false_iff_not, Bool.not_eq_true', Bool.not_eq_false', Bool.not_eq_eq_eq_not, Bool.not_true, Bool.not_false, ne_eq, Decidable.not_not, Classical.not_not] at hc0
    refine gc_skip ?_
    refine gk_then (hK10 _ _ ?_)
    refine gc_seq fun K12 hK12 => ?_
    refine gc_block ?_
    refine gc_seq fun K13 hK13 => ?_
    have hq := seed_pos hS hx (j := k) (by omega)
    obtain ⟨p0, p1, p2, p3, p4, p5⟩ := hq
    have hA := arrP hS p0 p1
    have a1 := hA.fs; have a2 := hA.ft; have a3 := hA.s0; have a4 := hA.s1; have a5 := hA.t0; have a6 := hA.t1
    refine gc_region ?_
    refine g_v (.free rfl) rfl rfl (qt_move rfl rfl) ?_
    refine g_v (.free rfl) rfl rfl (qt_move rfl rfl) ?_
    refine g_v (.free rfl) rfl rfl (qt_move rfl rfl) ?_
    refine g_v (.free rfl) rfl rfl (qt_index rfl rfl rfl ulE1 szE1 (fun w M => lenA_rd hu) (by omega) (by omega)) ?_
    refine g_v (.free rfl) rfl rfl (qt_load1 rfl rfl Try.underlying2 rfl (fun w M => mem_rd M hu) (by omega) (by omega)) ?_
    refine g_v (.free rfl) rfl rfl (qt_index rfl rfl rfl ulEB szEB (fun w M => lenA_B (n := 1) rfl M) (by omega) (by omega)) ?_
    refine g_op (.free rfl) fun K14 hK14 => ?_
    refine go_storeBool (n := 1) rfl rfl rfl rfl (by kernel_rfl) rfl (by omega) (by omega) ?_
    refine hK14 _ _ ?_
    refine g_nil ?_
    refine gk_then (hK13 _ _ ?_)
    refine gc_seq fun K15 hK15 => ?_
    have hb1 : (bs.set (at0 xs (k : Int)).toNat true).length = c.s.length := by simp [hbl]
    try simp only [List.nil_append, List.cons_append, List.append_assoc, List.set_cons_succ, List.set_cons_zero]
    refine ga_start _ (fun w M => mem_erase 1 (M)) ?_
    refine ga_v 0 rfl (by kernel_rfl) (by kernel_rfl) (by kernel_rfl) (.free rfl) rfl rfl (qt_move rfl rfl) (fun _ _ _ h => h) ?_
    refine ga_v 1 rfl (by kernel_rfl) (by kernel_rfl) (by kernel_rfl) (.free rfl) rfl rfl (qt_field (z := 0) (off := 3) rfl rfl Try.underlying30 rfl (by kernel_rfl) rfl) (fun _ _ _ h => h) ?_
    refine ga_v 2 rfl (by kernel_rfl) (by kernel_rfl) (by kernel_rfl) (.free rfl) rfl rfl (qt_loadB (n := 0) rfl rfl Try.underlying22 rfl rfl rfl) (fun _ _ _ h => h) ?_
    refine ga_v 3 rfl (by kernel_rfl) (by kernel_rfl) (by kernel_rfl) (.free rfl) rfl rfl (qt_field (z := 0) (off := 1) rfl rfl Try.underlying30 rfl (by kernel_rfl) rfl) (fun _ _ _ h => h) ?_
    refine ga_v 4 rfl (by kernel_rfl) (by kernel_rfl) (by kernel_rfl) (.free rfl) rfl rfl (qt_loadB (n := 0) rfl rfl Try.underlying22 rfl rfl rfl) (fun _ _ _ h => h) ?_
    refine ga_v 5 rfl (by kernel_rfl) (by kernel_rfl) (by kernel_rfl) (.free rfl) rfl rfl (qt_move rfl rfl) (fun _ _ _ h => h) ?_
    refine ga_v 6 rfl (by kernel_rfl) (by kernel_rfl) (by kernel_rfl) (.free rfl) rfl rfl (qt_move rfl rfl) (fun _ _ _ h => h) ?_
    refine ga_v 7 rfl (by kernel_rfl) (by kernel_rfl) (by kernel_rfl) (.free rfl) rfl rfl (qt_index rfl rfl rfl ulE1 szE1 (fun w M => lenA_rd hu) (by omega) (by omega)) (fun _ _ _ h => h) ?_
    refine ga_v 8 rfl (by kernel_rfl) (by kernel_rfl) (by kernel_rfl) (.free rfl) rfl rfl (qt_load1 rfl rfl Try.underlying2 rfl (fun w M => mem_rd M hu) (by omega) (by omega)) (fun _ _ _ h => h) ?_
    refine ga_v 9 rfl (by kernel_rfl) (by kernel_rfl) (by kernel_rfl) (.free rfl) rfl rfl (qt_index rfl rfl rfl ulE1 szE1 (fun w M => lenA_rd h1) (by omega) (by omega)) (fun _ _ _ h => h) ?_
    refine ga_v 10 rfl (by kernel_rfl) (by kernel_rfl) (by kernel_rfl) (.free rfl) rfl rfl (qt_load1 rfl rfl Try.underlying2 rfl (fun w M => mem_rd M h1) (by omega) (by omega)) (fun _ _ _ h => h) ?_
    refine ga_v 11 rfl (by kernel_rfl) (by kernel_rfl) (by kernel_rfl) (.free rfl) rfl rfl (qt_index rfl rfl rfl ulE1 szE1 (fun w M => lenA_rd h3) (by omega) (by omega)) (fun _ _ _ h => h) ?_
    refine ga_v 12 rfl (by kernel_rfl) (by kernel_rfl) (by kernel_rfl) (.free rfl) rfl rfl (qt_load1 rfl rfl Try.underlying2 rfl (fun w M => mem_rd M h3) (by omega) (by omega)) (fun _ _ _ h => h) ?_
    refine ga_op 13 (by kernel_rfl) rfl (.free rfl) fun K16 hK16 => ?_
    refine go_v rfl rfl (qt_index rfl rfl rfl ulEB szEB (fun w M => lenA_B (n := 1) rfl M) (by omega) (by omega)) ?_
    refine hK16 _ _ (fun w M => (mem_erase 1 (mem_take 2 M) :)) ?_
    refine ga_op 14 (by kernel_rfl) rfl (.free rfl) fun K17 hK17 => ?_
    refine go_storeBool (n := 1) rfl rfl rfl rfl (by kernel_rfl) rfl (by omega) (by omega) ?_
    refine hK17 _ _ (fun w M => (mem_erase 1 (mem_take 2 M) :)) ?_
    refine ga_done (by kernel_rfl) ?_
    refine gk_then (hK15 _ _ ?_)
    have hb2 : ((bs.set (at0 xs (k : Int)).toNat true).set (at0 c.e (at0 c.s (at0 xs (k : Int)))).toNat true).length = c.s.length := by simp [hbl]
    try simp only [List.nil_append, List.cons_append, List.append_assoc, List.set_cons_succ, List.set_cons_zero]
    refine ga_start _ (fun w M => mem_erase 1 (M)) ?_
    refine ga_v 0 rfl (by kernel_rfl) (by kernel_rfl) (by kernel_rfl) (.free rfl) rfl rfl (qt_move rfl rfl) (fun _ _ _ h => h) ?_
    refine ga_v 1 rfl (by kernel_rfl) (by kernel_rfl) (by kernel_rfl) (.free rfl) rfl rfl (qt_field (z := 0) (off := 3) rfl rfl Try.underlying30 rfl (by kernel_rfl) rfl) (fun _ _ _ h => h) ?_
    refine ga_v 2 rfl (by kernel_rfl) (by kernel_rfl) (by kernel_rfl) (.free rfl) rfl rfl (qt_loadB (n := 0) rfl rfl Try.underlying22 rfl rfl rfl) (fun _ _ _ h => h) ?_
    refine ga_v 3 rfl (by kernel_rfl) (by kernel_rfl) (by kernel_rfl) (.free rfl) rfl rfl (qt_field (z := 0) (off := 2) rfl rfl Try.underlying30 rfl (by kernel_rfl) rfl) (fun _ _ _ h => h) ?_
    refine ga_v 4 rfl (by kernel_rfl) (by kernel_rfl) (by kernel_rfl) (.free rfl) rfl rfl (qt_loadB (n := 0) rfl rfl Try.underlying22 rfl rfl rfl) (fun _ _ _ h => h) ?_
    refine ga_v 5 rfl (by kernel_rfl) (by kernel_rfl) (by kernel_rfl) (.free rfl) rfl rfl (qt_move rfl rfl) (fun _ _ _ h => h) ?_
    refine ga_v 6 rfl (by kernel_rfl) (by kernel_rfl) (by kernel_rfl) (.free rfl) rfl rfl (qt_move rfl rfl) (fun _ _ _ h => h) ?_
    refine ga_v 7 rfl (by kernel_rfl) (by kernel_rfl) (by kernel_rfl) (.free rfl) rfl rfl (qt_index rfl rfl rfl ulE1 szE1 (fun w M => lenA_rd hu) (by omega) (by omega)) (fun _ _ _ h => h) ?_
    refine ga_v 8 rfl (by kernel_rfl) (by kernel_rfl) (by kernel_rfl) (.free rfl) rfl rfl (qt_load1 rfl rfl Try.underlying2 rfl (fun w M => mem_rd M hu) (by omega) (by omega)) (fun _ _ _ h => h) ?_
    refine ga_v 9 rfl (by kernel_rfl) (by kernel_rfl) (by kernel_rfl) (.free rfl) rfl rfl (qt_index rfl rfl rfl ulE1 szE1 (fun w M => lenA_rd h2) (by omega) (by omega)) (fun _ _ _ h => h) ?_
    refine ga_v 10 rfl (by kernel_rfl) (by kernel_rfl) (by kernel_rfl) (.free rfl) rfl rfl (qt_load1 rfl rfl Try.underlying2 rfl (fun w M => mem_rd M h2) (by omega) (by omega)) (fun _ _ _ h => h) ?_
    refine ga_v 11 rfl (by kernel_rfl) (by kernel_rfl) (by kernel_rfl) (.free rfl) rfl rfl (qt_index rfl rfl rfl ulE1 szE1 (fun w M => lenA_rd h3) (by omega) (by omega)) (fun _ _ _ h => h) ?_
    refine ga_v 12 rfl (by kernel_rfl) (by kernel_rfl) (by kernel_rfl) (.free rfl) rfl rfl (qt_load1 rfl rfl Try.underlying2 rfl (fun w M => mem_rd M h3) (by omega) (by omega)) (fun _ _ _ h => h) ?_
    refine ga_op 13 (by kernel_rfl) rfl (.free rfl) fun K18 hK18 => ?_
    refine go_v rfl rfl (qt_index rfl rfl rfl ulEB szEB (fun w M => lenA_B (n := 1) rfl M) (by omega) (by omega)) ?_
    refine hK18 _ _ (fun w M => (mem_erase 1 (mem_take 2 M) :)) ?_
    refine ga_op 14 (by kernel_rfl) rfl (.free rfl) fun K19 hK19 => ?_
    refine go_storeBool (n := 1) rfl rfl rfl rfl (by kernel_rfl) rfl (by omega) (by omega) ?_
    refine hK19 _ _ (fun w M => (mem_erase 1 (mem_take 2 M) :)) ?_
    refine ga_done (by kernel_rfl) ?_
    refine gk_block ?_
    refine gk_then (hK12 _ _ ?_)
    refine gc_region ?_
    refine g_v (.free rfl) rfl rfl (qt_move rfl rfl) ?_
    refine g_v (.free rfl) rfl rfl (qt_add rfl rfl rfl (by omega)) ?_
    refine g_v (.free rfl) rfl rfl (qt_assign rfl rfl) ?_
    refine g_nil ?_
    refine gk_then (gk_take 2 ?_)
    refine gk_sub ?hs_20 (hKL9 (k + 1, _) ?hi_20 ?hm_20)
    case hs_20 => exact (sub_cons rfl (sub_cons rfl (sub_cons rfl (sub_cons rfl (sub_cons rfl (sub_cons rfl sub_nil))))))
    case hi_20 => have hnx := seeds_next hS hx (by omega) hbl hsd hso; exact ⟨by omega, hnx⟩
    case hm_20 => omega
  · try simp only [decide_eq_true_eq, decide_eq_false_iff_not, Bool.not_eq_true', Bool.not_eq_false', Bool.not_eq_eq_eq_not, Bool.not_true, Bool.not_false, ne_eq, Decidable.not_not, Classical.not_not] at hc0
    refine gc_exit ?_
    refine gk_then_exit ?_
    refine gk_then_exit ?_
    refine gk_block_hit ?_
    refine gk_then (hK7 _ _ ?_)
    refine gc_seq fun K21 hK21 => ?_
    refine gc_seq fun K22 hK22 => ?_
    refine gc_region ?_
    refine g_v (.free rfl) rfl rfl (qt_assign rfl rfl) ?_
    refine g_nil ?_
    refine gk_then (hK22 _ _ ?_)
    refine gc_block ?_
    obtain rfl : k = xs.length := by omega
    try simp only [List.nil_append, List.cons_append, List.append_assoc, List.set_cons_succ, List.set_cons_zero]
    refine gc_loop ([(0, _), (1, _), (2, _), (4, _), (5, _), (6, _), (19, _)] : Env) (fun s : Bool × (List Bool) => (fun (mo : Bool) (b1 : List Bool) => ([(7, .bool mo)] : Env)) s.1 s.2) (fun s : Bool × (List Bool) => (fun (mo : Bool) (b1 : List Bool) => ([(1, ownBI (.slice (some ⟨B5, 0, none⟩) c.s.length c.s.length) b1)] : List (Nat × Itm))) s.1 s.2) (fun s : Bool × (List Bool) => (fun (mo : Bool) (b1 : List Bool) => CloseI c xs b1 ∧ (mo = false → ClosedTo c b1 c.s.length 0)) s.1 s.2) (fun s : Bool × (List Bool) => (fun (mo : Bool) (b1 : List Bool) => cntF b1 + bN mo) s.1 s.2) (true, bs) (sub_cons rfl (sub_cons rfl (sub_cons rfl (sub_cons rfl (sub_cons rfl (sub_cons rfl (sub_cons rfl (sub_cons rfl sub_nil)))))))) rfl ⟨⟨hbl, hsd, hso⟩, fun h => by cases h⟩ ?_
    rintro ⟨mo, b1⟩ hinv KL23 hKL23
    simp only [updL, List.foldl_cons, List.foldl_nil, List.set_cons_succ, List.set_cons_zero, List.cons_append, List.nil_append] at hinv hKL23 ⊢
    obtain ⟨hci, hcl⟩ := hinv
    refine gc_seq fun K24 hK24 => ?_
    refine gc_seq fun K25 hK25 => ?_
    refine gc_region ?_
    refine g_v (.free rfl) rfl rfl (qt_move rfl rfl) ?_
    refine g_nil ?_
    refine gk_then (hK25 _ _ ?_)
    refine gc_cond rfl (fun hc1 => ?_) (fun hc1 => ?_)
    · try simp only [decide_eq_true_eq, decide_eq_false_iff_not, Bool.not_eq_true', Bool.not_eq_false', Bool.not_eq_eq_eq_not, Bool.not_true, Bool.not_false, ne_eq, Decidable.not_not, Classical.not_not] at hc1
      refine gc_skip ?_
      refine gk_then (hK24 _ _ ?_)
      refine gc_block ?_
      refine gc_seq fun K26 hK26 => ?_
      refine gc_region ?_
      refine g_v (.free rfl) rfl rfl (qt_assign rfl rfl) ?_
      refine g_nil ?_
      refine gk_then (hK26 _ _ ?_)
      refine gc_seq fun K27 hK27 => ?_
      refine gc_region ?_
      refine g_v (.free rfl) rfl rfl (qt_assign rfl rfl) ?_
      refine g_nil ?_
      refine gk_then (hK27 _ _ ?_)
      refine gc_block ?_
      try simp only [List.nil_append, List.cons_append, List.append_assoc, List.set_cons_succ, List.set_cons_zero]
      refine gc_loop ([(0, _), (1, _), (2, _), (4, _), (5, _), (6, _), (19, _), (56, _)] : Env) (fun s : Nat × Bool × (List Bool) => (fun (f : Nat) (mo1 : Bool) (b2 : List Bool) => ([(7, .bool mo1), (8, .int .i64 (f : Int))] : Env)) s.1 s.2.1 s.2.2) (fun s : Nat × Bool × (List Bool) => (fun (f : Nat) (mo1 : Bool) (b2 : List Bool) => ([(1, ownBI (.slice (some ⟨B5, 0, none⟩) c.s.length c.s.length) b2)] : List (Nat × Itm))) s.1 s.2.1 s.2.2) (fun s : Nat × Bool × (List Bool) => (fun (f : Nat) (mo1 : Bool) (b2 : List Bool) => f ≤ c.s.length ∧ CloseI c xs b2 ∧ (mo1 = false → ClosedTo c b2 f 0) ∧ cntF b2 + bN mo1 ≤ cntF b1) s.1 s.2.1 s.2.2) (fun s : Nat × Bool × (List Bool) => (fun (f : Nat) (mo1 : Bool) (b2 : List Bool) => c.s.length - f) s.1 s.2.1 s.2.2) (0, false, b1) (sub_cons rfl (sub_cons rfl (sub_cons rfl (sub_cons rfl (sub_cons rfl (sub_cons rfl (sub_cons rfl (sub_cons rfl (sub_cons rfl (sub_cons rfl sub_nil)))))))))) rfl ⟨Nat.zero_le _, hci, fun _ => closedTo_zero c b1, Nat.le_refl _⟩ ?_
      rintro ⟨f, mo1, b2⟩ hinv KL28 hKL28
      simp only [updL, List.foldl_cons, List.foldl_nil, List.set_cons_succ, List.set_cons_zero, List.cons_append, List.nil_append] at hinv hKL28 ⊢
      obtain ⟨hf, hci2, hcl2, hcn2⟩ := hinv
      have hl2 := hci2.1
      refine gc_seq fun K29 hK29 => ?_
      refine gc_seq fun K30 hK30 => ?_
      refine gc_region ?_
      refine g_v (.free rfl) rfl rfl (qt_move rfl rfl) ?_
      refine g_v (.free rfl) rfl rfl (qt_move rfl rfl) ?_
      refine g_v (.free rfl) rfl rfl (qt_len rfl rfl ulEB (fun w M => lenV_B (n := 1) rfl M)) ?_
      refine g_v (.free rfl) rfl rfl (qt_lss rfl rfl rfl) ?_
      refine g_nil ?_
      refine gk_then (hK30 _ _ ?_)
      refine gc_cond rfl (fun hc2 => ?_) (fun hc2 => ?_)
      · try simp only [decide_eq_true_eq, decide_eq_false_iff_not, Bool.not_eq_true', Bool.not_eq_false', Bool.not_eq_eq_eq_not, Bool.not_true, Bool.not_false, ne_eq, Decidable.not_not, Classical.not_not] at hc2
        refine gc_skip ?_
        refine gk_then (hK29 _ _ ?_)
        refine gc_seq fun K31 hK31 => ?_
        refine gc_block ?_
        refine gc_seq fun K32 hK32 => ?_
        refine gc_region ?_
        refine g_v (.free rfl) rfl rfl (qt_assign rfl rfl) ?_
        refine g_nil ?_
        refine gk_then (hK32 _ _ ?_)
        refine gc_block ?_
        try simp only [List.nil_append, List.cons_append, List.append_assoc, List.set_cons_succ, List.set_cons_zero]
        refine gc_loop ([(0, _), (1, _), (2, _), (4, _), (5, _), (6, _), (8, _), (19, _), (56, _), (60, _)] : Env) (fun s : Nat × Bool × (List Bool) => (fun (g : Nat) (mo2 : Bool) (b3 : List Bool) => ([(7, .bool mo2), (9, .int .i64 (g : Int))] : Env)) s.1 s.2.1 s.2.2) (fun s : Nat × Bool × (List Bool) => (fun (g : Nat) (mo2 : Bool) (b3 : List Bool) => ([(1, ownBI (.slice (some ⟨B5, 0, none⟩) c.s.length c.s.length) b3)] : List (Nat × Itm))) s.1 s.2.1 s.2.2) (fun s : Nat × Bool × (List Bool) => (fun (g : Nat) (mo2 : Bool) (b3 : List Bool) => g ≤ c.s.length ∧ CloseI c xs b3 ∧ (mo2 = false → ClosedTo c b3 f g) ∧ cntF b3 + bN mo2 ≤ cntF b1) s.1 s.2.1 s.2.2) (fun s : Nat × Bool × (List Bool) => (fun (g : Nat) (mo2 : Bool) (b3 : List Bool) => c.s.length - g) s.1 s.2.1 s.2.2) (0, mo1, b2) (sub_cons rfl (sub_cons rfl (sub_cons rfl (sub_cons rfl (sub_cons rfl (sub_cons rfl (sub_cons rfl (sub_cons rfl (sub_cons rfl (sub_cons rfl (sub_cons rfl (sub_cons rfl sub_nil)))))))))))) rfl ⟨Nat.zero_le _, hci2, hcl2, hcn2⟩ ?_
        rintro ⟨g, mo2, b3⟩ hinv KL33 hKL33
        simp only [updL, List.foldl_cons, List.foldl_nil, List.set_cons_succ, List.set_cons_zero, List.cons_append, List.nil_append] at hinv hKL33 ⊢
        obtain ⟨hg, hci3, hcl3, hcn3⟩ := hinv
        have hl3 := hci3.1
        refine gc_seq fun K34 hK34 => ?_
        refine gc_seq fun K35 hK35 => ?_
        refine gc_region ?_
        refine g_v (.free rfl) rfl rfl (qt_move rfl rfl) ?_
        refine g_v (.free rfl) rfl rfl (qt_move rfl rfl) ?_
        refine g_v (.free rfl) rfl rfl (qt_len rfl rfl ulEB (fun w M => lenV_B (n := 1) rfl M)) ?_
        refine g_v (.free rfl) rfl rfl (qt_lss rfl rfl rfl) ?_
        refine g_nil ?_
        refine gk_then (hK35 _ _ ?_)
        refine gc_cond rfl (fun hc3 => ?_) (fun hc3 => ?_)
        · try simp only [decide_eq_true_eq, decide_eq_false_iff_not, Bool.not_eq_true', Bool.not_eq_false', Bool.not_eq_eq_eq_not, Bool.not_true, Bool.not_false, ne_eq, Decidable.not_not, Classical.not_not] at hc3
          refine gc_skip ?_
          refine gk_then (hK34 _ _ ?_)
          refine gc_seq fun K36 hK36 => ?_
          refine gc_block ?_
          refine gc_seq fun K37 hK37 => ?_
          have hA := arrP hS (f := (f : Int)) (by omega) (by omega)
          have hB := arrP hS (f := (g : Int)) (by omega) (by omega)
          have i1 := hA.fs; have i2 := hA.ft; have i3 := hA.fm; have i4 := hA.row; have j1 := hB.fs; have j2 := hB.ft; have j3 := hB.fm
          refine gc_draw (by kernel_rfl) ?_
          refine gd_v (.free rfl) rfl rfl (qt_move rfl rfl) ?_
          refine gd_v (.free rfl) rfl rfl (qt_move rfl rfl) ?_
          refine gd_v (.free rfl) rfl rfl (qt_index rfl rfl rfl ulEB szEB (fun w M => lenA_B (n := 1) rfl M) (by omega) (by omega)) ?_
          refine gd_v (.free rfl) rfl rfl (qt_loadBool (n := 1) rfl rfl Try.underlying4 rfl rfl (by omega) (by omega)) ?_
          refine gd_splitv (.free rfl) rfl rfl (qt_move rfl rfl) (fun hs17_4 => ?_) (fun hs17_4 => ?_)
          · try simp only [decide_eq_true_eq, decide_eq_false_iff_not, Bool.not_eq_true', Bool.not_eq_false', Bool.not_eq_eq_eq_not, Bool.not_true, Bool.not_false, ne_eq, Decidable.not_not, Classical.not_not] at hs17_4
            refine gd_v (.held _ _ _ rfl rfl rfl) rfl rfl (qt_move rfl rfl) ?_
            refine gd_v (.held _ _ _ rfl rfl rfl) rfl rfl (qt_move rfl rfl) ?_
            refine gd_v (.held _ _ _ rfl rfl rfl) rfl rfl (qt_index rfl rfl rfl ulEB szEB (fun w M => lenA_B (n := 1) rfl M) (by omega) (by omega)) ?_
            refine gd_v (.held _ _ _ rfl rfl rfl) rfl rfl (qt_loadBool (n := 1) rfl rfl Try.underlying4 rfl rfl (by omega) (by omega)) ?_
            refine gd_v (.free rfl) rfl rfl (qt_pick_t rfl rfl rfl) ?_
            refine gd_splitv (.free rfl) rfl rfl (qt_move rfl rfl) (fun hs17_10 => ?_) (fun hs17_10 => ?_)
            · try simp only [decide_eq_true_eq, decide_eq_false_iff_not, Bool.not_eq_true', Bool.not_eq_false', Bool.not_eq_eq_eq_not, Bool.not_true, Bool.not_false, ne_eq, Decidable.not_not, Classical.not_not] at hs17_10
              refine gd_v (.held _ _ _ rfl rfl rfl) rfl rfl (qt_field (z := 0) (off := 2) rfl rfl Try.underlying30 rfl (by kernel_rfl) rfl) ?_
              refine gd_v (.held _ _ _ rfl rfl rfl) rfl rfl (qt_loadB (n := 0) rfl rfl Try.underlying22 rfl rfl rfl) ?_
              refine gd_v (.held _ _ _ rfl rfl rfl) rfl rfl (qt_move rfl rfl) ?_
              refine gd_v (.held _ _ _ rfl rfl rfl) rfl rfl (qt_index rfl rfl rfl ulE1 szE1 (fun w M => lenA_rd h2) (by omega) (by omega)) ?_
              refine gd_v (.held _ _ _ rfl rfl rfl) rfl rfl (qt_load1 rfl rfl Try.underlying2 rfl (fun w M => mem_rd M h2) (by omega) (by omega)) ?_
              refine gd_v (.held _ _ _ rfl rfl rfl) rfl rfl (qt_field (z := 0) (off := 1) rfl rfl Try.underlying30 rfl (by kernel_rfl) rfl) ?_
              refine gd_v (.held _ _ _ rfl rfl rfl) rfl rfl (qt_loadB (n := 0) rfl rfl Try.underlying22 rfl rfl rfl) ?_
              refine gd_v (.held _ _ _ rfl rfl rfl) rfl rfl (qt_move rfl rfl) ?_
              refine gd_v (.held _ _ _ rfl rfl rfl) rfl rfl (qt_index rfl rfl rfl ulE1 szE1 (fun w M => lenA_rd h1) (by omega) (by omega)) ?_
              refine gd_v (.held _ _ _ rfl rfl rfl) rfl rfl (qt_load1 rfl rfl Try.underlying2 rfl (fun w M => mem_rd M h1) (by omega) (by omega)) ?_
              refine gd_v (.held _ _ _ rfl rfl rfl) rfl rfl (qt_eql rfl rfl rfl) ?_
              refine gd_v (.free rfl) rfl rfl (qt_pick_t rfl rfl rfl) ?_
              refine gd_splitv (.free rfl) rfl rfl (qt_move rfl rfl) (fun hs17_23 => ?_) (fun hs17_23 => ?_)
              · try simp only [decide_eq_true_eq, decide_eq_false_iff_not, Bool.not_eq_true', Bool.not_eq_false', Bool.not_eq_eq_eq_not, Bool.not_true, Bool.not_false, ne_eq, Decidable.not_not, Classical.not_not] at hs17_23
                have hT := th_ends hS (f := (f : Int)) (g := (g : Int)) (by omega) (by omega) (by omega) (by omega) hs17_23
                have t0 : 0 ≤ at0 (row2 c.m (f : Int)) (g : Int) := hT.1.1
                have t1 : at0 (row2 c.m (f : Int)) (g : Int) < c.s.length := hT.1.2
                refine gd_v (.held _ _ _ rfl rfl rfl) rfl rfl (qt_move rfl rfl) ?_
                refine gd_v (.held _ _ _ rfl rfl rfl) rfl rfl (qt_field (z := 0) (off := 4) rfl rfl Try.underlying30 rfl (by kernel_rfl) rfl) ?_
                refine gd_v (.held _ _ _ rfl rfl rfl) rfl rfl (qt_loadB (n := 0) rfl rfl Try.underlying23 rfl rfl rfl) ?_
                refine gd_v (.held _ _ _ rfl rfl rfl) rfl rfl (qt_move rfl rfl) ?_
                refine gd_v (.held _ _ _ rfl rfl rfl) rfl rfl (qt_index rfl rfl rfl ulE2 szE2 (fun w M => lenA_rd2 h4) (by omega) (by omega)) ?_
                refine gd_load2 (.held _ _ _ rfl rfl rfl) rfl rfl rfl rfl Try.underlying22 rfl h4 (by omega) (by omega) ?_
                intro ra38 rc38 hr38
                refine gd_v (.held _ _ _ rfl rfl rfl) rfl rfl (qt_move rfl rfl) ?_
                refine gd_v (.held _ _ _ rfl rfl rfl) rfl rfl (qt_index rfl rfl rfl ulE1 szE1 (fun w M => lenA_rd hr38) (by omega) (by omega)) ?_
                refine gd_v (.held _ _ _ rfl rfl rfl) rfl rfl (qt_load1 rfl rfl Try.underlying2 rfl (fun w M => mem_rd M hr38) (by omega) (by omega)) ?_
                refine gd_v (.held _ _ _ rfl rfl rfl) rfl rfl (qt_index rfl rfl rfl ulEB szEB (fun w M => lenA_B (n := 1) rfl M) (by omega) (by omega)) ?_
                refine gd_v (.held _ _ _ rfl rfl rfl) rfl rfl (qt_loadBool (n := 1) rfl rfl Try.underlying4 rfl rfl (by omega) (by omega)) ?_
                refine gd_v (.held _ _ _ rfl rfl rfl) rfl rfl (qt_not rfl rfl) ?_
                refine gd_v (.free rfl) rfl rfl (qt_pick_t rfl rfl rfl) ?_
                refine gd_nil ?_
                refine gk_then (hK37 _ _ ?_)
                refine gc_cond rfl (fun hc4 => ?_) (fun hc4 => ?_)
                · try simp only [decide_eq_true_eq, decide_eq_false_iff_not, Bool.not_eq_true', Bool.not_eq_false', Bool.not_eq_eq_eq_not, Bool.not_true, Bool.not_false, ne_eq, Decidable.not_not, Classical.not_not] at hc4
                  refine gc_seq fun K39 hK39 => ?_
                  refine gc_region ?_
                  refine g_v (.free rfl) rfl rfl (qt_move rfl rfl) ?_
                  refine g_v (.free rfl) rfl rfl (qt_field (z := 0) (off := 4) rfl rfl Try.underlying30 rfl (by kernel_rfl) rfl) ?_
                  refine g_v (.free rfl) rfl rfl (qt_loadB (n := 0) rfl rfl Try.underlying23 rfl rfl rfl) ?_
                  refine g_v (.free rfl) rfl rfl (qt_move rfl rfl) ?_
                  refine g_v (.free rfl) rfl rfl (qt_index rfl rfl rfl ulE2 szE2 (fun w M => lenA_rd2 h4) (by omega) (by omega)) ?_
                  refine g_load2 (.free rfl) rfl rfl rfl rfl Try.underlying22 rfl h4 (by omega) (by omega) ?_
                  intro ra40 rc40 hr40
                  refine g_v (.free rfl) rfl rfl (qt_move rfl rfl) ?_
                  refine g_v (.free rfl) rfl rfl (qt_index rfl rfl rfl ulE1 szE1 (fun w M => lenA_rd hr40) (by omega) (by omega)) ?_
                  refine g_v (.free rfl) rfl rfl (qt_load1 rfl rfl Try.underlying2 rfl (fun w M => mem_rd M hr40) (by omega) (by omega)) ?_
                  refine g_v (.free rfl) rfl rfl (qt_index rfl rfl rfl ulEB szEB (fun w M => lenA_B (n := 1) rfl M) (by omega) (by omega)) ?_
                  refine g_op (.free rfl) fun K41 hK41 => ?_
                  refine go_storeBool (n := 1) rfl rfl rfl rfl (by kernel_rfl) rfl (by omega) (by omega) ?_
                  refine hK41 _ _ ?_
                  refine g_nil ?_
                  refine gk_then (hK39 _ _ ?_)
                  refine gc_region ?_
                  refine g_v (.free rfl) rfl rfl (qt_assign rfl rfl) ?_
                  refine g_nil ?_
                  refine gk_block ?_
                  refine gk_then (hK36 _ _ ?_)
                  refine gc_region ?_
                  refine g_v (.free rfl) rfl rfl (qt_move rfl rfl) ?_
                  refine g_v (.free rfl) rfl rfl (qt_add rfl rfl rfl (by omega)) ?_
                  refine g_v (.free rfl) rfl rfl (qt_assign rfl rfl) ?_
                  refine g_nil ?_
                  refine gk_then (gk_take 2 ?_)
                  refine gk_sub ?hs_42 (hKL33 (g + 1, true, _) ?hi_42 ?hm_42)
                  case hs_42 => exact (sub_cons rfl (sub_cons rfl (sub_cons rfl (sub_cons rfl (sub_cons rfl (sub_cons rfl (sub_cons rfl (sub_cons rfl (sub_cons rfl (sub_cons rfl (sub_cons rfl (sub_cons rfl sub_nil))))))))))))
                  case hi_42 => have hcs := cntF_set (bs := b3) (k := (at0 (row2 c.m (f : Int)) (g : Int)).toNat) (by omega) hc4; exact ⟨by omega, closeI_set hS hx hci3 t0 t1 (Gen.comp (hci3.2.2 f hs17_4) (hci3.2.2 g hs17_10) hs17_23), fun h => Bool.noConfusion (show true = false from h), (show cntF (b3.set (at0 (row2 c.m (f : Int)) (g : Int)).toNat true) + 1 ≤ cntF b1 by omega)⟩
                  case hm_42 => omega
                · try simp only [decide_eq_true_eq, decide_eq_false_iff_not, Bool.not_eq_true', Bool.not_eq_false', Bool.not_eq_eq_eq_not, Bool.not_true, Bool.not_false, ne_eq, Decidable.not_not, Classical.not_not] at hc4
                  refine gc_skip ?_
                  refine gk_block ?_
                  refine gk_then (hK36 _ _ ?_)
                  refine gc_region ?_
                  refine g_v (.free rfl) rfl rfl (qt_move rfl rfl) ?_
                  refine g_v (.free rfl) rfl rfl (qt_add rfl rfl rfl (by omega)) ?_
                  refine g_v (.free rfl) rfl rfl (qt_assign rfl rfl) ?_
                  refine g_nil ?_
                  refine gk_then (gk_take 2 ?_)
                  refine gk_sub ?hs_43 (hKL33 (g + 1, mo2, b3) ?hi_43 ?hm_43)
                  case hs_43 => exact (sub_cons rfl (sub_cons rfl (sub_cons rfl (sub_cons rfl (sub_cons rfl (sub_cons rfl (sub_cons rfl (sub_cons rfl (sub_cons rfl (sub_cons rfl (sub_cons rfl (sub_cons rfl sub_nil))))))))))))
                  case hi_43 => exact ⟨by omega, hci3, fun h => closedTo_next (hcl3 h) (fun _ _ _ => hc4), hcn3⟩
                  case hm_43 => omega
              · try simp only [decide_eq_true_eq, decide_eq_false_iff_not, Bool.not_eq_true', Bool.not_eq_false', Bool.not_eq_eq_eq_not, Bool.not_true, Bool.not_false, ne_eq, Decidable.not_not, Classical.not_not] at hs17_23
                refine gd_skip (.not _ _ _ _ rfl rfl rfl rfl) rfl rfl ?_
                refine gd_skip (.not _ _ _ _ rfl rfl rfl rfl) rfl rfl ?_
                refine gd_skip (.not _ _ _ _ rfl rfl rfl rfl) rfl rfl ?_
                refine gd_skip (.not _ _ _ _ rfl rfl rfl rfl) rfl rfl ?_
                refine gd_skip (.not _ _ _ _ rfl rfl rfl rfl) rfl rfl ?_
                refine gd_skip (.not _ _ _ _ rfl rfl rfl rfl) rfl rfl ?_
                refine gd_skip (.not _ _ _ _ rfl rfl rfl rfl) rfl rfl ?_
                refine gd_skip (.not _ _ _ _ rfl rfl rfl rfl) rfl rfl ?_
                refine gd_skip (.not _ _ _ _ rfl rfl rfl rfl) rfl rfl ?_
                refine gd_skip (.not _ _ _ _ rfl rfl rfl rfl) rfl rfl ?_
                refine gd_skip (.not _ _ _ _ rfl rfl rfl rfl) rfl rfl ?_
                refine gd_skip (.not _ _ _ _ rfl rfl rfl rfl) rfl rfl ?_
                refine gd_v (.free rfl) rfl rfl (qt_pick_f rfl rfl rfl) ?_
                refine gd_nil ?_
                refine gk_then (hK37 _ _ ?_)
                refine gc_cond_f rfl ?_
                refine gc_skip ?_
                refine gk_block ?_
                refine gk_then (hK36 _ _ ?_)
                refine gc_region ?_
                refine g_v (.free rfl) rfl rfl (qt_move rfl rfl) ?_
                refine g_v (.free rfl) rfl rfl (qt_add rfl rfl rfl (by omega)) ?_
                refine g_v (.free rfl) rfl rfl (qt_assign rfl rfl) ?_
                refine g_nil ?_
                refine gk_then (gk_take 2 ?_)
                refine gk_sub ?hs_44 (hKL33 (g + 1, mo2, b3) ?hi_44 ?hm_44)
                case hs_44 => exact (sub_cons rfl (sub_cons rfl (sub_cons rfl (sub_cons rfl (sub_cons rfl (sub_cons rfl (sub_cons rfl (sub_cons rfl (sub_cons rfl (sub_cons rfl (sub_cons rfl (sub_cons rfl sub_nil))))))))))))
                case hi_44 => exact ⟨by omega, hci3, fun h => closedTo_next (hcl3 h) (fun _ _ he => absurd he hs17_23), hcn3⟩
                case hm_44 => omega
            · try simp only [decide_eq_true_eq, decide_eq_false_iff_not, Bool.not_eq_true', Bool.not_eq_false', Bool.not_eq_eq_eq_not, Bool.not_true, Bool.not_false, ne_eq, Decidable.not_not, Classical.not_not] at hs17_10
              refine gd_skip (.not _ _ _ _ rfl rfl rfl rfl) rfl rfl ?_
              refine gd_skip (.not _ _ _ _ rfl rfl rfl rfl) rfl rfl ?_
              refine gd_skip (.not _ _ _ _ rfl rfl rfl rfl) rfl rfl ?_
              refine gd_skip (.not _ _ _ _ rfl rfl rfl rfl) rfl rfl ?_
              refine gd_skip (.not _ _ _ _ rfl rfl rfl rfl) rfl rfl ?_
              refine gd_skip (.not _ _ _ _ rfl rfl rfl rfl) rfl rfl ?_
              refine gd_skip (.not _ _ _ _ rfl rfl rfl rfl) rfl rfl ?_
              refine gd_skip (.not _ _ _ _ rfl rfl rfl rfl) rfl rfl ?_
              refine gd_skip (.not _ _ _ _ rfl rfl rfl rfl) rfl rfl ?_
              refine gd_skip (.not _ _ _ _ rfl rfl rfl rfl) rfl rfl ?_
              refine gd_skip (.not _ _ _ _ rfl rfl rfl rfl) rfl rfl ?_
              refine gd_v (.free rfl) rfl rfl (qt_pick_f rfl rfl rfl) ?_
              refine gd_v (.free rfl) rfl rfl (qt_move rfl rfl) ?_
              refine gd_skip (.not _ _ _ _ rfl rfl rfl rfl) rfl rfl ?_
              refine gd_skip (.not _ _ _ _ rfl rfl rfl rfl) rfl rfl ?_
              refine gd_skip (.not _ _ _ _ rfl rfl rfl rfl) rfl rfl ?_
              refine gd_skip (.not _ _ _ _ rfl rfl rfl rfl) rfl rfl ?_
              refine gd_skip (.not _ _ _ _ rfl rfl rfl rfl) rfl rfl ?_
              refine gd_skip (.not _ _ _ _ rfl rfl rfl rfl) rfl rfl ?_
              refine gd_skip (.not _ _ _ _ rfl rfl rfl rfl) rfl rfl ?_
              refine gd_skip (.not _ _ _ _ rfl rfl rfl rfl) rfl rfl ?_
              refine gd_skip (.not _ _ _ _ rfl rfl rfl rfl) rfl rfl ?_
              refine gd_skip (.not _ _ _ _ rfl rfl rfl rfl) rfl rfl ?_
              refine gd_skip (.not _ _ _ _ rfl rfl rfl rfl) rfl rfl ?_
              refine gd_skip (.not _ _ _ _ rfl rfl rfl rfl) rfl rfl ?_
              refine gd_v (.free rfl) rfl rfl (qt_pick_f rfl rfl rfl) ?_
              refine gd_nil ?_
              refine gk_then (hK37 _ _ ?_)
              refine gc_cond_f rfl ?_
              refine gc_skip ?_
              refine gk_block ?_
              refine gk_then (hK36 _ _ ?_)
              refine gc_region ?_
              refine g_v (.free rfl) rfl rfl (qt_move rfl rfl) ?_
              refine g_v (.free rfl) rfl rfl (qt_add rfl rfl rfl (by omega)) ?_
              refine g_v (.free rfl) rfl rfl (qt_assign rfl rfl) ?_
              refine g_nil ?_
              refine gk_then (gk_take 2 ?_)
              refine gk_sub ?hs_45 (hKL33 (g + 1, mo2, b3) ?hi_45 ?hm_45)
              case hs_45 => exact (sub_cons rfl (sub_cons rfl (sub_cons rfl (sub_cons rfl (sub_cons rfl (sub_cons rfl (sub_cons rfl (sub_cons rfl (sub_cons rfl (sub_cons rfl (sub_cons rfl (sub_cons rfl sub_nil))))))))))))
              case hi_45 => exact ⟨by omega, hci3, fun h => closedTo_next (hcl3 h) (fun _ hg2 _ => by rw [hs17_10] at hg2; cases hg2), hcn3⟩
              case hm_45 => omega
          · try simp only [decide_eq_true_eq, decide_eq_false_iff_not, Bool.not_eq_true', Bool.not_eq_false', Bool.not_eq_eq_eq_not, Bool.not_true, Bool.not_false, ne_eq, Decidable.not_not, Classical.not_not] at hs17_4
            refine gd_skip (.not _ _ _ _ rfl rfl rfl rfl) rfl rfl ?_
            refine gd_skip (.not _ _ _ _ rfl rfl rfl rfl) rfl rfl ?_
            refine gd_skip (.not _ _ _ _ rfl rfl rfl rfl) rfl rfl ?_
            refine gd_skip (.not _ _ _ _ rfl rfl rfl rfl) rfl rfl ?_
            refine gd_v (.free rfl) rfl rfl (qt_pick_f rfl rfl rfl) ?_
            refine gd_v (.free rfl) rfl rfl (qt_move rfl rfl) ?_
            refine gd_skip (.not _ _ _ _ rfl rfl rfl rfl) rfl rfl ?_
            refine gd_skip (.not _ _ _ _ rfl rfl rfl rfl) rfl rfl ?_
            refine gd_skip (.not _ _ _ _ rfl rfl rfl rfl) rfl rfl ?_
            refine gd_skip (.not _ _ _ _ rfl rfl rfl rfl) rfl rfl ?_
            refine gd_skip (.not _ _ _ _ rfl rfl rfl rfl) rfl rfl ?_
            refine gd_skip (.not _ _ _ _ rfl rfl rfl rfl) rfl rfl ?_
            refine gd_skip (.not _ _ _ _ rfl rfl rfl rfl) rfl rfl ?_
            refine gd_skip (.not _ _ _ _ rfl rfl rfl rfl) rfl rfl ?_
            refine gd_skip (.not _ _ _ _ rfl rfl rfl rfl) rfl rfl ?_
            refine gd_skip (.not _ _ _ _ rfl rfl rfl rfl) rfl rfl ?_
            refine gd_skip (.not _ _ _ _ rfl rfl rfl rfl) rfl rfl ?_
            refine gd_v (.free rfl) rfl rfl (qt_pick_f rfl rfl rfl) ?_
            refine gd_v (.free rfl) rfl rfl (qt_move rfl rfl) ?_
            refine gd_skip (.not _ _ _ _ rfl rfl rfl rfl) rfl rfl ?_
            refine gd_skip (.not _ _ _ _ rfl rfl rfl rfl) rfl rfl ?_
            refine gd_skip (.not _ _ _ _ rfl rfl rfl rfl) rfl rfl ?_
            refine gd_skip (.not _ _ _ _ rfl rfl rfl rfl) rfl rfl ?_
            refine gd_skip (.not _ _ _ _ rfl rfl rfl rfl) rfl rfl ?_
            refine gd_skip (.not _ _ _ _ rfl rfl rfl rfl) rfl rfl ?_
            refine gd_skip (.not _ _ _ _ rfl rfl rfl rfl) rfl rfl ?_
            refine gd_skip (.not _ _ _ _ rfl rfl rfl rfl) rfl rfl ?_
            refine gd_skip (.not _ _ _ _ rfl rfl rfl rfl) rfl rfl ?_
            refine gd_skip (.not _ _ _ _ rfl rfl rfl rfl) rfl rfl ?_
            refine gd_skip (.not _ _ _ _ rfl rfl rfl rfl) rfl rfl ?_
            refine gd_skip (.not _ _ _ _ rfl rfl rfl rfl) rfl rfl ?_
            refine gd_v (.free rfl) rfl rfl (qt_pick_f rfl rfl rfl) ?_
            refine gd_nil ?_
            refine gk_then (hK37 _ _ ?_)
            refine gc_cond_f rfl ?_
            refine gc_skip ?_
            refine gk_block ?_
            refine gk_then (hK36 _ _ ?_)
            refine gc_region ?_
            refine g_v (.free rfl) rfl rfl (qt_move rfl rfl) ?_
            refine g_v (.free rfl) rfl rfl (qt_add rfl rfl rfl (by omega)) ?_
            refine g_v (.free rfl) rfl rfl (qt_assign rfl rfl) ?_
            refine g_nil ?_
            refine gk_then (gk_take 2 ?_)
            refine gk_sub ?hs_46 (hKL33 (g + 1, mo2, b3) ?hi_46 ?hm_46)
            case hs_46 => exact (sub_cons rfl (sub_cons rfl (sub_cons rfl (sub_cons rfl (sub_cons rfl (sub_cons rfl (sub_cons rfl (sub_cons rfl (sub_cons rfl (sub_cons rfl (sub_cons rfl (sub_cons rfl sub_nil))))))))))))
            case hi_46 => exact ⟨by omega, hci3, fun h => closedTo_next (hcl3 h) (fun hf2 _ _ => by rw [hs17_4] at hf2; cases hf2), hcn3⟩
            case hm_46 => omega
        · try simp only [decide_eq_true_eq, decide_eq_false_iff_not, Bool.not_eq_true', Bool.not_eq_false', Bool.not_eq_eq_eq_not, Bool.not_true, Bool.not_false, ne_eq, Decidable.not_not, Classical.not_not] at hc3
          refine gc_exit ?_
          refine gk_then_exit ?_
          refine gk_then_exit ?_
          refine gk_block_hit ?_
          refine gk_block ?_
          refine gk_then (hK31 _ _ ?_)
          refine gc_region ?_
          refine g_v (.free rfl) rfl rfl (qt_move rfl rfl) ?_
          refine g_v (.free rfl) rfl rfl (qt_add rfl rfl rfl (by omega)) ?_
          refine g_v (.free rfl) rfl rfl (qt_assign rfl rfl) ?_
          refine g_nil ?_
          refine gk_then (gk_take 2 ?_)
          refine gk_sub ?hs_47 (hKL28 (f + 1, mo2, b3) ?hi_47 ?hm_47)
          case hs_47 => exact (sub_cons rfl (sub_cons rfl (sub_cons rfl (sub_cons rfl (sub_cons rfl (sub_cons rfl (sub_cons rfl (sub_cons rfl (sub_cons rfl (sub_cons rfl sub_nil))))))))))
          case hi_47 => exact ⟨by omega, hci3, fun h => closedTo_row (by have := hcl3 h; rwa [show g = c.s.length from by omega] at this), hcn3⟩
          case hm_47 => omega
      · try simp only [decide_eq_true_eq, decide_eq_false_iff_not, Bool.not_eq_true', Bool.not_eq_false', Bool.not_eq_eq_eq_not, Bool.not_true, Bool.not_false, ne_eq, Decidable.not_not, Classical.not_not] at hc2
        refine gc_exit ?_
        refine gk_then_exit ?_
        refine gk_then_exit ?_
        refine gk_block_hit ?_
        refine gk_block ?_
        refine gk_then (gk_take 2 ?_)
        refine gk_sub ?hs_48 (hKL23 (mo1, b2) ?hi_48 ?hm_48)
        case hs_48 => exact (sub_cons rfl (sub_cons rfl (sub_cons rfl (sub_cons rfl (sub_cons rfl (sub_cons rfl (sub_cons rfl (sub_cons rfl sub_nil))))))))
        case hi_48 => exact ⟨hci2, fun h => by have := hcl2 h; rwa [show f = c.s.length from by omega] at this⟩
        case hm_48 => have hb : bN mo = 1 := (by rw [hc1]; rfl); show cntF b2 + bN mo1 < cntF b1 + bN mo; omega
    · try simp only [decide_eq_true_eq, decide_eq_false_iff_not, Bool.not_eq_true', Bool.not_eq_false', Bool.not_eq_eq_eq_not, Bool.not_true, Bool.not_false, ne_eq, Decidable.not_not, Classical.not_not] at hc1
      refine gc_exit ?_
      refine gk_then_exit ?_
      refine gk_then_exit ?_
      refine gk_block_hit ?_
      refine gk_then (hK21 _ _ ?_)
      refine gc_seq fun K49 hK49 => ?_
      refine gc_region ?_
      refine g_op (.free rfl) fun K51 hK51 => ?_
      refine go_slice0 rfl rfl rfl Try.underlying22 ?_
      intro B50
      refine hK51 _ _ ?_
      refine g_v (.free rfl) rfl rfl (qt_assign rfl rfl) ?_
      refine g_nil ?_
      refine gk_then (hK49 _ _ ?_)
      refine gc_seq fun K52 hK52 => ?_
      refine gc_seq fun K53 hK53 => ?_
      refine gc_region ?_
      refine g_v (.free rfl) rfl rfl (qt_assign rfl rfl) ?_
      refine g_nil ?_
      refine gk_then (hK53 _ _ ?_)
      refine gc_block ?_
      have hiff := close_iff hS hx hci (hcl hc1)
      have hbl1 := hci.1
      try simp only [List.nil_append, List.cons_append, List.append_assoc, List.set_cons_succ, List.set_cons_zero]
      refine gc_loop ([(0, _), (1, _), (2, _), (4, _), (5, _), (6, _), (7, _), (19, _), (56, _)] : Env) (fun s : Nat × (Option Addr) × Nat => (fun (k : Nat) (a : Option Addr) (q : Nat) => ([(10, .slice a (genL c xs k).length q), (11, .int .i64 (k : Int))] : Env)) s.1 s.2.1 s.2.2) (fun s : Nat × (Option Addr) × Nat => (fun (k : Nat) (a : Option Addr) (q : Nat) => ([(2, own1I (.slice a (genL c xs k).length q) (genL c xs k))] : List (Nat × Itm))) s.1 s.2.1 s.2.2) (fun s : Nat × (Option Addr) × Nat => (fun (k : Nat) (a : Option Addr) (q : Nat) => k ≤ c.s.length) s.1 s.2.1 s.2.2) (fun s : Nat × (Option Addr) × Nat => (fun (k : Nat) (a : Option Addr) (q : Nat) => c.s.length - k) s.1 s.2.1 s.2.2) (0, _, _) (sub_cons rfl (sub_cons rfl (sub_cons rfl (sub_cons rfl (sub_cons rfl (sub_cons rfl (sub_cons rfl (sub_cons rfl (sub_cons rfl (sub_cons rfl (sub_cons rfl sub_nil))))))))))) rfl (Nat.zero_le _) ?_
      rintro ⟨k, a, q⟩ hinv KL54 hKL54
      simp only [updL, List.foldl_cons, List.foldl_nil, List.set_cons_succ, List.set_cons_zero, List.cons_append, List.nil_append] at hinv hKL54 ⊢
      have hk := hinv
      have hgl := gen_len c xs k
      refine gc_seq fun K55 hK55 => ?_
      refine gc_seq fun K56 hK56 => ?_
      refine gc_region ?_
      refine g_v (.free rfl) rfl rfl (qt_move rfl rfl) ?_
      refine g_v (.free rfl) rfl rfl (qt_move rfl rfl) ?_
      refine g_v (.free rfl) rfl rfl (qt_len rfl rfl ulEB (fun w M => lenV_B (n := 1) rfl M)) ?_
      refine g_v (.free rfl) rfl rfl (qt_lss rfl rfl rfl) ?_
      refine g_nil ?_
      refine gk_then (hK56 _ _ ?_)
      refine gc_cond rfl (fun hc5 => ?_) (fun hc5 => ?_)
      · try simp only [decide_eq_true_eq, decide_eq_false_iff_not, Bool.not_eq_true', Bool.not_eq_false', Bool.not_eq_eq_eq_not, Bool.not_true, Bool.not_false, ne_eq, Decidable.not_not, Classical.not_not] at hc5
        refine gc_skip ?_
        refine gk_then (hK55 _ _ ?_)
        refine gc_seq fun K57 hK57 => ?_
        refine gc_block ?_
        refine gc_seq fun K58 hK58 => ?_
        refine gc_region ?_
        refine g_v (.free rfl) rfl rfl (qt_move rfl rfl) ?_
        refine g_v (.free rfl) rfl rfl (qt_move rfl rfl) ?_
        refine g_v (.free rfl) rfl rfl (qt_index rfl rfl rfl ulEB szEB (fun w M => lenA_B (n := 1) rfl M) (by omega) (by omega)) ?_
        refine g_v (.free rfl) rfl rfl (qt_loadBool (n := 1) rfl rfl Try.underlying4 rfl rfl (by omega) (by omega)) ?_
        refine g_nil ?_
        refine gk_then (hK58 _ _ ?_)
        refine gc_cond rfl (fun hc6 => ?_) (fun hc6 => ?_)
        · try simp only [decide_eq_true_eq, decide_eq_false_iff_not, Bool.not_eq_true', Bool.not_eq_false', Bool.not_eq_eq_eq_not, Bool.not_true, Bool.not_false, ne_eq, Decidable.not_not, Classical.not_not] at hc6
          refine gc_region ?_
          refine g_v (.free rfl) rfl rfl (qt_move rfl rfl) ?_
          refine g_v (.free rfl) rfl rfl (qt_move rfl rfl) ?_
          refine g_op (.free rfl) fun K60 hK60 => ?_
          refine go_slice1 rfl rfl rfl rfl Try.underlying22 ?_
          intro B59
          refine hK60 _ _ ?_
          refine g_op (.free rfl) fun K62 hK62 => ?_
          refine go_append (n := 2) (m := 3) rfl rfl rfl Try.underlying22 rfl rfl rfl rfl (by omega) ?_
          intro va61 vc61
          refine hK62 _ _ ?_
          refine g_v (.free rfl) rfl rfl (qt_assign rfl rfl) ?_
          refine g_nil ?_
          refine gk_block ?_
          refine gk_then (hK57 _ _ ?_)
          refine gc_region ?_
          refine g_v (.free rfl) rfl rfl (qt_move rfl rfl) ?_
          refine g_v (.free rfl) rfl rfl (qt_add rfl rfl rfl (by omega)) ?_
          refine g_v (.free rfl) rfl rfl (qt_assign rfl rfl) ?_
          refine g_nil ?_
          simp only [gen_t ((hiff k).1 hc6)]
          refine gk_then (gk_take 3 ?_)
          refine gk_sub ?hs_63 (hKL54 (k + 1, _, _) ?hi_63 ?hm_63)
          case hs_63 => exact (sub_cons rfl (sub_cons rfl (sub_cons rfl (sub_cons rfl (sub_cons rfl (sub_cons rfl (sub_cons rfl (sub_cons rfl (sub_cons rfl (sub_cons rfl (sub_cons rfl sub_nil)))))))))))
          case hi_63 => omega
          case hm_63 => omega
        · try simp only [decide_eq_true_eq, decide_eq_false_iff_not, Bool.not_eq_true', Bool.not_eq_false', Bool.not_eq_eq_eq_not, Bool.not_true, Bool.not_false, ne_eq, Decidable.not_not, Classical.not_not] at hc6
          refine gc_skip ?_
          refine gk_block ?_
          refine gk_then (hK57 _ _ ?_)
          refine gc_region ?_
          refine g_v (.free rfl) rfl rfl (qt_move rfl rfl) ?_
          refine g_v (.free rfl) rfl rfl (qt_add rfl rfl rfl (by omega)) ?_
          refine g_v (.free rfl) rfl rfl (qt_assign rfl rfl) ?_
          refine g_nil ?_
          rw [gen_f (fun hg => by have := (hiff k).2 hg; rw [hc6] at this; cases this)]
          refine gk_then (gk_take 3 ?_)
          refine gk_sub ?hs_64 (hKL54 (k + 1, _, _) ?hi_64 ?hm_64)
          case hs_64 => exact (sub_cons rfl (sub_cons rfl (sub_cons rfl (sub_cons rfl (sub_cons rfl (sub_cons rfl (sub_cons rfl (sub_cons rfl (sub_cons rfl (sub_cons rfl (sub_cons rfl sub_nil)))))))))))
          case hi_64 => omega
          case hm_64 => omega
      · try simp only [decide_eq_true_eq, decide_eq_false_iff_not, Bool.not_eq_true', Bool.not_eq_false', Bool.not_eq_eq_eq_not, Bool.not_true, Bool.not_false, ne_eq, Decidable.not_not, Classical.not_not] at hc5
        refine gc_exit ?_
        refine gk_then_exit ?_
        refine gk_then_exit ?_
        refine gk_block_hit ?_
        refine gk_then (hK52 _ _ ?_)
        refine gc_seq fun K65 hK65 => ?_
        refine gc_region ?_
        refine g_v (.free rfl) rfl rfl (qt_move rfl rfl) ?_
        refine g_v (.free rfl) rfl rfl (qt_assign rfl rfl) ?_
        refine g_nil ?_
        refine gk_then (hK65 _ _ ?_)
        refine gc_ret ?_
        refine ret_1 rfl rfl  (fun w M => ?_)
        obtain rfl : k = c.s.length := by omega
        exact ⟨_, rfl, mem_own1 (n := 2) M rfl, M.1⟩

end Go.Proofs.Ytpfcfhjpgngneaa
