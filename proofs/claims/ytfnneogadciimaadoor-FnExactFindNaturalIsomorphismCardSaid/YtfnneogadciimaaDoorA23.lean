import Derived.Test.YtfnneogadciimaaDoorA22
import Derived.Test.YtfnneogadciimaaDoorA2
import Derived.Test.YtfnneogadciimaaDoorA19
import Derived.Test.YtfnneogadciimaaDoorA17
set_option linter.unusedSimpArgs false
set_option linter.unusedVariables false
set_option linter.unusedSectionVars false
namespace Go.Proofs.YtfnneogadciimaaDoor
open Go.RowKit
theorem bt0123_l07State {o1 o2 o3 o4 mo : Int} {iso : Bool} {ax1 ax2 ax3 ax4 ax5 ax6 ax7 ax8 ax9 ax10 bx1 bx2 bx3 bx4 bx5 bx6 bx7 bx8 bx9 bx10 : Option Addr} {an1 an2 an3 an4 an5 an6 an7 an8 an9 an10 ak1 ak2 ak3 ak4 ak5 ak6 ak7 ak8 ak9 ak10 bn1 bn2 bn3 bn4 bn5 bn6 bn7 bn8 bn9 bn10 bk1 bk2 bk3 bk4 bk5 bk6 bk7 bk8 bk9 bk10 : Nat} : Tryd.prog.built 106 [(0, .agg #[.int .i64 o1, .slice ax1 an1 ak1, .slice ax2 an2 ak2, .slice ax3 an3 ak3, .slice ax4 an4 ak4, .int .i64 o2, .slice ax5 an5 ak5, .slice ax6 an6 ak6, .slice ax7 an7 ak7, .slice ax8 an8 ak8, .slice ax9 an9 ak9, .slice ax10 an10 ak10]), (1, .agg #[.int .i64 o3, .slice bx1 bn1 bk1, .slice bx2 bn2 bk2, .slice bx3 bn3 bk3, .slice bx4 bn4 bk4, .int .i64 o4, .slice bx5 bn5 bk5, .slice bx6 bn6 bk6, .slice bx7 bn7 bk7, .slice bx8 bn8 bk8, .slice bx9 bn9 bk9, .slice bx10 bn10 bk10]), (2, .bool iso), (3, .int .i64 mo)] = some #[.int .i64 o1, .slice ax1 an1 ak1, .slice ax2 an2 ak2, .slice ax3 an3 ak3, .slice ax4 an4 ak4, .int .i64 o2, .slice ax5 an5 ak5, .slice ax6 an6 ak6, .slice ax7 an7 ak7, .slice ax8 an8 ak8, .slice ax9 an9 ak9, .slice ax10 an10 ak10, .int .i64 o3, .slice bx1 bn1 bk1, .slice bx2 bn2 bk2, .slice bx3 bn3 bk3, .slice bx4 bn4 bk4, .int .i64 o4, .slice bx5 bn5 bk5, .slice bx6 bn6 bk6, .slice bx7 bn7 bk7, .slice bx8 bn8 bk8, .slice bx9 bn9 bk9, .slice bx10 bn10 bk10, .bool iso, .int .i64 mo, .slice none 0 0] := by kernel_rfl
theorem bt_l07State {o1 o2 o3 o4 mo : Int} {iso : Bool} {ax1 ax2 ax3 ax4 ax5 ax6 ax7 ax8 ax9 ax10 bx1 bx2 bx3 bx4 bx5 bx6 bx7 bx8 bx9 bx10 f : Option Addr} {an1 an2 an3 an4 an5 an6 an7 an8 an9 an10 ak1 ak2 ak3 ak4 ak5 ak6 ak7 ak8 ak9 ak10 bn1 bn2 bn3 bn4 bn5 bn6 bn7 bn8 bn9 bn10 bk1 bk2 bk3 bk4 bk5 bk6 bk7 bk8 bk9 bk10 fn fk : Nat} : Tryd.prog.built 106 [(0, .agg #[.int .i64 o1, .slice ax1 an1 ak1, .slice ax2 an2 ak2, .slice ax3 an3 ak3, .slice ax4 an4 ak4, .int .i64 o2, .slice ax5 an5 ak5, .slice ax6 an6 ak6, .slice ax7 an7 ak7, .slice ax8 an8 ak8, .slice ax9 an9 ak9, .slice ax10 an10 ak10]), (1, .agg #[.int .i64 o3, .slice bx1 bn1 bk1, .slice bx2 bn2 bk2, .slice bx3 bn3 bk3, .slice bx4 bn4 bk4, .int .i64 o4, .slice bx5 bn5 bk5, .slice bx6 bn6 bk6, .slice bx7 bn7 bk7, .slice bx8 bn8 bk8, .slice bx9 bn9 bk9, .slice bx10 bn10 bk10]), (2, .bool iso), (3, .int .i64 mo), (4, .slice f fn fk)] = some #[.int .i64 o1, .slice ax1 an1 ak1, .slice ax2 an2 ak2, .slice ax3 an3 ak3, .slice ax4 an4 ak4, .int .i64 o2, .slice ax5 an5 ak5, .slice ax6 an6 ak6, .slice ax7 an7 ak7, .slice ax8 an8 ak8, .slice ax9 an9 ak9, .slice ax10 an10 ak10, .int .i64 o3, .slice bx1 bn1 bk1, .slice bx2 bn2 bk2, .slice bx3 bn3 bk3, .slice bx4 bn4 bk4, .int .i64 o4, .slice bx5 bn5 bk5, .slice bx6 bn6 bk6, .slice bx7 bn7 bk7, .slice bx8 bn8 bk8, .slice bx9 bn9 bk9, .slice bx10 bn10 bk10, .bool iso, .int .i64 mo, .slice f fn fk] := by kernel_rfl
def prS (F : Fct) (k : Nat) : List (List Int) := rowsTo (fun i => [at0 F.S.s (i : Int), at0 F.S.t (i : Int)]) k
theorem prS_len (F : Fct) (k : Nat) : (prS F k).length = k := by simp [prS, rowsTo]
theorem prS_pair {F : Fct} (hS : ShapeP F.S) {k : Nat} (hk : k ≤ F.S.s.length) : ∀ r ∈ prS F k, PairP F.S.ob.toNat r := fun r hr => by
  unfold prS rowsTo at hr
  obtain ⟨i, hi, rfl⟩ := List.mem_map.1 hr
  have hi := List.mem_range.1 hi
  have hs := allP_at hS.sa (k := i) (by omega)
  have ht := allP_at hS.ta (k := i) (by have := hS.tl; omega)
  have h0 := hS.ob0
  refine ⟨rfl, fun x hx => ?_⟩
  rcases List.mem_cons.1 hx with rfl | hx
  · exact ⟨hs.1, by omega⟩
  · rcases List.mem_singleton.1 hx with rfl; exact ⟨ht.1, by omega⟩
theorem specJoinF_any (w : World) (n : Int) (v : Value) (ps : List (List Int)) (h0 : 0 ≤ n) (h8 : n ≤ 8) (h : Rd2 w v ps) (hps : ∀ r ∈ ps, PairP n.toNat r) :
    Calls Tryd.prog 74 #[.int .i64 n, v] w (RetL w (clsOf (specL n.toNat ps))) := by
  obtain ⟨k, rfl⟩ := Int.eq_ofNat_of_zero_le h0
  exact specJoin_any w k v ps (by omega) h hps
def sttL (cl : List Int) (x k : Nat) : List Int := tabTo (fun y => if at0 cl (y : Int) = (x : Int) then -1 else -2) k
theorem sttL_len (cl : List Int) (x k : Nat) : (sttL cl x k).length = k := tabTo_len _ _
theorem stt_t {cl : List Int} {x k : Nat} (h : at0 cl (k : Int) = (x : Int)) : sttL cl x k ++ [-1] = sttL cl x (k + 1) := by
  have := tabTo_succ (fun y : Nat => if at0 cl (y : Int) = (x : Int) then (-1 : Int) else -2) k
  rw [if_pos h] at this; exact this
theorem stt_f {cl : List Int} {x k : Nat} (h : ¬ at0 cl (k : Int) = (x : Int)) : sttL cl x k ++ [-2] = sttL cl x (k + 1) := by
  have := tabTo_succ (fun y : Nat => if at0 cl (y : Int) = (x : Int) then (-1 : Int) else -2) k
  rw [if_neg h] at this; exact this
def allN (k : Nat) : List Int := List.replicate k (-1)
theorem allN_len (k : Nat) : (allN k).length = k := List.length_replicate
theorem allN_succ (k : Nat) : allN k ++ [-1] = allN (k + 1) := (List.replicate_succ' ..).symm
theorem neg_at {c : List Int} (h : ∀ z ∈ c, z < 0) {i : Int} (i0 : 0 ≤ i) (i1 : i < c.length) : at0 c i < 0 := by
  obtain ⟨j, rfl⟩ := Int.eq_ofNat_of_zero_le i0
  exact h _ (at0_mem (by omega))
theorem sea_neg {F G : Fct} {c : List Int} (hF : IsFct F) (hl : (c.length : Int) = F.S.ob) (h : ∀ z ∈ c, z < 0) : SeaP F G c := by
  have hS := (isCat_of hF.cs).toShapeP
  have hA : ArrS F c := ⟨fun a ha => by have := allP_at hS.sa (k := a) ha; exact ⟨this.1, by omega⟩, fun a ha => by have := allP_at hS.ta (k := a) (by have := hS.tl; omega); exact ⟨this.1, by omega⟩⟩
  exact ⟨⟨hl, fun i hi => by have := h _ (at0_mem hi); omega⟩, hA, fun a ha => .inl (neg_at h (hA.s a ha).1 (hA.s a ha).2)⟩
theorem stt_neg (cl : List Int) (x k : Nat) : ∀ z ∈ sttL cl x k, z < 0 := fun z hz => by
  unfold sttL tabTo at hz
  obtain ⟨i, _, rfl⟩ := List.mem_map.1 hz
  split <;> omega
theorem all_neg (k : Nat) : ∀ z ∈ allN k, z < 0 := fun z hz => by rw [(List.mem_replicate.1 hz).2]; omega
theorem allN_at {n : Nat} {i : Nat} (h : i < n) : at0 (allN n) (i : Int) = -1 := by
  show (allN n).getD (i : Int).toNat 0 = -1
  unfold allN; rw [Int.toNat_natCast, List.getD_eq_getElem?_getD, List.getElem?_replicate, if_pos h]; rfl
theorem sol_stt {F G : Fct} {κ : Int → Bool} {cl : List Int} {x n : Nat} (hF : IsFct F) (hl : (n : Int) = F.S.ob) (h : solE F G κ (sttL cl x n) = []) : solE F G κ (allN n) = [] := by
  refine List.eq_nil_iff_forall_not_mem.2 fun l hm => ?_
  obtain ⟨⟨h1, h2⟩, h3⟩ := mem_solE.1 hm
  rw [allN_len] at h1 h2
  have hA := (sea_neg (G := G) hF (c := sttL cl x n) (by rw [sttL_len]; exact hl) (stt_neg _ _ _)).hA
  have ha : ∀ i : Nat, i < n → at0 (sttL cl x n) (i : Int) = if at0 cl (i : Int) = (x : Int) then -1 else -2 := fun i hi => tabTo_at _ hi
  obtain ⟨l', hl'⟩ : ∃ l', l' = tabTo (fun i => if at0 cl (i : Int) = (x : Int) then at0 l (i : Int) else -2) n := ⟨_, rfl⟩
  have hla : ∀ i : Nat, i < n → at0 l' (i : Int) = if at0 cl (i : Int) = (x : Int) then at0 l (i : Int) else -2 := fun i hi => by rw [hl']; exact tabTo_at _ hi
  have hll : l'.length = n := by rw [hl']; exact tabTo_len _ _
  have : l' ∈ solE F G κ (sttL cl x n) := by
    refine mem_solE.2 ⟨⟨by rw [sttL_len]; exact hll, fun i hi => ?_⟩, fun a hlt => ?_⟩
    · rw [sttL_len] at hi
      unfold domA; rw [ha i hi, hla i hi]
      by_cases e : at0 cl (i : Int) = (x : Int)
      · have := h2 i hi
        unfold domA at this; rw [allN_at hi, if_pos rfl] at this
        rw [if_pos e, if_pos e, if_pos rfl]; exact this
      · rw [if_neg e, if_neg e, if_neg (by decide)]; exact List.mem_singleton.2 rfl
    · have hs := hA.s a hlt; have ht := hA.t a hlt
      rw [sttL_len] at hs ht
      have key : ∀ i : Int, 0 ≤ i → i < n → at0 l' i < 0 ∨ at0 l' i = at0 l i := fun i i0 i1 => by
        obtain ⟨j, rfl⟩ := Int.eq_ofNat_of_zero_le i0
        rw [hla j (by omega)]
        split
        · exact .inr rfl
        · exact .inl (by omega)
      exact okA_less (h3 a hlt) (key _ hs.1 hs.2) (key _ ht.1 ht.2)
  rw [h] at this; cases this
noncomputable def findN (F G : Fct) (iso : Bool) (mo : Int) : List (List Int) := (solE F G (kapS F iso) (allN F.o.length)).take mo.toNat
theorem go_nil {F G : Fct} {iso : Bool} {c : List Int} (h : (goL F G iso 1 c []).length = 0) : solE F G (kapS F iso) c = [] := by
  unfold goL at h
  cases hs : solE F G (kapS F iso) c with
  | nil => rfl
  | cons l t => rw [hs] at h; simp at h
set_option maxHeartbeats 8000000 in
set_option maxRecDepth 100000 in
theorem specFind_any (w : World) (v : Value) (F : Fct) (u : Value) (G : Fct) (iso : Bool) (mo : Int) (h : RdF w v F) (e : RdF w u G) (hF : IsFct F) (hG : IsFct G) (hp : ParP F G) (hm0 : 0 < mo) (hm9 : mo ≤ 1000) :
    Calls Tryd.prog 50 #[v, u, .bool iso, .int .i64 mo] w (RetR w (findN F G iso mo)) := by
  have h0 := h
  obtain ⟨vx1, vx2, vx3, vx4, vx5, vx6, vx7, vx8, vx9, vx10, vk1, vk2, vk3, vk4, vk5, vk6, vk7, vk8, vk9, vk10, rfl, h1, h2, h3, h4, h5, h6, h7, h8, h9, h10⟩ := h.lists
  have e0 := e
  obtain ⟨ux1, ux2, ux3, ux4, ux5, ux6, ux7, ux8, ux9, ux10, uk1, uk2, uk3, uk4, uk5, uk6, uk7, uk8, uk9, uk10, rfl, e1, e2, e3, e4, e5, e6, e7, e8, e9, e10⟩ := e.lists
  have hS := (isCat_of hF.cs).toShapeP
  have s8 := hS.ob8; have s0 := hS.ob0; have fo := hF.lo; have n40 := hS.n40; have tl := hS.tl
  go_enter Tryd.func50, Tryd.ntmps50
  refine gc_enter (N := 105) rfl (look_cons (k := 0) rfl (look_cons (k := 1) rfl (look_cons (k := 2) rfl (look_cons (k := 3) rfl (look_nil _))))) ?_
  refine gc_seq fun K1 hK1 => ?_
  refine gc_region ?_
  refine g_op (.free rfl) fun K3 hK3 => ?_
  refine go_box rfl rfl rfl rfl rfl ?_
  intro B2
  refine hK3 _ _ ?_
  refine g_op (.free rfl) fun K5 hK5 => ?_
  refine go_box rfl rfl rfl rfl rfl ?_
  intro B4
  refine hK5 _ _ ?_
  refine g_v (.free rfl) rfl rfl (qt_assign rfl rfl) ?_
  refine g_nil ?_
  refine gk_then (hK1 _ _ ?_)
  refine gc_seq fun K6 hK6 => ?_
  refine gc_region ?_
  refine g_v (.free rfl) rfl rfl (qt_field (z := 4) (off := 0) rfl rfl Tryd.underlying45 rfl (by kernel_rfl) rfl) ?_
  refine g_v (.free rfl) rfl rfl (qt_loadP (n := 0) (z := 5) rfl rfl Tryd.underlying30 rfl (by kernel_rfl) rfl (by first | decide | exact Nat.le_refl _ | simp)) ?_
  refine g_op (.free rfl) fun K8 hK8 => ?_
  refine go_alloc (z := (.agg #[.int .i64 0, .slice none 0 0, .slice none 0 0, .slice none 0 0, .slice none 0 0])) (cs := [.int .i64 0, .slice none 0 0, .slice none 0 0, .slice none 0 0, .slice none 0 0]) rfl rfl rfl (fun w => by kernel_rfl) rfl ?_
  intro B7
  refine hK8 _ _ ?_
  refine g_op (.free rfl) fun K9 hK9 => ?_
  refine go_storeS (n := 2) rfl rfl rfl rfl (by kernel_rfl) rfl rfl rfl ?_
  refine hK9 _ _ ?_
  refine g_nil ?_
  refine gk_then (hK6 _ _ ?_)
  refine gc_seq fun K10 hK10 => ?_
  refine gc_region ?_
  refine g_op (.free rfl) fun K12 hK12 => ?_
  refine go_sliceR0 rfl rfl rfl Tryd.underlying23 ?_
  intro B11
  refine hK12 _ _ ?_
  refine g_v (.free rfl) rfl rfl (qt_assign rfl rfl) ?_
  refine g_nil ?_
  refine gk_then (hK10 _ _ ?_)
  refine gc_seq fun K13 hK13 => ?_
  refine gc_seq fun K14 hK14 => ?_
  refine gc_region ?_
  refine g_v (.free rfl) rfl rfl (qt_assign rfl rfl) ?_
  refine g_nil ?_
  refine gk_then (hK14 _ _ ?_)
  refine gc_block ?_
  try simp only [List.nil_append, List.cons_append, List.append_assoc, List.set_cons_succ, List.set_cons_zero]
  refine gc_loop ([(0, _), (1, _), (2, _), (3, _), (4, _), (5, _), (8, _), (9, _)] : Env) (fun s : Nat × (Option Addr) × Nat × (List Value) => (fun (k : Nat) (a : Option Addr) (q : Nat) (us : List Value) => ([(10, .slice a (prS F k).length q), (11, .int .i64 (k : Int))] : Env)) s.1 s.2.1 s.2.2.1 s.2.2.2) (fun s : Nat × (Option Addr) × Nat × (List Value) => (fun (k : Nat) (a : Option Addr) (q : Nat) (us : List Value) => ([(3, own2U (.slice a (prS F k).length q) us (prS F k))] : List (Nat × Itm))) s.1 s.2.1 s.2.2.1 s.2.2.2) (fun s : Nat × (Option Addr) × Nat × (List Value) => (fun (k : Nat) (a : Option Addr) (q : Nat) (us : List Value) => k ≤ F.S.s.length) s.1 s.2.1 s.2.2.1 s.2.2.2) (fun s : Nat × (Option Addr) × Nat × (List Value) => (fun (k : Nat) (a : Option Addr) (q : Nat) (us : List Value) => F.S.s.length - k) s.1 s.2.1 s.2.2.1 s.2.2.2) (0, _, _, _) (sub_cons rfl (sub_cons rfl (sub_cons rfl (sub_cons rfl (sub_cons rfl (sub_cons rfl (sub_cons rfl (sub_cons rfl (sub_cons rfl (sub_cons rfl sub_nil)))))))))) rfl (Nat.zero_le _) ?_
  rintro ⟨k, a, q, us⟩ hinv KL15 hKL15
  simp only [updL, List.foldl_cons, List.foldl_nil, List.set_cons_succ, List.set_cons_zero, List.cons_append, List.nil_append] at hinv hKL15 ⊢
  have hk := hinv
  have hpl := prS_len F k
  refine gc_seq fun K16 hK16 => ?_
  refine gc_seq fun K17 hK17 => ?_
  refine gc_region ?_
  refine g_v (.free rfl) rfl rfl (qt_move rfl rfl) ?_
  refine g_v (.free rfl) rfl rfl (qt_field (z := 0) (off := 1) rfl rfl Tryd.underlying30 rfl (by kernel_rfl) rfl) ?_
  refine g_v (.free rfl) rfl rfl (qt_loadB (n := 2) rfl rfl Tryd.underlying22 rfl rfl rfl) ?_
  refine g_v (.free rfl) rfl rfl (qt_len rfl rfl ulE1 (fun w M => lenV_rd h1)) ?_
  refine g_v (.free rfl) rfl rfl (qt_lss rfl rfl rfl) ?_
  refine g_nil ?_
  refine gk_then (hK17 _ _ ?_)
  refine gc_cond rfl (fun hc0 => ?_) (fun hc0 => ?_)
  · try simp only [decide_eq_true_eq, decide_eq_false_iff_not, Bool.not_eq_true', Bool.not_eq_false', Bool.not_eq_eq_eq_not, Bool.not_true, Bool.not_false, ne_eq, Decidable.not_not, Classical.not_not] at hc0
    refine gc_skip ?_
    refine gk_then (hK16 _ _ ?_)
    refine gc_seq fun K18 hK18 => ?_
    refine gc_block ?_
    try simp only [List.nil_append, List.cons_append, List.append_assoc, List.set_cons_succ, List.set_cons_zero]
    refine ga_start _ (fun w M => mem_erase 3 (M)) ?_
    refine ga_v 0 rfl (by kernel_rfl) (by kernel_rfl) (by kernel_rfl) (.free rfl) rfl rfl (qt_move rfl rfl) (fun _ _ _ h => h) ?_
    refine ga_v 1 rfl (by kernel_rfl) (by kernel_rfl) (by kernel_rfl) (.free rfl) rfl rfl (qt_field (z := 0) (off := 1) rfl rfl Tryd.underlying30 rfl (by kernel_rfl) rfl) (fun _ _ _ h => h) ?_
    refine ga_v 2 rfl (by kernel_rfl) (by kernel_rfl) (by kernel_rfl) (.free rfl) rfl rfl (qt_loadB (n := 2) rfl rfl Tryd.underlying22 rfl rfl rfl) (fun _ _ _ h => h) ?_
    refine ga_v 3 rfl (by kernel_rfl) (by kernel_rfl) (by kernel_rfl) (.free rfl) rfl rfl (qt_move rfl rfl) (fun _ _ _ h => h) ?_
    refine ga_v 4 rfl (by kernel_rfl) (by kernel_rfl) (by kernel_rfl) (.free rfl) rfl rfl (qt_index rfl rfl rfl ulE1 szE1 (fun w M => lenA_rd h1) (by omega) (by omega)) (fun _ _ _ h => h) ?_
    refine ga_v 5 rfl (by kernel_rfl) (by kernel_rfl) (by kernel_rfl) (.free rfl) rfl rfl (qt_load1 rfl rfl Tryd.underlying2 rfl (fun w M => mem_rd M h1) (by omega) (by omega)) (fun _ _ _ h => h) ?_
    refine ga_v 6 rfl (by kernel_rfl) (by kernel_rfl) (by kernel_rfl) (.free rfl) rfl rfl (qt_field (z := 0) (off := 2) rfl rfl Tryd.underlying30 rfl (by kernel_rfl) rfl) (fun _ _ _ h => h) ?_
    refine ga_v 7 rfl (by kernel_rfl) (by kernel_rfl) (by kernel_rfl) (.free rfl) rfl rfl (qt_loadB (n := 2) rfl rfl Tryd.underlying22 rfl rfl rfl) (fun _ _ _ h => h) ?_
    refine ga_v 8 rfl (by kernel_rfl) (by kernel_rfl) (by kernel_rfl) (.free rfl) rfl rfl (qt_move rfl rfl) (fun _ _ _ h => h) ?_
    refine ga_v 9 rfl (by kernel_rfl) (by kernel_rfl) (by kernel_rfl) (.free rfl) rfl rfl (qt_index rfl rfl rfl ulE1 szE1 (fun w M => lenA_rd h2) (by omega) (by omega)) (fun _ _ _ h => h) ?_
    refine ga_v 10 rfl (by kernel_rfl) (by kernel_rfl) (by kernel_rfl) (.free rfl) rfl rfl (qt_load1 rfl rfl Tryd.underlying2 rfl (fun w M => mem_rd M h2) (by omega) (by omega)) (fun _ _ _ h => h) ?_
    refine ga_op 11 (by kernel_rfl) rfl (.free rfl) fun K20 hK20 => ?_
    refine go_slice2 rfl rfl rfl rfl rfl Tryd.underlying22 ?_
    intro B19
    refine hK20 _ _ (fun w M => (mem_erase 3 (mem_take 4 M) :)) ?_
    refine ga_op 12 (by kernel_rfl) rfl (.free rfl) fun K22 hK22 => ?_
    refine go_sliceR1 (m := 4) rfl rfl rfl rfl Tryd.underlying23 rfl ?_
    intro B21
    refine hK22 _ _ (fun w M => (mem_erase 3 (mem_take 4 M) :)) ?_
    refine ga_op 13 (by kernel_rfl) rfl (.free rfl) fun K24 hK24 => ?_
    refine go_appendRow (n := 3) (m := 4) (m' := 3) rfl rfl rfl Tryd.underlying23 rfl rfl rfl rfl rfl (by omega) ?_
    intro va23 vc23
    refine hK24 _ _ (fun w M => (mem_erase 3 (mem_take 4 M) :)) ?_
    refine ga_v 14 rfl (by kernel_rfl) (by kernel_rfl) (by kernel_rfl) (.free rfl) rfl rfl (qt_assign rfl rfl) (fun _ _ _ h => h) ?_
    refine ga_done (by kernel_rfl) ?_
    refine gk_block ?_
    refine gk_then (hK18 _ _ ?_)
    refine gc_region ?_
    refine g_v (.free rfl) rfl rfl (qt_move rfl rfl) ?_
    refine g_v (.free rfl) rfl rfl (qt_add rfl rfl rfl (by omega)) ?_
    refine g_v (.free rfl) rfl rfl (qt_assign rfl rfl) ?_
    refine g_nil ?_
    simp only [show prS F k ++ [[at0 F.S.s (k : Int), at0 F.S.t (k : Int)]] = prS F (k + 1) from rowsTo_succ _ _]
    refine gk_then (gk_take 4 ?_)
    refine gk_sub ?hs_25 (hKL15 (k + 1, _, _, _) ?hi_25 ?hm_25)
    case hs_25 => exact (sub_cons rfl (sub_cons rfl (sub_cons rfl (sub_cons rfl (sub_cons rfl (sub_cons rfl (sub_cons rfl (sub_cons rfl (sub_cons rfl (sub_cons rfl sub_nil))))))))))
    case hi_25 => omega
    case hm_25 => omega
  · try simp only [decide_eq_true_eq, decide_eq_false_iff_not, Bool.not_eq_true', Bool.not_eq_false', Bool.not_eq_eq_eq_not, Bool.not_true, Bool.not_false, ne_eq, Decidable.not_not, Classical.not_not] at hc0
    refine gc_exit ?_
    refine gk_then_exit ?_
    refine gk_then_exit ?_
    refine gk_block_hit ?_
    refine gk_then (hK13 _ _ ?_)
    refine gc_seq fun K26 hK26 => ?_
    obtain rfl : k = F.S.s.length := by omega
    refine gc_region ?_
    refine g_v (.free rfl) rfl rfl (qt_field (z := 0) (off := 0) rfl rfl Tryd.underlying30 rfl (by kernel_rfl) rfl) ?_
    refine g_v (.free rfl) rfl rfl (qt_loadB (n := 2) rfl rfl Tryd.underlying2 rfl rfl rfl) ?_
    refine g_v (.free rfl) rfl rfl (qt_move rfl rfl) ?_
    refine g_op (.free rfl) fun K28 hK28 => ?_
    refine go_callL rfl rfl rfl Tryd.func74 rfl (by decide) rfl (fun w M => specJoinF_any w _ _ (prS F F.S.s.length) (s0) (s8) (mem_rdU (n := 3) M rfl) (prS_pair hS (Nat.le_refl _))) ?_
    intro va27 vc27
    refine hK28 _ _ ?_
    refine g_v (.free rfl) rfl rfl (qt_assign rfl rfl) ?_
    refine g_nil ?_
    refine gk_then (hK26 _ _ ?_)
    refine gc_seq fun K29 hK29 => ?_
    obtain ⟨cl, hcl⟩ : ∃ cl, clsOf (specL F.S.ob.toNat (prS F F.S.s.length)) = cl := ⟨_, rfl⟩
    rw [hcl]
    have hll : (cl.length : Int) = F.S.ob := by rw [← hcl, clsOf_len, specL_len]; omega
    clear hcl
    refine gc_region ?_
    refine g_op (.free rfl) fun K31 hK31 => ?_
    refine go_slice0 rfl rfl rfl Tryd.underlying22 ?_
    intro B30
    refine hK31 _ _ ?_
    refine g_v (.free rfl) rfl rfl (qt_assign rfl rfl) ?_
    refine g_nil ?_
    refine gk_then (hK29 _ _ ?_)
    refine gc_seq fun K32 hK32 => ?_
    refine gc_seq fun K33 hK33 => ?_
    refine gc_region ?_
    refine g_v (.free rfl) rfl rfl (qt_assign rfl rfl) ?_
    refine g_nil ?_
    refine gk_then (hK33 _ _ ?_)
    refine gc_block ?_
    try simp only [List.nil_append, List.cons_append, List.append_assoc, List.set_cons_succ, List.set_cons_zero]
    refine gc_loop ([(0, _), (1, _), (2, _), (3, _), (4, _), (5, _), (9, _), (10, _), (11, _), (12, _), (26, _)] : Env) (fun s : Nat × (Option Addr) × Nat => (fun (k : Nat) (a : Option Addr) (q : Nat) => ([(13, .slice a (allN k).length q), (14, .int .i64 (k : Int))] : Env)) s.1 s.2.1 s.2.2) (fun s : Nat × (Option Addr) × Nat => (fun (k : Nat) (a : Option Addr) (q : Nat) => ([(5, own1I (.slice a (allN k).length q) (allN k))] : List (Nat × Itm))) s.1 s.2.1 s.2.2) (fun s : Nat × (Option Addr) × Nat => (fun (k : Nat) (a : Option Addr) (q : Nat) => k ≤ cl.length) s.1 s.2.1 s.2.2) (fun s : Nat × (Option Addr) × Nat => (fun (k : Nat) (a : Option Addr) (q : Nat) => cl.length - k) s.1 s.2.1 s.2.2) (0, _, _) (sub_cons rfl (sub_cons rfl (sub_cons rfl (sub_cons rfl (sub_cons rfl (sub_cons rfl (sub_cons rfl (sub_cons rfl (sub_cons rfl (sub_cons rfl (sub_cons rfl (sub_cons rfl (sub_cons rfl sub_nil))))))))))))) rfl (Nat.zero_le _) ?_
    rintro ⟨k, a, q⟩ hinv KL34 hKL34
    simp only [updL, List.foldl_cons, List.foldl_nil, List.set_cons_succ, List.set_cons_zero, List.cons_append, List.nil_append] at hinv hKL34 ⊢
    have hk := hinv
    have hal := allN_len k
    refine gc_seq fun K35 hK35 => ?_
    refine gc_seq fun K36 hK36 => ?_
    refine gc_region ?_
    refine g_v (.free rfl) rfl rfl (qt_move rfl rfl) ?_
    refine g_v (.free rfl) rfl rfl (qt_move rfl rfl) ?_
    refine g_v (.free rfl) rfl rfl (qt_len rfl rfl ulE1 (fun w M => lenV_own1 (n := 4) rfl M)) ?_
    refine g_v (.free rfl) rfl rfl (qt_lss rfl rfl rfl) ?_
    refine g_nil ?_
    refine gk_then (hK36 _ _ ?_)
    refine gc_cond rfl (fun hc1 => ?_) (fun hc1 => ?_)
    · try simp only [decide_eq_true_eq, decide_eq_false_iff_not, Bool.not_eq_true', Bool.not_eq_false', Bool.not_eq_eq_eq_not, Bool.not_true, Bool.not_false, ne_eq, Decidable.not_not, Classical.not_not] at hc1
      refine gc_skip ?_
      refine gk_then (hK35 _ _ ?_)
      refine gc_seq fun K37 hK37 => ?_
      refine gc_block ?_
      refine gc_seq fun K38 hK38 => ?_
      refine gc_region ?_
      refine g_v (.free rfl) rfl rfl (qt_move rfl rfl) ?_
      refine g_op (.free rfl) fun K40 hK40 => ?_
      refine go_slice1 rfl rfl rfl rfl Tryd.underlying22 ?_
      intro B39
      refine hK40 _ _ ?_
      refine g_op (.free rfl) fun K42 hK42 => ?_
      refine go_append (n := 5) (m := 6) rfl rfl rfl Tryd.underlying22 rfl rfl rfl rfl (by omega) ?_
      intro va41 vc41
      refine hK42 _ _ ?_
      refine g_v (.free rfl) rfl rfl (qt_assign rfl rfl) ?_
      refine g_nil ?_
      refine gk_then (hK38 _ _ ?_)
      refine gc_seq fun K43 hK43 => ?_
      simp only [allN_succ]
      refine gc_region ?_
      refine g_op (.free rfl) fun K45 hK45 => ?_
      refine go_slice0 rfl rfl rfl Tryd.underlying22 ?_
      intro B44
      refine hK45 _ _ ?_
      refine g_v (.free rfl) rfl rfl (qt_assign rfl rfl) ?_
      refine g_nil ?_
      refine gk_then (hK43 _ _ ?_)
      refine gc_seq fun K46 hK46 => ?_
      refine gc_seq fun K47 hK47 => ?_
      refine gc_region ?_
      refine g_v (.free rfl) rfl rfl (qt_assign rfl rfl) ?_
      refine g_nil ?_
      refine gk_then (hK47 _ _ ?_)
      refine gc_block ?_
      try simp only [List.nil_append, List.cons_append, List.append_assoc, List.set_cons_succ, List.set_cons_zero]
      refine gc_loop ([(0, _), (1, _), (2, _), (3, _), (4, _), (5, _), (9, _), (10, _), (11, _), (12, _), (13, _), (14, _), (26, _), (51, _)] : Env) (fun s : Nat × (Option Addr) × Nat => (fun (j : Nat) (b : Option Addr) (r : Nat) => ([(15, .slice b (sttL cl k j).length r), (16, .int .i64 (j : Int))] : Env)) s.1 s.2.1 s.2.2) (fun s : Nat × (Option Addr) × Nat => (fun (j : Nat) (b : Option Addr) (r : Nat) => ([(7, own1I (.slice b (sttL cl k j).length r) (sttL cl k j))] : List (Nat × Itm))) s.1 s.2.1 s.2.2) (fun s : Nat × (Option Addr) × Nat => (fun (j : Nat) (b : Option Addr) (r : Nat) => j ≤ cl.length) s.1 s.2.1 s.2.2) (fun s : Nat × (Option Addr) × Nat => (fun (j : Nat) (b : Option Addr) (r : Nat) => cl.length - j) s.1 s.2.1 s.2.2) (0, _, _) (sub_cons rfl (sub_cons rfl (sub_cons rfl (sub_cons rfl (sub_cons rfl (sub_cons rfl (sub_cons rfl (sub_cons rfl (sub_cons rfl (sub_cons rfl (sub_cons rfl (sub_cons rfl (sub_cons rfl (sub_cons rfl (sub_cons rfl (sub_cons rfl sub_nil)))))))))))))))) rfl (Nat.zero_le _) ?_
      rintro ⟨j, b, r⟩ hinv KL48 hKL48
      simp only [updL, List.foldl_cons, List.foldl_nil, List.set_cons_succ, List.set_cons_zero, List.cons_append, List.nil_append] at hinv hKL48 ⊢
      have hj := hinv
      have hsl := sttL_len cl k j
      refine gc_seq fun K49 hK49 => ?_
      refine gc_seq fun K50 hK50 => ?_
      refine gc_region ?_
      refine g_v (.free rfl) rfl rfl (qt_move rfl rfl) ?_
      refine g_v (.free rfl) rfl rfl (qt_move rfl rfl) ?_
      refine g_v (.free rfl) rfl rfl (qt_len rfl rfl ulE1 (fun w M => lenV_own1 (n := 4) rfl M)) ?_
      refine g_v (.free rfl) rfl rfl (qt_lss rfl rfl rfl) ?_
      refine g_nil ?_
      refine gk_then (hK50 _ _ ?_)
      refine gc_cond rfl (fun hc2 => ?_) (fun hc2 => ?_)
      · try simp only [decide_eq_true_eq, decide_eq_false_iff_not, Bool.not_eq_true', Bool.not_eq_false', Bool.not_eq_eq_eq_not, Bool.not_true, Bool.not_false, ne_eq, Decidable.not_not, Classical.not_not] at hc2
        refine gc_skip ?_
        refine gk_then (hK49 _ _ ?_)
        refine gc_seq fun K51 hK51 => ?_
        refine gc_block ?_
        refine gc_seq fun K52 hK52 => ?_
        refine gc_region ?_
        refine g_v (.free rfl) rfl rfl (qt_move rfl rfl) ?_
        refine g_v (.free rfl) rfl rfl (qt_move rfl rfl) ?_
        refine g_v (.free rfl) rfl rfl (qt_index rfl rfl rfl ulE1 szE1 (fun w M => lenA_own1 (n := 4) rfl M) (by omega) (by omega)) ?_
        refine g_v (.free rfl) rfl rfl (qt_load1 rfl rfl Tryd.underlying2 rfl (fun w M => (mem_own1 (n := 4) M rfl).rd) (by omega) (by omega)) ?_
        refine g_v (.free rfl) rfl rfl (qt_move rfl rfl) ?_
        refine g_v (.free rfl) rfl rfl (qt_eql rfl rfl rfl) ?_
        refine g_nil ?_
        refine gk_then (hK52 _ _ ?_)
        refine gc_cond rfl (fun hc3 => ?_) (fun hc3 => ?_)
        · try simp only [decide_eq_true_eq, decide_eq_false_iff_not, Bool.not_eq_true', Bool.not_eq_false', Bool.not_eq_eq_eq_not, Bool.not_true, Bool.not_false, ne_eq, Decidable.not_not, Classical.not_not] at hc3
          refine gc_region ?_
          refine g_v (.free rfl) rfl rfl (qt_move rfl rfl) ?_
          refine g_op (.free rfl) fun K54 hK54 => ?_
          refine go_slice1 rfl rfl rfl rfl Tryd.underlying22 ?_
          intro B53
          refine hK54 _ _ ?_
          refine g_op (.free rfl) fun K56 hK56 => ?_
          refine go_append (n := 7) (m := 8) rfl rfl rfl Tryd.underlying22 rfl rfl rfl rfl (by omega) ?_
          intro va55 vc55
          refine hK56 _ _ ?_
          refine g_v (.free rfl) rfl rfl (qt_assign rfl rfl) ?_
          refine g_nil ?_
          refine gk_block ?_
          refine gk_then (hK51 _ _ ?_)
          refine gc_region ?_
          refine g_v (.free rfl) rfl rfl (qt_move rfl rfl) ?_
          refine g_v (.free rfl) rfl rfl (qt_add rfl rfl rfl (by omega)) ?_
          refine g_v (.free rfl) rfl rfl (qt_assign rfl rfl) ?_
          refine g_nil ?_
          first | simp only [stt_t (by assumption)] | simp only [stt_f (by assumption)]
          refine gk_then (gk_take 8 ?_)
          refine gk_sub ?hs_57 (hKL48 (j + 1, _, _) ?hi_57 ?hm_57)
          case hs_57 => exact (sub_cons rfl (sub_cons rfl (sub_cons rfl (sub_cons rfl (sub_cons rfl (sub_cons rfl (sub_cons rfl (sub_cons rfl (sub_cons rfl (sub_cons rfl (sub_cons rfl (sub_cons rfl (sub_cons rfl (sub_cons rfl (sub_cons rfl (sub_cons rfl sub_nil))))))))))))))))
          case hi_57 => omega
          case hm_57 => omega
        · try simp only [decide_eq_true_eq, decide_eq_false_iff_not, Bool.not_eq_true', Bool.not_eq_false', Bool.not_eq_eq_eq_not, Bool.not_true, Bool.not_false, ne_eq, Decidable.not_not, Classical.not_not] at hc3
          refine gc_region ?_
          refine g_v (.free rfl) rfl rfl (qt_move rfl rfl) ?_
          refine g_op (.free rfl) fun K59 hK59 => ?_
          refine go_slice1 rfl rfl rfl rfl Tryd.underlying22 ?_
          intro B58
          refine hK59 _ _ ?_
          refine g_op (.free rfl) fun K61 hK61 => ?_
          refine go_append (n := 7) (m := 8) rfl rfl rfl Tryd.underlying22 rfl rfl rfl rfl (by omega) ?_
          intro va60 vc60
          refine hK61 _ _ ?_
          refine g_v (.free rfl) rfl rfl (qt_assign rfl rfl) ?_
          refine g_nil ?_
          refine gk_block ?_
          refine gk_then (hK51 _ _ ?_)
          refine gc_region ?_
          refine g_v (.free rfl) rfl rfl (qt_move rfl rfl) ?_
          refine g_v (.free rfl) rfl rfl (qt_add rfl rfl rfl (by omega)) ?_
          refine g_v (.free rfl) rfl rfl (qt_assign rfl rfl) ?_
          refine g_nil ?_
          first | simp only [stt_t (by assumption)] | simp only [stt_f (by assumption)]
          refine gk_then (gk_take 8 ?_)
          refine gk_sub ?hs_62 (hKL48 (j + 1, _, _) ?hi_62 ?hm_62)
          case hs_62 => exact (sub_cons rfl (sub_cons rfl (sub_cons rfl (sub_cons rfl (sub_cons rfl (sub_cons rfl (sub_cons rfl (sub_cons rfl (sub_cons rfl (sub_cons rfl (sub_cons rfl (sub_cons rfl (sub_cons rfl (sub_cons rfl (sub_cons rfl (sub_cons rfl sub_nil))))))))))))))))
          case hi_62 => omega
          case hm_62 => omega
      · try simp only [decide_eq_true_eq, decide_eq_false_iff_not, Bool.not_eq_true', Bool.not_eq_false', Bool.not_eq_eq_eq_not, Bool.not_true, Bool.not_false, ne_eq, Decidable.not_not, Classical.not_not] at hc2
        refine gc_exit ?_
        refine gk_then_exit ?_
        refine gk_then_exit ?_
        refine gk_block_hit ?_
        refine gk_then (hK46 _ _ ?_)
        refine gc_seq fun K63 hK63 => ?_
        obtain rfl : j = cl.length := by omega
        refine gc_region ?_
        refine g_v (.free rfl) rfl rfl (qt_loadS (n := 0) rfl rfl Tryd.underlying45 rfl (by kernel_rfl) rfl) ?_
        refine g_v (.free rfl) rfl rfl (qt_loadS (n := 1) rfl rfl Tryd.underlying45 rfl (by kernel_rfl) rfl) ?_
        refine g_v (.free rfl) rfl rfl (qt_move rfl rfl) ?_
        refine g_v (.free rfl) rfl rfl (qt_build rfl rfl bt0123_l07State) ?_
        refine g_op (.free rfl) fun K65 hK65 => ?_
        refine go_box rfl rfl rfl rfl rfl ?_
        intro B64
        refine hK65 _ _ ?_
        refine g_v (.free rfl) rfl rfl (qt_assign rfl rfl) ?_
        refine g_nil ?_
        refine gk_then (hK63 _ _ ?_)
        refine gc_seq fun K66 hK66 => ?_
        refine gc_nilU ?_
        refine gc_region ?_
        refine g_v (.free rfl) rfl rfl (qt_move rfl rfl) ?_
        refine g_v (.free rfl) rfl rfl (qt_move rfl rfl) ?_
        refine g_op (.free rfl) fun K68 hK68 => ?_
        refine go_callGoP 8 9 (stOf [.int .i64 F.S.ob, .slice vx1 F.S.s.length vk1, .slice vx2 F.S.t.length vk2, .slice vx3 F.S.e.length vk3, .slice vx4 F.S.m.length vk4, .int .i64 F.T.ob, .slice vx5 F.T.s.length vk5, .slice vx6 F.T.t.length vk6, .slice vx7 F.T.e.length vk7, .slice vx8 F.T.m.length vk8, .slice vx9 F.o.length vk9, .slice vx10 F.a.length vk10, .int .i64 G.S.ob, .slice ux1 G.S.s.length uk1, .slice ux2 G.S.t.length uk2, .slice ux3 G.S.e.length uk3, .slice ux4 G.S.m.length uk4, .int .i64 G.T.ob, .slice ux5 G.T.s.length uk5, .slice ux6 G.T.t.length uk6, .slice ux7 G.T.e.length uk7, .slice ux8 G.T.m.length uk8, .slice ux9 G.o.length uk9, .slice ux10 G.a.length uk10] iso 1) (rows := []) (rows' := goL F G iso 1 (sttL cl k cl.length) []) rfl rfl rfl Tryd.func75 rfl (by decide) rfl ((perm_pick1 (n := 8) rfl).trans (.cons _ ((perm_pick1 (n := 8) rfl).trans (.cons _ (perm_pick1 (n := 7) rfl))))) (fun a q us => ((perm_pick1 (n := 8) rfl).trans (.cons _ ((perm_pick1 (n := 8) rfl).trans (.cons _ (perm_pick1 (n := 7) rfl)))))) (fun R w M => go_all h0 e0 hF hG hp (by omega) _ (sttL cl k cl.length) (Nat.lt_succ_self _) w _ [] R (sea_neg hF (by rw [sttL_len]; omega) (stt_neg _ _ _)) (by simp) M) ?_
        intro ga67 gq67 gu67
        refine hK68 _ _ ?_
        refine g_nil ?_
        refine gk_then (hK66 _ _ ?_)
        refine gc_seq fun K69 hK69 => ?_
        refine gc_region ?_
        refine g_v (.free rfl) rfl rfl (qt_move rfl rfl) ?_
        refine g_v (.free rfl) rfl rfl (qt_nilP rfl rfl) ?_
        refine g_v (.free rfl) rfl rfl (qt_field (z := 0) (off := 26) rfl rfl Tryd.underlying106 rfl (by kernel_rfl) rfl) ?_
        refine g_v (.free rfl) rfl rfl (qt_loadB (n := 8) rfl rfl Tryd.underlying23 rfl rfl rfl) ?_
        refine g_v (.free rfl) rfl rfl (qt_len rfl rfl ulE2 (fun w M => lenV_U (n := 9) rfl M)) ?_
        refine g_v (.free rfl) rfl rfl (qt_eql rfl rfl rfl) ?_
        refine g_nil ?_
        refine gk_then (hK69 _ _ ?_)
        refine gc_cond rfl (fun hc4 => ?_) (fun hc4 => ?_)
        · try simp only [decide_eq_true_eq, decide_eq_false_iff_not, Bool.not_eq_true', Bool.not_eq_false', Bool.not_eq_eq_eq_not, Bool.not_true, Bool.not_false, ne_eq, Decidable.not_not, Classical.not_not] at hc4
          refine gc_seq fun K70 hK70 => ?_
          refine gc_region ?_
          refine g_op (.free rfl) fun K72 hK72 => ?_
          refine go_sliceR0 rfl rfl rfl Tryd.underlying23 ?_
          intro B71
          refine hK72 _ _ ?_
          refine g_v (.free rfl) rfl rfl (qt_assign rfl rfl) ?_
          refine g_nil ?_
          refine gk_then (hK70 _ _ ?_)
          refine gc_ret ?_
          refine gk_block_ret ?_
          refine gk_then_ret ?_
          refine gk_then_ret ?_
          refine gk_block_ret ?_
          refine gk_then_ret ?_
          refine ret_1 rfl rfl  (fun w M => ?_)
          have hz := go_nil (F := F) (G := G) (iso := iso) (c := sttL cl k cl.length) (by omega)
          have hz2 : findN F G iso mo = [] := by unfold findN; rw [sol_stt hF (by omega) (show solE F G (kapS F iso) (sttL cl k F.o.length) = [] by rw [show F.o.length = cl.length by omega]; exact hz)]; simp
          rw [hz2]
          exact ⟨_, rfl, sl2_U (n := 10) M rfl, M.1⟩
        · try simp only [decide_eq_true_eq, decide_eq_false_iff_not, Bool.not_eq_true', Bool.not_eq_false', Bool.not_eq_eq_eq_not, Bool.not_true, Bool.not_false, ne_eq, Decidable.not_not, Classical.not_not] at hc4
          refine gc_skip ?_
          refine gk_block ?_
          refine gk_then (hK37 _ _ ?_)
          refine gc_region ?_
          refine g_v (.free rfl) rfl rfl (qt_move rfl rfl) ?_
          refine g_v (.free rfl) rfl rfl (qt_add rfl rfl rfl (by omega)) ?_
          refine g_v (.free rfl) rfl rfl (qt_assign rfl rfl) ?_
          refine g_nil ?_
          refine gk_then (gk_take 6 ?_)
          refine gk_sub ?hs_73 (hKL34 (k + 1, _, _) ?hi_73 ?hm_73)
          case hs_73 => exact (sub_cons rfl (sub_cons rfl (sub_cons rfl (sub_cons rfl (sub_cons rfl (sub_cons rfl (sub_cons rfl (sub_cons rfl (sub_cons rfl (sub_cons rfl (sub_cons rfl (sub_cons rfl (sub_cons rfl sub_nil)))))))))))))
          case hi_73 => omega
          case hm_73 => omega
    · try simp only [decide_eq_true_eq, decide_eq_false_iff_not, Bool.not_eq_true', Bool.not_eq_false', Bool.not_eq_eq_eq_not, Bool.not_true, Bool.not_false, ne_eq, Decidable.not_not, Classical.not_not] at hc1
      refine gc_exit ?_
      refine gk_then_exit ?_
      refine gk_then_exit ?_
      refine gk_block_hit ?_
      refine gk_then (hK32 _ _ ?_)
      refine gc_seq fun K74 hK74 => ?_
      obtain rfl : k = cl.length := by omega
      refine gc_region ?_
      refine g_v (.free rfl) rfl rfl (qt_loadS (n := 0) rfl rfl Tryd.underlying45 rfl (by kernel_rfl) rfl) ?_
      refine g_v (.free rfl) rfl rfl (qt_loadS (n := 1) rfl rfl Tryd.underlying45 rfl (by kernel_rfl) rfl) ?_
      refine g_v (.free rfl) rfl rfl (qt_move rfl rfl) ?_
      refine g_v (.free rfl) rfl rfl (qt_move rfl rfl) ?_
      refine g_op (.free rfl) fun K76 hK76 => ?_
      refine go_sliceR0 rfl rfl rfl Tryd.underlying23 ?_
      intro B75
      refine hK76 _ _ ?_
      refine g_v (.free rfl) rfl rfl (qt_build rfl rfl bt_l07State) ?_
      refine g_op (.free rfl) fun K78 hK78 => ?_
      refine go_box rfl rfl rfl rfl rfl ?_
      intro B77
      refine hK78 _ _ ?_
      refine g_v (.free rfl) rfl rfl (qt_assign rfl rfl) ?_
      refine g_nil ?_
      refine gk_then (hK74 _ _ ?_)
      refine gc_seq fun K79 hK79 => ?_
      refine gc_region ?_
      refine g_v (.free rfl) rfl rfl (qt_move rfl rfl) ?_
      refine g_v (.free rfl) rfl rfl (qt_move rfl rfl) ?_
      refine g_op (.free rfl) fun K81 hK81 => ?_
      refine go_callGoP 7 6 (stOf [.int .i64 F.S.ob, .slice vx1 F.S.s.length vk1, .slice vx2 F.S.t.length vk2, .slice vx3 F.S.e.length vk3, .slice vx4 F.S.m.length vk4, .int .i64 F.T.ob, .slice vx5 F.T.s.length vk5, .slice vx6 F.T.t.length vk6, .slice vx7 F.T.e.length vk7, .slice vx8 F.T.m.length vk8, .slice vx9 F.o.length vk9, .slice vx10 F.a.length vk10, .int .i64 G.S.ob, .slice ux1 G.S.s.length uk1, .slice ux2 G.S.t.length uk2, .slice ux3 G.S.e.length uk3, .slice ux4 G.S.m.length uk4, .int .i64 G.T.ob, .slice ux5 G.T.s.length uk5, .slice ux6 G.T.t.length uk6, .slice ux7 G.T.e.length uk7, .slice ux8 G.T.m.length uk8, .slice ux9 G.o.length uk9, .slice ux10 G.a.length uk10] iso mo) (rows := []) (rows' := goL F G iso mo (allN cl.length) []) rfl rfl rfl Tryd.func75 rfl (by decide) rfl ((perm_pick1 (n := 7) rfl).trans (.cons _ ((perm_pick1 (n := 6) rfl).trans (.cons _ (perm_pick1 (n := 5) rfl))))) (fun a q us => ((perm_pick1 (n := 7) rfl).trans (.cons _ ((perm_pick1 (n := 6) rfl).trans (.cons _ (perm_pick1 (n := 5) rfl)))))) (fun R w M => go_all h0 e0 hF hG hp (by omega) _ (allN cl.length) (Nat.lt_succ_self _) w _ [] R (sea_neg hF (by rw [allN_len]; omega) (all_neg _)) (by simpa using hm0) M) ?_
      intro ga80 gq80 gu80
      refine hK81 _ _ ?_
      refine g_nil ?_
      refine gk_then (hK79 _ _ ?_)
      refine gc_seq fun K82 hK82 => ?_
      refine gc_region ?_
      refine g_v (.free rfl) rfl rfl (qt_move rfl rfl) ?_
      refine g_v (.free rfl) rfl rfl (qt_nilP rfl rfl) ?_
      refine g_v (.free rfl) rfl rfl (qt_field (z := 0) (off := 26) rfl rfl Tryd.underlying106 rfl (by kernel_rfl) rfl) ?_
      refine g_v (.free rfl) rfl rfl (qt_loadB (n := 7) rfl rfl Tryd.underlying23 rfl rfl rfl) ?_
      refine g_v (.free rfl) rfl rfl (qt_assign rfl rfl) ?_
      refine g_nil ?_
      refine gk_then (hK82 _ _ ?_)
      refine gc_ret ?_
      refine ret_1 rfl rfl  (fun w M => ?_)
      have hz2 : findN F G iso mo = goL F G iso mo (allN cl.length) [] := by unfold findN goL; rw [show F.o.length = cl.length by omega]; simp
      rw [hz2]
      exact ⟨_, rfl, sl2_U (n := 6) M rfl, M.1⟩
end Go.Proofs.YtfnneogadciimaaDoor
set_option linter.unusedSimpArgs false
set_option linter.unusedVariables false
set_option linter.unusedSectionVars false
namespace Go.Proofs.YtfnneogadciimaaDoor
open Go.RowKit
end Go.Proofs.YtfnneogadciimaaDoor
