import Derived.Test.YtpcabkdkdnchaaaGreatZ24
import Derived.Test.YtpcabkdkdnchaaaGreatZ22
set_option linter.unusedSimpArgs false
set_option linter.unusedVariables false
set_option linter.unusedSectionVars false
namespace Go.Proofs.YtpcabkdkdnchaaaGreat
open Go.RowKit
set_option maxHeartbeats 1000000 in
set_option maxRecDepth 100000 in
theorem specFind_any (w : World) (p : Value) (rs : List (List Int)) (r : Value) (xs : List Int) (hp : Rd2 w p rs) (hr : Rd w r xs) :
  Calls Tryz.prog 142 #[p, r] w (RetI w (findR rs xs)) := by
 obtain ⟨pa, pc, rfl⟩ := rd2_form hp
 obtain ⟨ra, rc, rfl⟩ := rd_form hr
 have hpl := rd2_len hp
 go_enter Tryz.func142, Tryz.ntmps142
 refine gc_enter (N := 19) rfl (look_cons (k := 0) rfl (look_cons (k := 1) rfl (look_nil _))) ?_
 refine gc_sr fun K1 hK1 => ?_
 refine gas ?_
 refine gnt (hK1 _ _ ?_)
 refine gc_seq fun K2 hK2 => ?_
 refine gc_sr fun K3 hK3 => ?_
 refine gas ?_
 refine gnt (hK3 _ _ ?_)
 refine gc_block ?_
 try simp only [sL]
 refine gc_loopT ([(0, _), (1, _)] : Env) (fun s : Nat => (fun (k : Nat) => (([(5, .int .i64 (k : Int))] : Env), ([] : List (Nat × Itm)), k ≤ rs.length ∧ xs ∉ rs.take k, rs.length - k)) s) (0) (by repeat first | exact sub_nil | refine sub_cons rfl ?_) rfl ⟨Nat.zero_le _, by simp⟩ ?_
 rintro k hinv KL4 hKL4
 simp only [sU, sL] at hinv hKL4 ⊢
 obtain ⟨hk, hn⟩ := hinv
 refine gc_seq fun K5 hK5 => ?_
 refine gc_sr fun K6 hK6 => ?_
 refine gm ?_
 refine gm ?_
 refine gv (qt_len rfl rfl ulE2 (fun w M => lenV_rd2 hp)) ?_
 refine gv (qt_lss rfl rfl rfl) ?_
 refine gnt (hK6 _ _ ?_)
 refine gc_cond rfl (fun hc0 => ?_) (fun hc0 => ?_)
 ·try simp only [sA] at hc0
  refine gc_skip ?_
  refine gk_then (hK5 _ _ ?_)
  refine gc_seq fun K7 hK7 => ?_
  refine gc_block ?_
  refine gc_sr fun K8 hK8 => ?_
  refine gm ?_
  refine gm ?_
  refine gv (qti2 (fun w M => lenA_rd2 hp)) ?_
  refine g_load2 (.free rfl) rfl rfl rfl rfl Tryz.underlying22 rfl hp (by omega) (by omega) ?_
  intro ra9 rc9 hr9
  refine gm ?_
  refine g_q (.free rfl) rfl rfl (qt_call rfl Tryz.func108 rfl (by decide) rfl (fun w M => specSame_any w _ _ _ _ (mem_rd M hr9) (mem_rd M hr))) ?_
  refine gnt (hK8 _ _ ?_)
  refine gc_cond rfl (fun hc1 => ?_) (fun hc1 => ?_)
  ·try simp only [sA] at hc1
   refine gc_sr fun K10 hK10 => ?_
   refine gm ?_
   refine gas ?_
   refine gnt (hK10 _ _ ?_)
   refine gc_ret ?_
   refine gk_block_ret ?_
   refine gk_then_ret ?_
   refine gk_then_ret ?_
   refine gk_block_ret ?_
   refine gk_then_ret ?_
   refine ret_1 rfl rfl  (fun w M => ?_)
   rw [findR_at (by omega) hc1 hn]; exact ⟨rfl, M.1⟩
  ·try simp only [sA] at hc1
   refine gc_skip ?_
   refine gk_block ?_
   refine gk_then (hK7 _ _ ?_)
   refine gc_region ?_
   refine gm ?_
   refine gv (qt_add rfl rfl rfl (by omega)) ?_
   refine gas ?_
   refine g_nil ?_
   refine gk_then (gk_take 0 ?_)
   refine gk_sub ?hs_11 (hKL4 (k + 1) ?hi_11 ?hm_11)
   case hs_11 => repeat first | exact sub_nil | refine sub_cons rfl ?_
   case hi_11 => exact ⟨by omega, notin_take (by omega) hc1 hn⟩
   case hm_11 => omega
 ·try simp only [sA] at hc0
  refine gc_exit ?_
  refine gk_then_exit ?_
  refine gk_then_exit ?_
  refine gk_block_hit ?_
  refine gk_then (hK2 _ _ ?_)
  refine gc_sr fun K12 hK12 => ?_
  refine gas ?_
  refine gnt (hK12 _ _ ?_)
  refine gc_ret ?_
  refine ret_1 rfl rfl  (fun w M => ?_)
  obtain rfl : k = rs.length := by omega
  rw [List.take_length] at hn
  rw [findR_f hn]; exact ⟨rfl, M.1⟩
set_option maxHeartbeats 1000000 in
set_option maxRecDepth 100000 in
theorem specCol_any (w : World) (p : Value) (rs : List (List Int)) (k : Int) (hp : Rd2 w p rs) (hk : 0 ≤ k) (hr : ∀ i : Nat, i < rs.length → k < (row2 rs (i : Int)).length) :
  Calls Tryz.prog 40 #[p, .int .i64 k] w (RetL w (colR rs k)) := by
 obtain ⟨pa, pc, rfl⟩ := rd2_form hp
 have hpl := rd2_len hp
 go_enter Tryz.func40, Tryz.ntmps40
 refine gc_enter (N := 25) rfl (look_cons (k := 0) rfl (look_cons (k := 1) rfl (look_nil _))) ?_
 refine gc_sr fun K1 hK1 => ?_
 refine gas ?_
 refine gnt (hK1 _ _ ?_)
 refine gc_sr fun K2 hK2 => ?_
 refine gop fun K4 hK4 => ?_
 refine go_slice0 rfl rfl rfl Tryz.underlying22 ?_
 intro B3
 refine hK4 _ _ ?_
 refine gas ?_
 refine gnt (hK2 _ _ ?_)
 refine gc_seq fun K5 hK5 => ?_
 refine gc_sr fun K6 hK6 => ?_
 refine gas ?_
 refine gnt (hK6 _ _ ?_)
 refine gc_block ?_
 try simp only [sL]
 refine gc_loopT ([(0, _), (1, _), (4, _)] : Env) (fun s : Nat × (Option Addr) × Nat => (fun (i : Nat) (a : Option Addr) (q : Nat) => (([(5, .slice a (colR (rs.take i) k).length q), (6, .int .i64 (i : Int))] : Env), ([(0, own1I (.slice a (colR (rs.take i) k).length q) (colR (rs.take i) k))] : List (Nat × Itm)), i ≤ rs.length, rs.length - i)) s.1 s.2.1 s.2.2) ((0, _, _)) (by repeat first | exact sub_nil | refine sub_cons rfl ?_) rfl (Nat.zero_le _) ?_
 rintro ⟨i, a, q⟩ hinv KL7 hKL7
 simp only [sU, sL] at hinv hKL7 ⊢
 have hi := hinv
 have hcl := colR_len (rs.take i) k; rw [List.length_take] at hcl
 refine gc_seq fun K8 hK8 => ?_
 refine gc_sr fun K9 hK9 => ?_
 refine gm ?_
 refine gm ?_
 refine gv (qt_len rfl rfl ulE2 (fun w M => lenV_rd2 hp)) ?_
 refine gv (qt_lss rfl rfl rfl) ?_
 refine gnt (hK9 _ _ ?_)
 refine gc_cond rfl (fun hc0 => ?_) (fun hc0 => ?_)
 ·try simp only [sA] at hc0
  refine gc_skip ?_
  refine gk_then (hK8 _ _ ?_)
  refine gc_seq fun K10 hK10 => ?_
  refine gc_block ?_
  have hri := hr i (by omega)
  refine gc_region ?_
  refine gm ?_
  refine gm ?_
  refine gm ?_
  refine gv (qti2 (fun w M => lenA_rd2 hp)) ?_
  refine g_load2 (.free rfl) rfl rfl rfl rfl Tryz.underlying22 rfl hp (by omega) (by omega) ?_
  intro ra11 rc11 hr11
  refine gm ?_
  refine gv (qti (fun w M => lenA_rd hr11)) ?_
  refine gv (qtd (fun w M => mem_rd M hr11)) ?_
  refine gop fun K13 hK13 => ?_
  refine go_slice1 rfl rfl rfl rfl Tryz.underlying22 ?_
  intro B12
  refine hK13 _ _ ?_
  refine gop fun K15 hK15 => ?_
  refine go_append (n := 0) (m := 1) rfl rfl rfl Tryz.underlying22 rfl rfl rfl rfl (by omega) ?_
  intro va14 vc14
  refine hK15 _ _ ?_
  refine gas ?_
  refine g_nil ?_
  refine gk_block ?_
  refine gk_then (hK10 _ _ ?_)
  refine gc_region ?_
  refine gm ?_
  refine gv (qt_add rfl rfl rfl (by omega)) ?_
  refine gas ?_
  refine g_nil ?_
  simp only [colR_succ (k := k) (show i < rs.length by omega)]
  refine gk_then (gk_take 1 ?_)
  refine gk_sub ?hs_16 (hKL7 ((i + 1, _, _)) ?hi_16 ?hm_16)
  case hs_16 => repeat first | exact sub_nil | refine sub_cons rfl ?_
  case hi_16 => omega
  case hm_16 => omega
 ·try simp only [sA] at hc0
  refine gc_exit ?_
  refine gk_then_exit ?_
  refine gk_then_exit ?_
  refine gk_block_hit ?_
  refine gk_then (hK5 _ _ ?_)
  refine gc_sr fun K17 hK17 => ?_
  refine gm ?_
  refine gas ?_
  refine gnt (hK17 _ _ ?_)
  refine gc_ret ?_
  refine ret_1 rfl rfl  (fun w M => ?_)
  obtain rfl : i = rs.length := by omega
  simp only [List.take_length] at M ⊢
  exact ⟨_, rfl, mem_own1 (n := 0) M rfl, M.1⟩
theorem spcC_end {n : Nat} {rs : List (List Int)} {A B : Cat} {ls zs : List Int} {i : Nat} (hi : i ≤ rs.length) (hf : 0 < i → (n : Int) ≤ 8 ∧ rs.length ≤ 40) (hn : ¬ (i < rs.length ∧ (n : Int) ≤ 8 ∧ rs.length ≤ 40)) :
  (⟨(n : Int), colR rs 0, colR rs 1, tabTo (spcE rs A B ls zs) n, rowsTo (fun i => tabTo (spcM rs A B i) rs.length) i⟩ : Cat) = spcC n rs A B ls zs := by
 unfold spcC
 by_cases hp : (n : Int) ≤ 8 ∧ rs.length ≤ 40
 ·rw [if_pos hp, show i = rs.length from Classical.byContradiction fun hne => hn ⟨by omega, hp⟩]
 ·rw [if_neg hp, show i = 0 from Classical.byContradiction fun hne => hp (hf (by omega))]; rfl
set_option maxHeartbeats 8000000 in
set_option maxRecDepth 100000 in
theorem specBuild_any (w : World) (n : Nat) (hn : n ≤ 2560) (p : Value) (rs : List (List Int)) (hp : Rd2 w p rs) (hl : rs.length ≤ 10485760000) (v : Value) (A : Cat) (h : RdC w v A) (u : Value) (B : Cat) (e : RdC w u B) (vl : Value) (ls : List Int) (h5 : Rd w vl ls) (vr : Value) (zs : List Int) (h6 : Rd w vr zs) (hA : ShapeP A) (hB : ShapeP B) (hx : ∀ x : Nat, x < n → (x < ls.length ∧ 0 ≤ at0 ls (x : Int) ∧ at0 ls (x : Int) < A.ob) ∧ (x < zs.length ∧ 0 ≤ at0 zs (x : Int) ∧ at0 zs (x : Int) < B.ob)) (hr : ∀ i : Nat, i < rs.length → (row2 rs (i : Int)).length = 4 ∧ (0 ≤ at0 (row2 rs (i : Int)) 2 ∧ at0 (row2 rs (i : Int)) 2 < A.s.length) ∧ (0 ≤ at0 (row2 rs (i : Int)) 3 ∧ at0 (row2 rs (i : Int)) 3 < B.s.length)) :
  Calls Tryz.prog 111 #[.int .i64 ((n : Int)), p, v, u, vl, vr] w (RetC w (spcC n rs A B ls zs)) := by
 obtain ⟨pa, pc, rfl⟩ := rd2_form hp
 have h0 := h
 obtain ⟨va, vb, vc, vd, ve, vf, vg, vh, rfl, h1, h2, h3, h4, _⟩ := h.lists
 have e0 := e
 obtain ⟨ua, ub, uc, ud, ue, uf, ug, uh, rfl, e1, e2, e3, e4, _⟩ := e.lists
 obtain ⟨vla, vlc, rfl⟩ := rd_form h5
 obtain ⟨vra, vrc, rfl⟩ := rd_form h6
 have ae := hA.el; have be := hB.el; have a0 := hA.ob0; have b0 := hB.ob0; have n1 := hA.n40; have n2 := hB.n40
 go_enter Tryz.func111, Tryz.ntmps111
 refine gc_enter (N := 156) rfl (look_cons (k := 0) rfl (look_cons (k := 1) rfl (look_cons (k := 2) rfl (look_cons (k := 3) rfl (look_cons (k := 4) rfl (look_cons (k := 5) rfl (look_nil _))))))) ?_
 refine gc_sr fun K1 hK1 => ?_
 refine gop fun K3 hK3 => ?_
 refine go_box rfl rfl rfl rfl rfl ?_
 intro B2
 refine hK3 _ _ ?_
 refine gop fun K5 hK5 => ?_
 refine go_box rfl rfl rfl rfl rfl ?_
 intro B4
 refine hK5 _ _ ?_
 refine gop fun K7 hK7 => ?_
 refine go_alloc (z := (.agg #[.int .i64 0, .slice none 0 0, .slice none 0 0, .slice none 0 0, .slice none 0 0])) (cs := [.int .i64 0, .slice none 0 0, .slice none 0 0, .slice none 0 0, .slice none 0 0]) rfl rfl rfl (fun w => by kernel_rfl) rfl ?_
 intro B6
 refine hK7 _ _ ?_
 refine gnt (hK1 _ _ ?_)
 refine gc_sr fun K8 hK8 => ?_
 refine gm ?_
 refine gop fun K10 hK10 => ?_
 refine go_slice0 rfl rfl rfl Tryz.underlying22 ?_
 intro B9
 refine hK10 _ _ ?_
 refine gop fun K12 hK12 => ?_
 refine go_slice0 rfl rfl rfl Tryz.underlying22 ?_
 intro B11
 refine hK12 _ _ ?_
 refine gop fun K14 hK14 => ?_
 refine go_slice0 rfl rfl rfl Tryz.underlying22 ?_
 intro B13
 refine hK14 _ _ ?_
 refine gop fun K16 hK16 => ?_
 refine go_sliceR0 rfl rfl rfl Tryz.underlying23 ?_
 intro B15
 refine hK16 _ _ ?_
 refine gv (qt_build rfl rfl bt_Category) ?_
 refine gop fun K18 hK18 => ?_
 refine go_alloc (z := (.agg #[.int .i64 0, .slice none 0 0, .slice none 0 0, .slice none 0 0, .slice none 0 0])) (cs := [.int .i64 0, .slice none 0 0, .slice none 0 0, .slice none 0 0, .slice none 0 0]) rfl rfl rfl (fun w => by kernel_rfl) rfl ?_
 intro B17
 refine hK18 _ _ ?_
 refine gop fun K19 hK19 => ?_
 refine go_storeS (n := 7) rfl rfl rfl rfl (by kernel_rfl) rfl rfl rfl ?_
 refine hK19 _ _ ?_
 refine gnt (hK8 _ _ ?_)
 refine gc_seq fun K20 hK20 => ?_
 refine gc_sr fun K21 hK21 => ?_
 refine gas ?_
 refine gnt (hK21 _ _ ?_)
 refine gc_block ?_
 try simp only [sL]
 refine gc_loopT ([(0, _), (1, _), (2, _), (3, _), (4, _), (5, _), (8, _), (9, _), (12, _), (13, _)] : Env) (fun s : Nat × (Option Addr) × Nat × (Option Addr) × Nat => (fun (i : Nat) (a1 : Option Addr) (q1 : Nat) (a2 : Option Addr) (q2 : Nat) => (([(14, .int .i64 (i : Int))] : Env), ([(3, own1I (.slice a1 (colR (rs.take i) 0).length q1) (colR (rs.take i) 0)), (4, own1I (.slice a2 (colR (rs.take i) 1).length q2) (colR (rs.take i) 1)), (7, bxI B17 29 [.int .i64 (n : Int), .slice a1 (colR (rs.take i) 0).length q1, .slice a2 (colR (rs.take i) 1).length q2, .slice (some ⟨B13, 0, none⟩) 0 0, .slice (some ⟨B15, 0, none⟩) 0 0])] : List (Nat × Itm)), i ≤ rs.length, rs.length - i)) s.1 s.2.1 s.2.2.1 s.2.2.2.1 s.2.2.2.2) ((0, _, _, _, _)) (by repeat first | exact sub_nil | refine sub_cons rfl ?_) rfl (Nat.zero_le _) ?_
 rintro ⟨i, a1, q1, a2, q2⟩ hinv KL22 hKL22
 simp only [sU, sL] at hinv hKL22 ⊢
 have hi := hinv
 have hcl0 := colR_len (rs.take i) 0; have hcl1 := colR_len (rs.take i) 1; rw [List.length_take] at hcl0 hcl1
 refine gc_seq fun K23 hK23 => ?_
 refine gc_sr fun K24 hK24 => ?_
 refine gm ?_
 refine gm ?_
 refine gv (qt_len rfl rfl ulE2 (fun w M => lenV_rd2 hp)) ?_
 refine gv (qt_lss rfl rfl rfl) ?_
 refine gnt (hK24 _ _ ?_)
 refine gc_cond rfl (fun hc0 => ?_) (fun hc0 => ?_)
 ·try simp only [sA] at hc0
  refine gc_skip ?_
  refine gk_then (hK23 _ _ ?_)
  refine gc_seq fun K25 hK25 => ?_
  refine gc_block ?_
  refine gc_seq fun K26 hK26 => ?_
  have hrw := (hr i (by omega)).1
  try simp only [sL]
  refine ga_start _ (fun w M => mem_erase 3 (mem_erase 7 (M))) ?_
  refine gav 0 rfl (qtf Tryz.underlying29 (z := 0) (off := 1)) ?_
  refine gav 2 rfl (qt_move rfl rfl) ?_
  refine gav 3 rfl (qt_move rfl rfl) ?_
  refine gav 4 rfl (qti2 (fun w M => lenA_rd2 hp)) ?_
  refine ga_load2 5 rfl (by kernel_rfl) (by kernel_rfl) (by kernel_rfl) (.free rfl) rfl rfl rfl rfl Tryz.underlying22 rfl hp (by omega) (by omega) (fun _ _ _ _ h => h) ?_
  intro ra27 rc27 hr27
  refine gav 6 rfl (qti (fun w M => lenA_rd hr27)) ?_
  refine gav 7 rfl (qtd (fun w M => mem_rd M hr27)) ?_
  refine ga_two 1 8 (by kernel_rfl) rfl rfl (.free rfl) (.free rfl) (fun K28 hK28 => ?_) (fun K28 hK28 => ?_)
  ·refine gov (qtl Tryz.underlying22 (n := 7)) ?_
   refine hK28 _ _ (fun w M => (mem_erase 3 (mem_erase 7 (mem_take 8 M)) :)) ?_
   refine gao 8 fun K31 hK31 => ?_
   refine go_slice1 rfl rfl rfl rfl Tryz.underlying22 ?_
   intro B30
   refine hK31 _ _ (fun w M => (mem_erase 3 (mem_erase 7 (mem_take 8 M)) :)) ?_
   refine gao 9 fun K33 hK33 => ?_
   refine go_append (n := 3) (m := 8) rfl rfl rfl Tryz.underlying22 rfl rfl rfl rfl (by omega) ?_
   intro va32 vc32
   refine hK33 _ _ (fun w M => (mem_erase 3 (mem_erase 7 (mem_take 8 M)) :)) ?_
   refine gav 10 rfl (qtf Tryz.underlying29 (z := 0) (off := 1)) ?_
   refine gao 11 fun K34 hK34 => ?_
   refine go_storeB (n := 7) rfl rfl rfl rfl (by kernel_rfl) rfl rfl rfl (by first | decide | simp) ?_
   refine hK34 _ _ (fun w M => (mem_erase 3 (mem_erase 7 (mem_take 8 M)) :)) ?_
   refine ga_done (by kernel_rfl) ?_
   refine gk_then (hK26 _ _ ?_)
   try simp only [sL]
   refine ga_start _ (fun w M => mem_erase 4 (mem_erase 7 (M))) ?_
   refine gav 0 rfl (qtf Tryz.underlying29 (z := 0) (off := 2)) ?_
   refine gav 2 rfl (qt_move rfl rfl) ?_
   refine gav 3 rfl (qt_move rfl rfl) ?_
   refine gav 4 rfl (qti2 (fun w M => lenA_rd2 hp)) ?_
   refine ga_load2 5 rfl (by kernel_rfl) (by kernel_rfl) (by kernel_rfl) (.free rfl) rfl rfl rfl rfl Tryz.underlying22 rfl hp (by omega) (by omega) (fun _ _ _ _ h => h) ?_
   intro ra35 rc35 hr35
   refine gav 6 rfl (qti (fun w M => lenA_rd hr35)) ?_
   refine gav 7 rfl (qtd (fun w M => mem_rd M hr35)) ?_
   refine ga_two 1 8 (by kernel_rfl) rfl rfl (.free rfl) (.free rfl) (fun K36 hK36 => ?_) (fun K36 hK36 => ?_)
   ·refine gov (qtl Tryz.underlying22 (n := 7)) ?_
    refine hK36 _ _ (fun w M => (mem_erase 4 (mem_erase 7 (mem_take 9 M)) :)) ?_
    refine gao 8 fun K39 hK39 => ?_
    refine go_slice1 rfl rfl rfl rfl Tryz.underlying22 ?_
    intro B38
    refine hK39 _ _ (fun w M => (mem_erase 4 (mem_erase 7 (mem_take 9 M)) :)) ?_
    refine gao 9 fun K41 hK41 => ?_
    refine go_append (n := 4) (m := 9) rfl rfl rfl Tryz.underlying22 rfl rfl rfl rfl (by omega) ?_
    intro va40 vc40
    refine hK41 _ _ (fun w M => (mem_erase 4 (mem_erase 7 (mem_take 9 M)) :)) ?_
    refine gav 10 rfl (qtf Tryz.underlying29 (z := 0) (off := 2)) ?_
    refine gao 11 fun K42 hK42 => ?_
    refine go_storeB (n := 7) rfl rfl rfl rfl (by kernel_rfl) rfl rfl rfl (by first | decide | simp) ?_
    refine hK42 _ _ (fun w M => (mem_erase 4 (mem_erase 7 (mem_take 9 M)) :)) ?_
    refine ga_done (by kernel_rfl) ?_
    refine gk_block ?_
    refine gk_then (hK25 _ _ ?_)
    refine gc_region ?_
    refine gm ?_
    refine gv (qt_add rfl rfl rfl (by omega)) ?_
    refine gas ?_
    refine g_nil ?_
    simp only [colR_succ (k := 0) (show i < rs.length by omega), colR_succ (k := 1) (show i < rs.length by omega)]
    refine gk_then (gk_take 8 ?_)
    refine gk_sub ?hs_43 (hKL22 ((i + 1, _, _, _, _)) ?hi_43 ?hm_43)
    case hs_43 => repeat first | exact sub_nil | refine sub_cons rfl ?_
    case hi_43 => omega
    case hm_43 => omega
   ·refine go_slice1 rfl rfl rfl rfl Tryz.underlying22 ?_
    intro B44
    refine hK36 _ _ (fun w M => (mem_erase 4 (mem_erase 7 (mem_take 9 M)) :)) ?_
    refine gao 1 fun K46 hK46 => ?_
    refine gov (qtl Tryz.underlying22 (n := 7)) ?_
    refine hK46 _ _ (fun w M => (mem_erase 4 (mem_erase 7 (mem_take 9 M)) :)) ?_
    refine gao 9 fun K48 hK48 => ?_
    refine go_append (n := 4) (m := 9) rfl rfl rfl Tryz.underlying22 rfl rfl rfl rfl (by omega) ?_
    intro va47 vc47
    refine hK48 _ _ (fun w M => (mem_erase 4 (mem_erase 7 (mem_take 9 M)) :)) ?_
    refine gav 10 rfl (qtf Tryz.underlying29 (z := 0) (off := 2)) ?_
    refine gao 11 fun K49 hK49 => ?_
    refine go_storeB (n := 7) rfl rfl rfl rfl (by kernel_rfl) rfl rfl rfl (by first | decide | simp) ?_
    refine hK49 _ _ (fun w M => (mem_erase 4 (mem_erase 7 (mem_take 9 M)) :)) ?_
    refine ga_done (by kernel_rfl) ?_
    refine gk_block ?_
    refine gk_then (hK25 _ _ ?_)
    refine gc_region ?_
    refine gm ?_
    refine gv (qt_add rfl rfl rfl (by omega)) ?_
    refine gas ?_
    refine g_nil ?_
    simp only [colR_succ (k := 0) (show i < rs.length by omega), colR_succ (k := 1) (show i < rs.length by omega)]
    refine gk_then (gk_take 8 ?_)
    refine gk_sub ?hs_50 (hKL22 ((i + 1, _, _, _, _)) ?hi_50 ?hm_50)
    case hs_50 => repeat first | exact sub_nil | refine sub_cons rfl ?_
    case hi_50 => omega
    case hm_50 => omega
  ·refine go_slice1 rfl rfl rfl rfl Tryz.underlying22 ?_
   intro B51
   refine hK28 _ _ (fun w M => (mem_erase 3 (mem_erase 7 (mem_take 8 M)) :)) ?_
   refine gao 1 fun K53 hK53 => ?_
   refine gov (qtl Tryz.underlying22 (n := 7)) ?_
   refine hK53 _ _ (fun w M => (mem_erase 3 (mem_erase 7 (mem_take 8 M)) :)) ?_
   refine gao 9 fun K55 hK55 => ?_
   refine go_append (n := 3) (m := 8) rfl rfl rfl Tryz.underlying22 rfl rfl rfl rfl (by omega) ?_
   intro va54 vc54
   refine hK55 _ _ (fun w M => (mem_erase 3 (mem_erase 7 (mem_take 8 M)) :)) ?_
   refine gav 10 rfl (qtf Tryz.underlying29 (z := 0) (off := 1)) ?_
   refine gao 11 fun K56 hK56 => ?_
   refine go_storeB (n := 7) rfl rfl rfl rfl (by kernel_rfl) rfl rfl rfl (by first | decide | simp) ?_
   refine hK56 _ _ (fun w M => (mem_erase 3 (mem_erase 7 (mem_take 8 M)) :)) ?_
   refine ga_done (by kernel_rfl) ?_
   refine gk_then (hK26 _ _ ?_)
   try simp only [sL]
   refine ga_start _ (fun w M => mem_erase 4 (mem_erase 7 (M))) ?_
   refine gav 0 rfl (qtf Tryz.underlying29 (z := 0) (off := 2)) ?_
   refine gav 2 rfl (qt_move rfl rfl) ?_
   refine gav 3 rfl (qt_move rfl rfl) ?_
   refine gav 4 rfl (qti2 (fun w M => lenA_rd2 hp)) ?_
   refine ga_load2 5 rfl (by kernel_rfl) (by kernel_rfl) (by kernel_rfl) (.free rfl) rfl rfl rfl rfl Tryz.underlying22 rfl hp (by omega) (by omega) (fun _ _ _ _ h => h) ?_
   intro ra57 rc57 hr57
   refine gav 6 rfl (qti (fun w M => lenA_rd hr57)) ?_
   refine gav 7 rfl (qtd (fun w M => mem_rd M hr57)) ?_
   refine ga_two 1 8 (by kernel_rfl) rfl rfl (.free rfl) (.free rfl) (fun K58 hK58 => ?_) (fun K58 hK58 => ?_)
   ·refine gov (qtl Tryz.underlying22 (n := 7)) ?_
    refine hK58 _ _ (fun w M => (mem_erase 4 (mem_erase 7 (mem_take 9 M)) :)) ?_
    refine gao 8 fun K61 hK61 => ?_
    refine go_slice1 rfl rfl rfl rfl Tryz.underlying22 ?_
    intro B60
    refine hK61 _ _ (fun w M => (mem_erase 4 (mem_erase 7 (mem_take 9 M)) :)) ?_
    refine gao 9 fun K63 hK63 => ?_
    refine go_append (n := 4) (m := 9) rfl rfl rfl Tryz.underlying22 rfl rfl rfl rfl (by omega) ?_
    intro va62 vc62
    refine hK63 _ _ (fun w M => (mem_erase 4 (mem_erase 7 (mem_take 9 M)) :)) ?_
    refine gav 10 rfl (qtf Tryz.underlying29 (z := 0) (off := 2)) ?_
    refine gao 11 fun K64 hK64 => ?_
    refine go_storeB (n := 7) rfl rfl rfl rfl (by kernel_rfl) rfl rfl rfl (by first | decide | simp) ?_
    refine hK64 _ _ (fun w M => (mem_erase 4 (mem_erase 7 (mem_take 9 M)) :)) ?_
    refine ga_done (by kernel_rfl) ?_
    refine gk_block ?_
    refine gk_then (hK25 _ _ ?_)
    refine gc_region ?_
    refine gm ?_
    refine gv (qt_add rfl rfl rfl (by omega)) ?_
    refine gas ?_
    refine g_nil ?_
    simp only [colR_succ (k := 0) (show i < rs.length by omega), colR_succ (k := 1) (show i < rs.length by omega)]
    refine gk_then (gk_take 8 ?_)
    refine gk_sub ?hs_65 (hKL22 ((i + 1, _, _, _, _)) ?hi_65 ?hm_65)
    case hs_65 => repeat first | exact sub_nil | refine sub_cons rfl ?_
    case hi_65 => omega
    case hm_65 => omega
   ·refine go_slice1 rfl rfl rfl rfl Tryz.underlying22 ?_
    intro B66
    refine hK58 _ _ (fun w M => (mem_erase 4 (mem_erase 7 (mem_take 9 M)) :)) ?_
    refine gao 1 fun K68 hK68 => ?_
    refine gov (qtl Tryz.underlying22 (n := 7)) ?_
    refine hK68 _ _ (fun w M => (mem_erase 4 (mem_erase 7 (mem_take 9 M)) :)) ?_
    refine gao 9 fun K70 hK70 => ?_
    refine go_append (n := 4) (m := 9) rfl rfl rfl Tryz.underlying22 rfl rfl rfl rfl (by omega) ?_
    intro va69 vc69
    refine hK70 _ _ (fun w M => (mem_erase 4 (mem_erase 7 (mem_take 9 M)) :)) ?_
    refine gav 10 rfl (qtf Tryz.underlying29 (z := 0) (off := 2)) ?_
    refine gao 11 fun K71 hK71 => ?_
    refine go_storeB (n := 7) rfl rfl rfl rfl (by kernel_rfl) rfl rfl rfl (by first | decide | simp) ?_
    refine hK71 _ _ (fun w M => (mem_erase 4 (mem_erase 7 (mem_take 9 M)) :)) ?_
    refine ga_done (by kernel_rfl) ?_
    refine gk_block ?_
    refine gk_then (hK25 _ _ ?_)
    refine gc_region ?_
    refine gm ?_
    refine gv (qt_add rfl rfl rfl (by omega)) ?_
    refine gas ?_
    refine g_nil ?_
    simp only [colR_succ (k := 0) (show i < rs.length by omega), colR_succ (k := 1) (show i < rs.length by omega)]
    refine gk_then (gk_take 8 ?_)
    refine gk_sub ?hs_72 (hKL22 ((i + 1, _, _, _, _)) ?hi_72 ?hm_72)
    case hs_72 => repeat first | exact sub_nil | refine sub_cons rfl ?_
    case hi_72 => omega
    case hm_72 => omega
 ·try simp only [sA] at hc0
  refine gc_exit ?_
  refine gk_then_exit ?_
  refine gk_then_exit ?_
  refine gk_block_hit ?_
  refine gk_then (hK20 _ _ ?_)
  refine gc_seq fun K73 hK73 => ?_
  refine gc_sr fun K74 hK74 => ?_
  refine gas ?_
  refine gnt (hK74 _ _ ?_)
  refine gc_block ?_
  obtain rfl : i = rs.length := by omega
  simp only [List.take_length]
  try simp only [sL]
  refine gc_loopT ([(0, _), (1, _), (2, _), (3, _), (4, _), (5, _), (8, _), (9, _), (12, _), (13, _), (14, _), (30, _)] : Env) (fun s : Nat × (Option Addr) × Nat => (fun (x : Nat) (a3 : Option Addr) (q3 : Nat) => (([(15, .int .i64 (x : Int))] : Env), ([(5, own1I (.slice a3 (tabTo (spcE rs A B ls zs) x).length q3) (tabTo (spcE rs A B ls zs) x)), (7, bxI B17 29 [.int .i64 (n : Int), .slice a1 (colR rs 0).length q1, .slice a2 (colR rs 1).length q2, .slice a3 (tabTo (spcE rs A B ls zs) x).length q3, .slice (some ⟨B15, 0, none⟩) 0 0])] : List (Nat × Itm)), x ≤ n, n - x)) s.1 s.2.1 s.2.2) ((0, _, _)) (by repeat first | exact sub_nil | refine sub_cons rfl ?_) rfl (Nat.zero_le _) ?_
  rintro ⟨x, a3, q3⟩ hinv KL75 hKL75
  simp only [sU, sL] at hinv hKL75 ⊢
  have hx1 := hinv
  have htl := tabTo_len (spcE rs A B ls zs) x
  refine gc_seq fun K76 hK76 => ?_
  refine gc_seq fun K77 hK77 => ?_
  first | (obtain rfl : i = rs.length := by omega; simp only [List.take_length]) | skip
  refine gc_region ?_
  refine gm ?_
  refine gm ?_
  refine gv (qt_lss rfl rfl rfl) ?_
  refine gnt (hK77 _ _ ?_)
  refine gc_cond rfl (fun hc1 => ?_) (fun hc1 => ?_)
  ·try simp only [sA] at hc1
   refine gc_skip ?_
   refine gk_then (hK76 _ _ ?_)
   refine gc_seq fun K78 hK78 => ?_
   refine gc_block ?_
   have hxx := hx x (by omega)
   have x0 := hxx.1.1; have x1 := hxx.1.2.1; have x2 := hxx.1.2.2; have x3 := hxx.2.1; have x4 := hxx.2.2.1; have x5 := hxx.2.2.2
   try simp only [sL]
   refine ga_start _ (fun w M => mem_erase 5 (mem_erase 7 (M))) ?_
   refine gav 0 rfl (qtf Tryz.underlying29 (z := 0) (off := 3)) ?_
   refine gav 2 rfl (qt_move rfl rfl) ?_
   refine gav 3 rfl (qt_move rfl rfl) ?_
   refine gav 4 rfl (qt_move rfl rfl) ?_
   refine gav 5 rfl (qtf Tryz.underlying29 (z := 0) (off := 3)) ?_
   refine gav 6 rfl (qtl Tryz.underlying22 (n := 0)) ?_
   refine gav 7 rfl (qt_move rfl rfl) ?_
   refine gav 8 rfl (qt_move rfl rfl) ?_
   refine gav 9 rfl (qti (fun w M => lenA_rd h5)) ?_
   refine gav 10 rfl (qtd (fun w M => mem_rd M h5)) ?_
   refine gav 11 rfl (qti (fun w M => lenA_rd h3)) ?_
   refine gav 12 rfl (qtd (fun w M => mem_rd M h3)) ?_
   refine gav 13 rfl (qtf Tryz.underlying29 (z := 0) (off := 3)) ?_
   refine gav 14 rfl (qtl Tryz.underlying22 (n := 1)) ?_
   refine gav 15 rfl (qt_move rfl rfl) ?_
   refine gav 16 rfl (qt_move rfl rfl) ?_
   refine gav 17 rfl (qti (fun w M => lenA_rd h6)) ?_
   refine gav 18 rfl (qtd (fun w M => mem_rd M h6)) ?_
   refine gav 19 rfl (qti (fun w M => lenA_rd e3)) ?_
   refine gav 20 rfl (qtd (fun w M => mem_rd M e3)) ?_
   refine ga_two 1 21 (by kernel_rfl) rfl rfl (.free rfl) (.free rfl) (fun K79 hK79 => ?_) (fun K79 hK79 => ?_)
   ·refine gov (qtl Tryz.underlying22 (n := 7)) ?_
    refine hK79 _ _ (fun w M => (mem_erase 5 (mem_erase 7 (mem_take 8 M)) :)) ?_
    refine gao 21 fun K82 hK82 => ?_
    refine go_slice4I rfl rfl rfl rfl rfl rfl rfl Tryz.underlying22 ?_
    intro B81
    refine hK82 _ _ (fun w M => (mem_erase 5 (mem_erase 7 (mem_take 8 M)) :)) ?_
    refine gao 22 fun K83 hK83 => ?_
    refine go_q rfl rfl (qt_call rfl Tryz.func142 rfl (by decide) rfl (fun w M => specFind_any w _ _ _ _ (mem_rd2 M hp) ((mem_own1 (n := 8) M rfl).rd))) ?_
    refine hK83 _ _ (fun w M => (mem_erase 5 (mem_erase 7 (mem_take 8 M)) :)) ?_
    refine gao 23 fun K85 hK85 => ?_
    refine go_slice1 rfl rfl rfl rfl Tryz.underlying22 ?_
    intro B84
    refine hK85 _ _ (fun w M => (mem_erase 5 (mem_erase 7 (mem_take 8 M)) :)) ?_
    refine gao 24 fun K87 hK87 => ?_
    refine go_append (n := 5) (m := 9) rfl rfl rfl Tryz.underlying22 rfl rfl rfl rfl (by omega) ?_
    intro va86 vc86
    refine hK87 _ _ (fun w M => (mem_erase 5 (mem_erase 7 (mem_take 8 M)) :)) ?_
    refine gav 25 rfl (qtf Tryz.underlying29 (z := 0) (off := 3)) ?_
    refine gao 26 fun K88 hK88 => ?_
    refine go_storeB (n := 7) rfl rfl rfl rfl (by kernel_rfl) rfl rfl rfl (by first | decide | simp) ?_
    refine hK88 _ _ (fun w M => (mem_erase 5 (mem_erase 7 (mem_take 8 M)) :)) ?_
    refine ga_done (by kernel_rfl) ?_
    refine gk_block ?_
    refine gk_then (hK78 _ _ ?_)
    refine gc_region ?_
    refine gm ?_
    refine gv (qt_add rfl rfl rfl (by omega)) ?_
    refine gas ?_
    refine g_nil ?_
    simp only [show tabTo (spcE rs A B ls zs) x ++ [findR rs [(x : Int), (x : Int), at0 A.e (at0 ls (x : Int)), at0 B.e (at0 zs (x : Int))]] = tabTo (spcE rs A B ls zs) (x + 1) from tabTo_succ _ _]
    refine gk_then (gk_take 8 ?_)
    refine gk_sub ?hs_89 (hKL75 ((x + 1, _, _)) ?hi_89 ?hm_89)
    case hs_89 => repeat first | exact sub_nil | refine sub_cons rfl ?_
    case hi_89 => omega
    case hm_89 => omega
   ·refine go_slice4I rfl rfl rfl rfl rfl rfl rfl Tryz.underlying22 ?_
    intro B90
    refine hK79 _ _ (fun w M => (mem_erase 5 (mem_erase 7 (mem_take 8 M)) :)) ?_
    refine ga_two 1 22 (by kernel_rfl) rfl rfl (.free rfl) (.free rfl) (fun K92 hK92 => ?_) (fun K92 hK92 => ?_)
    ·refine gov (qtl Tryz.underlying22 (n := 7)) ?_
     refine hK92 _ _ (fun w M => (mem_erase 5 (mem_erase 7 (mem_take 8 M)) :)) ?_
     refine gao 22 fun K94 hK94 => ?_
     refine go_q rfl rfl (qt_call rfl Tryz.func142 rfl (by decide) rfl (fun w M => specFind_any w _ _ _ _ (mem_rd2 M hp) ((mem_own1 (n := 8) M rfl).rd))) ?_
     refine hK94 _ _ (fun w M => (mem_erase 5 (mem_erase 7 (mem_take 8 M)) :)) ?_
     refine gao 23 fun K96 hK96 => ?_
     refine go_slice1 rfl rfl rfl rfl Tryz.underlying22 ?_
     intro B95
     refine hK96 _ _ (fun w M => (mem_erase 5 (mem_erase 7 (mem_take 8 M)) :)) ?_
     refine gao 24 fun K98 hK98 => ?_
     refine go_append (n := 5) (m := 9) rfl rfl rfl Tryz.underlying22 rfl rfl rfl rfl (by omega) ?_
     intro va97 vc97
     refine hK98 _ _ (fun w M => (mem_erase 5 (mem_erase 7 (mem_take 8 M)) :)) ?_
     refine gav 25 rfl (qtf Tryz.underlying29 (z := 0) (off := 3)) ?_
     refine gao 26 fun K99 hK99 => ?_
     refine go_storeB (n := 7) rfl rfl rfl rfl (by kernel_rfl) rfl rfl rfl (by first | decide | simp) ?_
     refine hK99 _ _ (fun w M => (mem_erase 5 (mem_erase 7 (mem_take 8 M)) :)) ?_
     refine ga_done (by kernel_rfl) ?_
     refine gk_block ?_
     refine gk_then (hK78 _ _ ?_)
     refine gc_region ?_
     refine gm ?_
     refine gv (qt_add rfl rfl rfl (by omega)) ?_
     refine gas ?_
     refine g_nil ?_
     simp only [show tabTo (spcE rs A B ls zs) x ++ [findR rs [(x : Int), (x : Int), at0 A.e (at0 ls (x : Int)), at0 B.e (at0 zs (x : Int))]] = tabTo (spcE rs A B ls zs) (x + 1) from tabTo_succ _ _]
     refine gk_then (gk_take 8 ?_)
     refine gk_sub ?hs_100 (hKL75 ((x + 1, _, _)) ?hi_100 ?hm_100)
     case hs_100 => repeat first | exact sub_nil | refine sub_cons rfl ?_
     case hi_100 => omega
     case hm_100 => omega
    ·refine go_q rfl rfl (qt_call rfl Tryz.func142 rfl (by decide) rfl (fun w M => specFind_any w _ _ _ _ (mem_rd2 M hp) ((mem_own1 (n := 8) M rfl).rd))) ?_
     refine hK92 _ _ (fun w M => (mem_erase 5 (mem_erase 7 (mem_take 8 M)) :)) ?_
     refine ga_two 1 23 (by kernel_rfl) rfl rfl (.free rfl) (.free rfl) (fun K102 hK102 => ?_) (fun K102 hK102 => ?_)
     ·refine gov (qtl Tryz.underlying22 (n := 7)) ?_
      refine hK102 _ _ (fun w M => (mem_erase 5 (mem_erase 7 (mem_take 8 M)) :)) ?_
      refine gao 23 fun K105 hK105 => ?_
      refine go_slice1 rfl rfl rfl rfl Tryz.underlying22 ?_
      intro B104
      refine hK105 _ _ (fun w M => (mem_erase 5 (mem_erase 7 (mem_take 8 M)) :)) ?_
      refine gao 24 fun K107 hK107 => ?_
      refine go_append (n := 5) (m := 9) rfl rfl rfl Tryz.underlying22 rfl rfl rfl rfl (by omega) ?_
      intro va106 vc106
      refine hK107 _ _ (fun w M => (mem_erase 5 (mem_erase 7 (mem_take 8 M)) :)) ?_
      refine gav 25 rfl (qtf Tryz.underlying29 (z := 0) (off := 3)) ?_
      refine gao 26 fun K108 hK108 => ?_
      refine go_storeB (n := 7) rfl rfl rfl rfl (by kernel_rfl) rfl rfl rfl (by first | decide | simp) ?_
      refine hK108 _ _ (fun w M => (mem_erase 5 (mem_erase 7 (mem_take 8 M)) :)) ?_
      refine ga_done (by kernel_rfl) ?_
      refine gk_block ?_
      refine gk_then (hK78 _ _ ?_)
      refine gc_region ?_
      refine gm ?_
      refine gv (qt_add rfl rfl rfl (by omega)) ?_
      refine gas ?_
      refine g_nil ?_
      simp only [show tabTo (spcE rs A B ls zs) x ++ [findR rs [(x : Int), (x : Int), at0 A.e (at0 ls (x : Int)), at0 B.e (at0 zs (x : Int))]] = tabTo (spcE rs A B ls zs) (x + 1) from tabTo_succ _ _]
      refine gk_then (gk_take 8 ?_)
      refine gk_sub ?hs_109 (hKL75 ((x + 1, _, _)) ?hi_109 ?hm_109)
      case hs_109 => repeat first | exact sub_nil | refine sub_cons rfl ?_
      case hi_109 => omega
      case hm_109 => omega
     ·refine go_slice1 rfl rfl rfl rfl Tryz.underlying22 ?_
      intro B110
      refine hK102 _ _ (fun w M => (mem_erase 5 (mem_erase 7 (mem_take 8 M)) :)) ?_
      refine gao 1 fun K112 hK112 => ?_
      refine gov (qtl Tryz.underlying22 (n := 7)) ?_
      refine hK112 _ _ (fun w M => (mem_erase 5 (mem_erase 7 (mem_take 8 M)) :)) ?_
      refine gao 24 fun K114 hK114 => ?_
      refine go_append (n := 5) (m := 9) rfl rfl rfl Tryz.underlying22 rfl rfl rfl rfl (by omega) ?_
      intro va113 vc113
      refine hK114 _ _ (fun w M => (mem_erase 5 (mem_erase 7 (mem_take 8 M)) :)) ?_
      refine gav 25 rfl (qtf Tryz.underlying29 (z := 0) (off := 3)) ?_
      refine gao 26 fun K115 hK115 => ?_
      refine go_storeB (n := 7) rfl rfl rfl rfl (by kernel_rfl) rfl rfl rfl (by first | decide | simp) ?_
      refine hK115 _ _ (fun w M => (mem_erase 5 (mem_erase 7 (mem_take 8 M)) :)) ?_
      refine ga_done (by kernel_rfl) ?_
      refine gk_block ?_
      refine gk_then (hK78 _ _ ?_)
      refine gc_region ?_
      refine gm ?_
      refine gv (qt_add rfl rfl rfl (by omega)) ?_
      refine gas ?_
      refine g_nil ?_
      simp only [show tabTo (spcE rs A B ls zs) x ++ [findR rs [(x : Int), (x : Int), at0 A.e (at0 ls (x : Int)), at0 B.e (at0 zs (x : Int))]] = tabTo (spcE rs A B ls zs) (x + 1) from tabTo_succ _ _]
      refine gk_then (gk_take 8 ?_)
      refine gk_sub ?hs_116 (hKL75 ((x + 1, _, _)) ?hi_116 ?hm_116)
      case hs_116 => repeat first | exact sub_nil | refine sub_cons rfl ?_
      case hi_116 => omega
      case hm_116 => omega
  ·try simp only [sA] at hc1
   refine gc_exit ?_
   refine gk_then_exit ?_
   refine gk_then_exit ?_
   refine gk_block_hit ?_
   refine gk_then (hK73 _ _ ?_)
   refine gc_seq fun K117 hK117 => ?_
   refine gc_sr fun K118 hK118 => ?_
   refine gas ?_
   refine gnt (hK118 _ _ ?_)
   refine gc_block ?_
   obtain rfl : n = x := by omega
   try simp only [sL]
   refine gc_loopT ([(0, _), (1, _), (2, _), (3, _), (4, _), (5, _), (8, _), (9, _), (12, _), (13, _), (14, _), (15, _), (30, _), (57, _)] : Env) (fun s : Nat × (Option Addr) × Nat × (List Value) => (fun (i : Nat) (a4 : Option Addr) (q4 : Nat) (us : List Value) => (([(16, .int .i64 (i : Int))] : Env), ([(6, own2U (.slice a4 (rowsTo (fun i => tabTo (spcM rs A B i) rs.length) i).length q4) us (rowsTo (fun i => tabTo (spcM rs A B i) rs.length) i)), (7, bxI B17 29 [.int .i64 (n : Int), .slice a1 (colR rs 0).length q1, .slice a2 (colR rs 1).length q2, .slice a3 (tabTo (spcE rs A B ls zs) n).length q3, .slice a4 (rowsTo (fun i => tabTo (spcM rs A B i) rs.length) i).length q4])] : List (Nat × Itm)), i ≤ rs.length ∧ (0 < i → (n : Int) ≤ 8 ∧ rs.length ≤ 40), rs.length - i)) s.1 s.2.1 s.2.2.1 s.2.2.2) ((0, _, _, _)) (by repeat first | exact sub_nil | refine sub_cons rfl ?_) rfl ⟨Nat.zero_le _, fun h => absurd h (by omega)⟩ ?_
   rintro ⟨i, a4, q4, us⟩ hinv KL119 hKL119
   simp only [sU, sL] at hinv hKL119 ⊢
   obtain ⟨hi, hfi⟩ := hinv
   have hrt := rowsTo_len (fun i => tabTo (spcM rs A B i) rs.length) i
   have hft : FitP (⟨(n : Int), colR rs 0, colR rs 1, tabTo (spcE rs A B ls zs) n, rowsTo (fun i => tabTo (spcM rs A B i) rs.length) i⟩ : Cat) ↔ _ := spcC_fit n rs A B ls zs _ _
   refine gc_seq fun K120 hK120 => ?_
   refine gc_sr fun K121 hK121 => ?_
   refine gm ?_
   refine gm ?_
   refine gv (qt_len rfl rfl ulE2 (fun w M => lenV_rd2 hp)) ?_
   refine gv (qt_lss rfl rfl rfl) ?_
   refine g_splitv (.free rfl) rfl rfl (qt_move rfl rfl) (fun hs12_4 => ?_) (fun hs12_4 => ?_)
   ·try simp only [sA] at hs12_4
    refine gvh (qts Tryz.underlying29 (n := 7)) ?_
    refine g_q (.held _ _ _ rfl rfl rfl) rfl rfl (qt_call rfl Tryz.func77 rfl (by decide) rfl (fun w M => specFits_any w _ (⟨(n : Int), colR rs 0, colR rs 1, tabTo (spcE rs A B ls zs) n, rowsTo (fun i => tabTo (spcM rs A B i) rs.length) i⟩ : Cat) (rdC_mk (c := (⟨(n : Int), colR rs 0, colR rs 1, tabTo (spcE rs A B ls zs) n, rowsTo (fun i => tabTo (spcM rs A B i) rs.length) i⟩ : Cat)) ((mem_own1 (n := 3) M rfl).rd) ((mem_own1 (n := 4) M rfl).rd) ((mem_own1 (n := 5) M rfl).rd) (mem_rdU (n := 6) M rfl)))) ?_
    refine gv (qt_pick_t rfl rfl rfl) ?_
    refine gnt (hK121 _ _ ?_)
    refine gc_cond rfl (fun hc2 => ?_) (fun hc2 => ?_)
    ·try simp only [sA] at hc2
     refine gc_skip ?_
     refine gk_then (hK120 _ _ ?_)
     refine gc_seq fun K122 hK122 => ?_
     refine gc_block ?_
     refine gc_sr fun K123 hK123 => ?_
     refine gop fun K125 hK125 => ?_
     refine go_slice0 rfl rfl rfl Tryz.underlying22 ?_
     intro B124
     refine hK125 _ _ ?_
     refine gas ?_
     refine gnt (hK123 _ _ ?_)
     refine gc_seq fun K126 hK126 => ?_
     refine gc_sr fun K127 hK127 => ?_
     refine gas ?_
     refine gnt (hK127 _ _ ?_)
     refine gc_block ?_
     try simp only [sL]
     refine gc_loopT ([(0, _), (1, _), (2, _), (3, _), (4, _), (5, _), (8, _), (9, _), (12, _), (13, _), (14, _), (15, _), (16, _), (30, _), (57, _), (93, _)] : Env) (fun s : Nat × (Option Addr) × Nat => (fun (j : Nat) (a : Option Addr) (q : Nat) => (([(17, .slice a (tabTo (spcM rs A B i) j).length q), (18, .int .i64 (j : Int))] : Env), ([(8, own1I (.slice a (tabTo (spcM rs A B i) j).length q) (tabTo (spcM rs A B i) j))] : List (Nat × Itm)), j ≤ rs.length, rs.length - j)) s.1 s.2.1 s.2.2) ((0, _, _)) (by repeat first | exact sub_nil | refine sub_cons rfl ?_) rfl (Nat.zero_le _) ?_
     rintro ⟨j, a, q⟩ hinv KL128 hKL128
     simp only [sU, sL] at hinv hKL128 ⊢
     have hj := hinv
     have hjt := tabTo_len (spcM rs A B i) j
     refine gc_seq fun K129 hK129 => ?_
     refine gc_sr fun K130 hK130 => ?_
     refine gm ?_
     refine gm ?_
     refine gv (qt_len rfl rfl ulE2 (fun w M => lenV_rd2 hp)) ?_
     refine gv (qt_lss rfl rfl rfl) ?_
     refine gnt (hK130 _ _ ?_)
     refine gc_cond rfl (fun hc3 => ?_) (fun hc3 => ?_)
     ·try simp only [sA] at hc3
      refine gc_skip ?_
      refine gk_then (hK129 _ _ ?_)
      refine gc_seq fun K131 hK131 => ?_
      refine gc_block ?_
      refine gc_seq fun K132 hK132 => ?_
      refine gc_draw (by kernel_rfl) ?_
      refine gdv (qt_move rfl rfl) ?_
      refine gdv (qt_move rfl rfl) ?_
      refine gdv (qti2 (fun w M => lenA_rd2 hp)) ?_
      refine gd_load2 (.free rfl) rfl rfl rfl rfl Tryz.underlying22 rfl hp (by omega) (by omega) ?_
      intro ra133 rc133 hr133
      refine gdv (qt_move rfl rfl) ?_
      refine gdv (qt_move rfl rfl) ?_
      refine gdv (qti2 (fun w M => lenA_rd2 hp)) ?_
      refine gd_load2 (.free rfl) rfl rfl rfl rfl Tryz.underlying22 rfl hp (by omega) (by omega) ?_
      intro ra134 rc134 hr134
      refine gdv (qt_assign rfl rfl) ?_
      refine gdv (qt_assign rfl rfl) ?_
      refine gd_nil ?_
      refine gk_then (hK132 _ _ ?_)
      refine gc_seq fun K135 hK135 => ?_
      refine gc_seq fun K136 hK136 => ?_
      have hrw := hr i (by omega)
      have hrx := hr j (by omega)
      have w0 := hrw.1; have w1 := hrw.2.1.1; have w2 := hrw.2.1.2; have w3 := hrw.2.2.1; have w4 := hrw.2.2.2; have w5 := hrx.1; have w6 := hrx.2.1.1; have w7 := hrx.2.1.2; have w8 := hrx.2.2.1; have w9 := hrx.2.2.2
      have A1 := arrP hA w1 w2; have A2 := arrP hB w3 w4
      have r1 := A1.row; have r2 := A2.row; have f1 := A1.fm; have f2 := A2.fm
      refine gc_draw (by kernel_rfl) ?_
      refine gdv (qt_move rfl rfl) ?_
      refine gdv (qti (fun w M => lenA_rd hr133)) ?_
      refine gdv (qtd (fun w M => mem_rd M hr133)) ?_
      refine gdv (qt_move rfl rfl) ?_
      refine gdv (qti (fun w M => lenA_rd hr134)) ?_
      refine gdv (qtd (fun w M => mem_rd M hr134)) ?_
      refine gdv (qt_neq rfl rfl rfl) ?_
      refine gd_nil ?_
      refine gk_then (hK136 _ _ ?_)
      refine gc_cond rfl (fun hc4 => ?_) (fun hc4 => ?_)
      ·try simp only [sA] at hc4
       refine gc_sr fun K137 hK137 => ?_
       refine gm ?_
       refine gop fun K139 hK139 => ?_
       refine go_slice1 rfl rfl rfl rfl Tryz.underlying22 ?_
       intro B138
       refine hK139 _ _ ?_
       refine gop fun K141 hK141 => ?_
       refine go_append (n := 8) (m := 9) rfl rfl rfl Tryz.underlying22 rfl rfl rfl rfl (by omega) ?_
       intro va140 vc140
       refine hK141 _ _ ?_
       refine gas ?_
       refine gnt (hK137 _ _ ?_)
       refine gc_exit ?_
       refine gk_then_exit ?_
       refine gk_block_hit ?_
       refine gk_then (hK131 _ _ ?_)
       refine gc_region ?_
       refine gm ?_
       refine gv (qt_add rfl rfl rfl (by omega)) ?_
       refine gas ?_
       refine g_nil ?_
       simp only [show tabTo (spcM rs A B i) j ++ [(-1 : Int)] = tabTo (spcM rs A B i) (j + 1) from by rw [← spcM_f (A := A) (B := B) (by assumption), tabTo_succ]]
       refine gk_then (gk_take 9 ?_)
       refine gk_sub ?hs_142 (hKL128 ((j + 1, _, _)) ?hi_142 ?hm_142)
       case hs_142 => repeat first | exact sub_nil | refine sub_cons rfl ?_
       case hi_142 => omega
       case hm_142 => omega
      ·try simp only [sA] at hc4
       refine gc_skip ?_
       refine gk_then (hK135 _ _ ?_)
       try simp only [sL]
       refine gc_cut ([(0, _), (1, _), (2, _), (3, _), (4, _), (5, _), (8, _), (9, _), (12, _), (13, _), (14, _), (15, _), (16, _), (18, _), (19, _), (20, _), (30, _), (57, _), (93, _), (100, _), (117, _)] : Env) (fun s : (Option Addr) × Nat => (fun (a : Option Addr) (q : Nat) => ([(17, .slice a (tabTo (spcM rs A B i) j ++ [findR rs [at0 (row2 rs (i : Int)) 0, at0 (row2 rs (j : Int)) 1, A.th (at0 (row2 rs (i : Int)) 2) (at0 (row2 rs (j : Int)) 2), B.th (at0 (row2 rs (i : Int)) 3) (at0 (row2 rs (j : Int)) 3)]]).length q)] : Env)) s.1 s.2) (fun s : (Option Addr) × Nat => (fun (a : Option Addr) (q : Nat) => ([(8, own1I (.slice a (tabTo (spcM rs A B i) j ++ [findR rs [at0 (row2 rs (i : Int)) 0, at0 (row2 rs (j : Int)) 1, A.th (at0 (row2 rs (i : Int)) 2) (at0 (row2 rs (j : Int)) 2), B.th (at0 (row2 rs (i : Int)) 3) (at0 (row2 rs (j : Int)) 3)]]).length q) (tabTo (spcM rs A B i) j ++ [findR rs [at0 (row2 rs (i : Int)) 0, at0 (row2 rs (j : Int)) 1, A.th (at0 (row2 rs (i : Int)) 2) (at0 (row2 rs (j : Int)) 2), B.th (at0 (row2 rs (i : Int)) 3) (at0 (row2 rs (j : Int)) 3)]]))] : List (Nat × Itm))) s.1 s.2) (fun s : (Option Addr) × Nat => (fun (a : Option Addr) (q : Nat) => ([] : List Itm)) s.1 s.2) (by repeat first | exact sub_nil | refine sub_cons rfl ?_) ?_ (fun HJ143 => ?_)
       ·rintro ⟨a, q⟩
        simp only [sU, sL]
        refine gk_block ?_
        refine gk_then (hK131 _ _ ?_)
        refine gc_region ?_
        refine gm ?_
        refine gv (qt_add rfl rfl rfl (by omega)) ?_
        refine gas ?_
        refine g_nil ?_
        simp only [← spcM_t (rows := rs) (A := A) (B := B) (i := i) (j := j) (by assumption), tabTo_succ]
        refine gk_then (gk_take 9 ?_)
        refine gk_sub ?hs_144 (hKL128 ((j + 1, _, _)) ?hi_144 ?hm_144)
        case hs_144 => repeat first | exact sub_nil | refine sub_cons rfl ?_
        case hi_144 => omega
        case hm_144 => omega
       simp only [sU, sL] at HJ143
       refine ga_start _ (fun w M => mem_erase 8 (M)) ?_
       refine gav 0 rfl (qt_move rfl rfl) ?_
       refine gav 1 rfl (qt_move rfl rfl) ?_
       refine gav 2 rfl (qt_move rfl rfl) ?_
       refine gav 3 rfl (qti (fun w M => lenA_rd hr133)) ?_
       refine gav 4 rfl (qtd (fun w M => mem_rd M hr133)) ?_
       refine gav 5 rfl (qt_move rfl rfl) ?_
       refine gav 6 rfl (qti (fun w M => lenA_rd hr134)) ?_
       refine gav 7 rfl (qtd (fun w M => mem_rd M hr134)) ?_
       refine gav 8 rfl (qts Tryz.underlying29 (n := 0)) ?_
       refine gav 9 rfl (qt_move rfl rfl) ?_
       refine gav 10 rfl (qti (fun w M => lenA_rd hr133)) ?_
       refine gav 11 rfl (qtd (fun w M => mem_rd M hr133)) ?_
       refine gav 12 rfl (qt_move rfl rfl) ?_
       refine gav 13 rfl (qti (fun w M => lenA_rd hr134)) ?_
       refine gav 14 rfl (qtd (fun w M => mem_rd M hr134)) ?_
       refine gav 16 rfl (qts Tryz.underlying29 (n := 1)) ?_
       refine gav 17 rfl (qt_move rfl rfl) ?_
       refine gav 18 rfl (qti (fun w M => lenA_rd hr133)) ?_
       refine gav 19 rfl (qtd (fun w M => mem_rd M hr133)) ?_
       refine gav 20 rfl (qt_move rfl rfl) ?_
       refine gav 21 rfl (qti (fun w M => lenA_rd hr134)) ?_
       refine gav 22 rfl (qtd (fun w M => mem_rd M hr134)) ?_
       refine gao 15 fun K145 hK145 => ?_
       refine go_q rfl rfl (qt_call rfl Tryz.func129 rfl (by decide) rfl (fun w M => specThen_any w _ _ _ _ (mem_rdC M h0) (by first | assumption | omega) (by first | assumption | omega) (by first | assumption | omega) (by first | assumption | omega))) ?_
       refine hK145 _ _ (fun w M => (mem_erase 8 (mem_take 9 M) :)) ?_
       refine gao 23 fun K146 hK146 => ?_
       refine go_q rfl rfl (qt_call rfl Tryz.func129 rfl (by decide) rfl (fun w M => specThen_any w _ _ _ _ (mem_rdC M e0) (by first | assumption | omega) (by first | assumption | omega) (by first | assumption | omega) (by first | assumption | omega))) ?_
       refine hK146 _ _ (fun w M => (mem_erase 8 (mem_take 9 M) :)) ?_
       refine gao 24 fun K148 hK148 => ?_
       refine go_slice4I rfl rfl rfl rfl rfl rfl rfl Tryz.underlying22 ?_
       intro B147
       refine hK148 _ _ (fun w M => (mem_erase 8 (mem_take 9 M) :)) ?_
       refine gao 25 fun K149 hK149 => ?_
       refine go_q rfl rfl (qt_call rfl Tryz.func142 rfl (by decide) rfl (fun w M => specFind_any w _ _ _ _ (mem_rd2 M hp) ((mem_own1 (n := 9) M rfl).rd))) ?_
       refine hK149 _ _ (fun w M => (mem_erase 8 (mem_take 9 M) :)) ?_
       refine gao 26 fun K151 hK151 => ?_
       refine go_slice1 rfl rfl rfl rfl Tryz.underlying22 ?_
       intro B150
       refine hK151 _ _ (fun w M => (mem_erase 8 (mem_take 9 M) :)) ?_
       refine gao 27 fun K153 hK153 => ?_
       refine go_append (n := 8) (m := 10) rfl rfl rfl Tryz.underlying22 rfl rfl rfl rfl (by omega) ?_
       intro va152 vc152
       refine hK153 _ _ (fun w M => (mem_erase 8 (mem_take 9 M) :)) ?_
       refine gav 28 rfl (qt_assign rfl rfl) ?_
       refine ga_done (by kernel_rfl) ?_
       try simp only [sL]
       refine gk_pickL [0, 0, 0, 0, 0, 0, 0, 0, 0] ?_
       refine gk_sub ?hs_154 (HJ143 (_, _))
       case hs_154 => repeat first | exact sub_nil | refine sub_cons rfl ?_
     ·try simp only [sA] at hc3
      refine gc_exit ?_
      refine gk_then_exit ?_
      refine gk_then_exit ?_
      refine gk_block_hit ?_
      refine gk_then (hK126 _ _ ?_)
      refine gc_region ?_
      refine gv (qtf Tryz.underlying29 (z := 0) (off := 4)) ?_
      refine gv (qtl Tryz.underlying23 (n := 7)) ?_
      refine gm ?_
      refine gop fun K156 hK156 => ?_
      refine go_sliceR1 (m := 8) rfl rfl rfl rfl Tryz.underlying23 rfl ?_
      intro B155
      refine hK156 _ _ ?_
      refine gop fun K158 hK158 => ?_
      refine go_appendRow (n := 6) (m := 8) (m' := 7) rfl rfl rfl Tryz.underlying23 rfl rfl rfl rfl rfl (by omega) ?_
      intro va157 vc157
      refine hK158 _ _ ?_
      refine gv (qtf Tryz.underlying29 (z := 0) (off := 4)) ?_
      refine gop fun K159 hK159 => ?_
      refine go_storeB (n := 7) rfl rfl rfl rfl (by kernel_rfl) rfl rfl rfl (by first | decide | simp) ?_
      refine hK159 _ _ ?_
      refine g_nil ?_
      refine gk_block ?_
      refine gk_then (hK122 _ _ ?_)
      refine gc_region ?_
      refine gm ?_
      refine gv (qt_add rfl rfl rfl (by omega)) ?_
      refine gas ?_
      refine g_nil ?_
      obtain rfl : j = rs.length := by omega
      simp only [rowsTo_succ]
      refine gk_then (gk_take 8 ?_)
      refine gk_sub ?hs_160 (hKL119 ((i + 1, _, _, _)) ?hi_160 ?hm_160)
      case hs_160 => repeat first | exact sub_nil | refine sub_cons rfl ?_
      case hi_160 => exact ⟨by omega, fun _ => hft.1 (bP_iff.1 (by assumption))⟩
      case hm_160 => omega
    ·try simp only [sA] at hc2
     refine gc_exit ?_
     refine gk_then_exit ?_
     refine gk_then_exit ?_
     refine gk_block_hit ?_
     refine gk_then (hK117 _ _ ?_)
     refine gc_sr fun K161 hK161 => ?_
     refine gv (qts Tryz.underlying29 (n := 7)) ?_
     refine gop fun K162 hK162 => ?_
     refine go_storeS (n := 2) rfl rfl rfl rfl (by kernel_rfl) rfl rfl rfl ?_
     refine hK162 _ _ ?_
     refine gnt (hK161 _ _ ?_)
     refine gc_ret ?_
     refine ret_S (n := 2) rfl rfl Tryz.underlying29 rfl (by kernel_rfl) rfl (fun w M => ?_)
     rw [← spcC_end (i := i) hi hfi (by first | omega | (intro hh; exact Bool.noConfusion ((bP_t (hft.2 hh.2)).symm.trans (by assumption))))]; exact ⟨_, rfl, ownC_star (c := (⟨(n : Int), colR rs 0, colR rs 1, tabTo (spcE rs A B ls zs) n, rowsTo (fun i => tabTo (spcM rs A B i) rs.length) i⟩ : Cat)) (mem_pick (n := 6) (mem_pick (n := 6) (mem_pick (n := 6) (mem_pick (n := 6) (M) rfl) rfl) rfl) rfl).2, M.1⟩
   ·try simp only [sA] at hs12_4
    refine gsk ?_
    refine gsk ?_
    refine gv (qt_pick_f rfl rfl rfl) ?_
    refine gnt (hK121 _ _ ?_)
    refine gc_cond_f rfl ?_
    refine gc_exit ?_
    refine gk_then_exit ?_
    refine gk_then_exit ?_
    refine gk_block_hit ?_
    refine gk_then (hK117 _ _ ?_)
    refine gc_sr fun K163 hK163 => ?_
    refine gv (qts Tryz.underlying29 (n := 7)) ?_
    refine gop fun K164 hK164 => ?_
    refine go_storeS (n := 2) rfl rfl rfl rfl (by kernel_rfl) rfl rfl rfl ?_
    refine hK164 _ _ ?_
    refine gnt (hK163 _ _ ?_)
    refine gc_ret ?_
    refine ret_S (n := 2) rfl rfl Tryz.underlying29 rfl (by kernel_rfl) rfl (fun w M => ?_)
    rw [← spcC_end (i := i) hi hfi (by first | omega | (intro hh; exact Bool.noConfusion ((bP_t (hft.2 hh.2)).symm.trans (by assumption))))]; exact ⟨_, rfl, ownC_star (c := (⟨(n : Int), colR rs 0, colR rs 1, tabTo (spcE rs A B ls zs) n, rowsTo (fun i => tabTo (spcM rs A B i) rs.length) i⟩ : Cat)) (mem_pick (n := 6) (mem_pick (n := 6) (mem_pick (n := 6) (mem_pick (n := 6) (M) rfl) rfl) rfl) rfl).2, M.1⟩
end Go.Proofs.YtpcabkdkdnchaaaGreat
