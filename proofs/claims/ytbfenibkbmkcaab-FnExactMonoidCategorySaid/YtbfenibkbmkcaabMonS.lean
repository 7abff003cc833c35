
/- The category of a monoid: the model's. -/
import Derived.Test.YtbfenibkbmkcaabShort
import Derived.Test.YtbfenibkbmkcaabShp
import Derived.Test.YtbfenibkbmkcaabSq
set_option linter.unusedSimpArgs false
set_option linter.unusedVariables false
set_option linter.unusedSectionVars false
namespace Go.Proofs.Ytbfenibkbmkcaab
open Go.RowKit


def asc (r : List (List Int)) (i j k : Nat) : Prop := at0 (row2 r (at0 (row2 r (i : Int)) (j : Int))) (k : Int) = at0 (row2 r (i : Int)) (at0 (row2 r (j : Int)) (k : Int))
def UnitRow (r : List (List Int)) (i : Nat) : Prop := at0 (row2 r 0) (i : Int) = i ∧ at0 (row2 r (i : Int)) 0 = i
def AscRow (r : List (List Int)) (i : Nat) : Prop := ∀ j : Nat, j < r.length → ∀ k : Nat, k < r.length → asc r i j k
def MonP (r : List (List Int)) : Prop := (0 < r.length ∧ SquareP r r.length) ∧ (∀ i : Nat, i < r.length → UnitRow r i) ∧ ∀ i : Nat, i < r.length → AscRow r i
def monC (r : List (List Int)) : Cat := ⟨1, List.replicate r.length 0, List.replicate r.length 0, [0], r⟩
theorem rep_at {n i : Nat} (h : i < n) : at0 (List.replicate n 0) (i : Int) = 0 := by
 rw [at0_nat]; simp [List.getD_eq_getElem?_getD, List.getElem?_replicate, h]
theorem mon_shape {r : List (List Int)} (h0 : 0 < r.length) (hq : SquareP r r.length) (h40 : r.length ≤ 40) : ShapeP (monC r) := by
 have he : ∀ x : Nat, x < 1 → at0 (monC r).e (x : Int) = 0 := fun x hx => by
  have h : x = 0 := by omega
  subst h; rfl
 refine shape_by (N := 1) (m := r.length) (S := fun _ => 0) (T := fun _ => 0) (E := fun _ => 0) (M := fun f g => at0 (row2 r (f : Int)) (g : Int)) rfl (by omega) h40 (by simp [monC]) (by simp [monC]) rfl rfl
  (fun f hf => (hq f hf).1) (fun f hf => rep_at hf) (fun f hf => rep_at hf) he (fun f g hf hg => rfl)
  (fun f hf => ⟨Int.le_refl _, by decide⟩) (fun f hf => ⟨Int.le_refl _, by decide⟩) (fun x hx => ⟨Int.le_refl _, by show (0 : Int) < r.length; omega, by show (0 : Int) = x; omega, by show (0 : Int) = x; omega⟩) (fun f g hf hg => ⟨fun _ => ?_, fun e => absurd rfl e⟩)
 have := sq_at hq hf hg
 exact ⟨this.1, this.2, rfl, rfl⟩

set_option maxHeartbeats 1000000 in
set_option maxRecDepth 100000 in
theorem specMonoidC_any (w : World) (u : Value) (r : List (List Int)) (hu : Rd2 w u r) :
  Calls Try.prog 35 #[u] w (RetC w (monC r)) := by
 obtain ⟨ua, uc, rfl⟩ := rd2_form hu
 have hul := rd2_len hu
 go_enter Try.func35, Try.ntmps35
 refine gc_enter (N := 14) rfl (look_cons (k := 0) rfl (look_nil _)) ?_
 refine gc_sr fun K1 hK1 => ?_
 refine gop fun K3 hK3 => ?_
 refine go_alloc (z := (.agg #[.int .i64 0, .slice none 0 0, .slice none 0 0, .slice none 0 0, .slice none 0 0])) (cs := [.int .i64 0, .slice none 0 0, .slice none 0 0, .slice none 0 0, .slice none 0 0]) rfl rfl rfl (fun w => by kernel_rfl) rfl ?_
 intro B2
 refine hK3 _ _ ?_
 refine gnt (hK1 _ _ ?_)
 refine gc_sr fun K4 hK4 => ?_
 refine gm ?_
 refine gv (qt_len rfl rfl ulE2 (fun w M => lenV_rd2 hu)) ?_
 refine gas ?_
 refine gnt (hK4 _ _ ?_)
 refine gc_seq fun K5 hK5 => ?_
 try simp only [sL]
 refine ga_start _ (fun w M => mem_erase 0 (M)) ?_
 refine gav 0 rfl (qt_move rfl rfl) ?_
 refine gav 2 rfl (qt_move rfl rfl) ?_
 refine gav 5 rfl (qt_move rfl rfl) ?_
 refine ga_four 1 3 4 6 (by kernel_rfl) rfl (.free rfl) rfl (.free rfl) rfl (.free rfl) rfl (.free rfl) (fun K6 hK6 => ?_) (fun K6 hK6 => ?_) (fun K6 hK6 => ?_) (fun K6 hK6 => ?_)
 ·refine go_make1 rfl rfl rfl Try.underlying22 rfl rfl (by omega) ?_
  intro B7
  refine hK6 _ _ (fun w M => (mem_erase 0 (mem_take 1 M) :)) ?_
  refine ga_three 3 4 6 (by kernel_rfl) rfl (.free rfl) rfl (.free rfl) rfl (.free rfl) (fun K9 hK9 => ?_) (fun K9 hK9 => ?_) (fun K9 hK9 => ?_)
  ·refine go_make1 rfl rfl rfl Try.underlying22 rfl rfl (by omega) ?_
   intro B10
   refine hK9 _ _ (fun w M => (mem_erase 0 (mem_take 1 M) :)) ?_
   refine ga_two 4 6 (by kernel_rfl) rfl rfl (.free rfl) (.free rfl) (fun K12 hK12 => ?_) (fun K12 hK12 => ?_)
   ·refine go_slice1 rfl rfl rfl rfl Try.underlying22 ?_
    intro B13
    refine hK12 _ _ (fun w M => (mem_erase 0 (mem_take 1 M) :)) ?_
    refine gao 6 fun K16 hK16 => ?_
    refine go_callR rfl rfl rfl Try.func60 rfl (by decide) rfl (fun w M => specOwn2_any w _ _ (mem_rd2 M hu)) ?_
    intro va15 vc15 us15
    refine hK16 _ _ (fun w M => (mem_erase 0 (mem_take 1 M) :)) ?_
    refine gav 7 rfl (qt_build rfl rfl bt_Category) ?_
    refine gao 8 fun K17 hK17 => ?_
    refine go_storeS (n := 0) rfl rfl rfl rfl (by kernel_rfl) rfl rfl rfl ?_
    refine hK17 _ _ (fun w M => (mem_erase 0 (mem_take 1 M) :)) ?_
    refine ga_done (by kernel_rfl) ?_
    refine gk_then (hK5 _ _ ?_)
    refine gc_ret ?_
    refine ret_S (n := 0) rfl rfl Try.underlying25 rfl (by kernel_rfl) rfl (fun w M => ?_)
    exact ⟨_, rfl, ownC_star (c := monC r) (mem_pick (n := 4) (mem_pick (n := 4) (mem_pick (n := 4) (mem_pick (n := 4) (M) rfl) rfl) rfl) rfl).2, M.1⟩
   ·refine go_callR rfl rfl rfl Try.func60 rfl (by decide) rfl (fun w M => specOwn2_any w _ _ (mem_rd2 M hu)) ?_
    intro va18 vc18 us18
    refine hK12 _ _ (fun w M => (mem_erase 0 (mem_take 1 M) :)) ?_
    refine gao 4 fun K21 hK21 => ?_
    refine go_slice1 rfl rfl rfl rfl Try.underlying22 ?_
    intro B20
    refine hK21 _ _ (fun w M => (mem_erase 0 (mem_take 1 M) :)) ?_
    refine gav 7 rfl (qt_build rfl rfl bt_Category) ?_
    refine gao 8 fun K22 hK22 => ?_
    refine go_storeS (n := 0) rfl rfl rfl rfl (by kernel_rfl) rfl rfl rfl ?_
    refine hK22 _ _ (fun w M => (mem_erase 0 (mem_take 1 M) :)) ?_
    refine ga_done (by kernel_rfl) ?_
    refine gk_then (hK5 _ _ ?_)
    refine gc_ret ?_
    refine ret_S (n := 0) rfl rfl Try.underlying25 rfl (by kernel_rfl) rfl (fun w M => ?_)
    exact ⟨_, rfl, ownC_star (c := monC r) (mem_pick (n := 4) (mem_pick (n := 4) (mem_pick (n := 4) (mem_pick (n := 3) (M) rfl) rfl) rfl) rfl).2, M.1⟩
  ·refine go_slice1 rfl rfl rfl rfl Try.underlying22 ?_
   intro B23
   refine hK9 _ _ (fun w M => (mem_erase 0 (mem_take 1 M) :)) ?_
   refine ga_two 3 6 (by kernel_rfl) rfl rfl (.free rfl) (.free rfl) (fun K25 hK25 => ?_) (fun K25 hK25 => ?_)
   ·refine go_make1 rfl rfl rfl Try.underlying22 rfl rfl (by omega) ?_
    intro B26
    refine hK25 _ _ (fun w M => (mem_erase 0 (mem_take 1 M) :)) ?_
    refine gao 6 fun K29 hK29 => ?_
    refine go_callR rfl rfl rfl Try.func60 rfl (by decide) rfl (fun w M => specOwn2_any w _ _ (mem_rd2 M hu)) ?_
    intro va28 vc28 us28
    refine hK29 _ _ (fun w M => (mem_erase 0 (mem_take 1 M) :)) ?_
    refine gav 7 rfl (qt_build rfl rfl bt_Category) ?_
    refine gao 8 fun K30 hK30 => ?_
    refine go_storeS (n := 0) rfl rfl rfl rfl (by kernel_rfl) rfl rfl rfl ?_
    refine hK30 _ _ (fun w M => (mem_erase 0 (mem_take 1 M) :)) ?_
    refine ga_done (by kernel_rfl) ?_
    refine gk_then (hK5 _ _ ?_)
    refine gc_ret ?_
    refine ret_S (n := 0) rfl rfl Try.underlying25 rfl (by kernel_rfl) rfl (fun w M => ?_)
    exact ⟨_, rfl, ownC_star (c := monC r) (mem_pick (n := 4) (mem_pick (n := 4) (mem_pick (n := 3) (mem_pick (n := 4) (M) rfl) rfl) rfl) rfl).2, M.1⟩
   ·refine go_callR rfl rfl rfl Try.func60 rfl (by decide) rfl (fun w M => specOwn2_any w _ _ (mem_rd2 M hu)) ?_
    intro va31 vc31 us31
    refine hK25 _ _ (fun w M => (mem_erase 0 (mem_take 1 M) :)) ?_
    refine gao 3 fun K34 hK34 => ?_
    refine go_make1 rfl rfl rfl Try.underlying22 rfl rfl (by omega) ?_
    intro B33
    refine hK34 _ _ (fun w M => (mem_erase 0 (mem_take 1 M) :)) ?_
    refine gav 7 rfl (qt_build rfl rfl bt_Category) ?_
    refine gao 8 fun K35 hK35 => ?_
    refine go_storeS (n := 0) rfl rfl rfl rfl (by kernel_rfl) rfl rfl rfl ?_
    refine hK35 _ _ (fun w M => (mem_erase 0 (mem_take 1 M) :)) ?_
    refine ga_done (by kernel_rfl) ?_
    refine gk_then (hK5 _ _ ?_)
    refine gc_ret ?_
    refine ret_S (n := 0) rfl rfl Try.underlying25 rfl (by kernel_rfl) rfl (fun w M => ?_)
    exact ⟨_, rfl, ownC_star (c := monC r) (mem_pick (n := 4) (mem_pick (n := 4) (mem_pick (n := 3) (mem_pick (n := 3) (M) rfl) rfl) rfl) rfl).2, M.1⟩
  ·refine go_callR rfl rfl rfl Try.func60 rfl (by decide) rfl (fun w M => specOwn2_any w _ _ (mem_rd2 M hu)) ?_
   intro va36 vc36 us36
   refine hK9 _ _ (fun w M => (mem_erase 0 (mem_take 1 M) :)) ?_
   refine ga_two 3 4 (by kernel_rfl) rfl rfl (.free rfl) (.free rfl) (fun K38 hK38 => ?_) (fun K38 hK38 => ?_)
   ·refine go_make1 rfl rfl rfl Try.underlying22 rfl rfl (by omega) ?_
    intro B39
    refine hK38 _ _ (fun w M => (mem_erase 0 (mem_take 1 M) :)) ?_
    refine gao 4 fun K42 hK42 => ?_
    refine go_slice1 rfl rfl rfl rfl Try.underlying22 ?_
    intro B41
    refine hK42 _ _ (fun w M => (mem_erase 0 (mem_take 1 M) :)) ?_
    refine gav 7 rfl (qt_build rfl rfl bt_Category) ?_
    refine gao 8 fun K43 hK43 => ?_
    refine go_storeS (n := 0) rfl rfl rfl rfl (by kernel_rfl) rfl rfl rfl ?_
    refine hK43 _ _ (fun w M => (mem_erase 0 (mem_take 1 M) :)) ?_
    refine ga_done (by kernel_rfl) ?_
    refine gk_then (hK5 _ _ ?_)
    refine gc_ret ?_
    refine ret_S (n := 0) rfl rfl Try.underlying25 rfl (by kernel_rfl) rfl (fun w M => ?_)
    exact ⟨_, rfl, ownC_star (c := monC r) (mem_pick (n := 4) (mem_pick (n := 4) (mem_pick (n := 4) (mem_pick (n := 2) (M) rfl) rfl) rfl) rfl).2, M.1⟩
   ·refine go_slice1 rfl rfl rfl rfl Try.underlying22 ?_
    intro B44
    refine hK38 _ _ (fun w M => (mem_erase 0 (mem_take 1 M) :)) ?_
    refine gao 3 fun K47 hK47 => ?_
    refine go_make1 rfl rfl rfl Try.underlying22 rfl rfl (by omega) ?_
    intro B46
    refine hK47 _ _ (fun w M => (mem_erase 0 (mem_take 1 M) :)) ?_
    refine gav 7 rfl (qt_build rfl rfl bt_Category) ?_
    refine gao 8 fun K48 hK48 => ?_
    refine go_storeS (n := 0) rfl rfl rfl rfl (by kernel_rfl) rfl rfl rfl ?_
    refine hK48 _ _ (fun w M => (mem_erase 0 (mem_take 1 M) :)) ?_
    refine ga_done (by kernel_rfl) ?_
    refine gk_then (hK5 _ _ ?_)
    refine gc_ret ?_
    refine ret_S (n := 0) rfl rfl Try.underlying25 rfl (by kernel_rfl) rfl (fun w M => ?_)
    exact ⟨_, rfl, ownC_star (c := monC r) (mem_pick (n := 4) (mem_pick (n := 4) (mem_pick (n := 3) (mem_pick (n := 2) (M) rfl) rfl) rfl) rfl).2, M.1⟩
 ·refine go_make1 rfl rfl rfl Try.underlying22 rfl rfl (by omega) ?_
  intro B49
  refine hK6 _ _ (fun w M => (mem_erase 0 (mem_take 1 M) :)) ?_
  refine ga_three 1 4 6 (by kernel_rfl) rfl (.free rfl) rfl (.free rfl) rfl (.free rfl) (fun K51 hK51 => ?_) (fun K51 hK51 => ?_) (fun K51 hK51 => ?_)
  ·refine go_make1 rfl rfl rfl Try.underlying22 rfl rfl (by omega) ?_
   intro B52
   refine hK51 _ _ (fun w M => (mem_erase 0 (mem_take 1 M) :)) ?_
   refine ga_two 4 6 (by kernel_rfl) rfl rfl (.free rfl) (.free rfl) (fun K54 hK54 => ?_) (fun K54 hK54 => ?_)
   ·refine go_slice1 rfl rfl rfl rfl Try.underlying22 ?_
    intro B55
    refine hK54 _ _ (fun w M => (mem_erase 0 (mem_take 1 M) :)) ?_
    refine gao 6 fun K58 hK58 => ?_
    refine go_callR rfl rfl rfl Try.func60 rfl (by decide) rfl (fun w M => specOwn2_any w _ _ (mem_rd2 M hu)) ?_
    intro va57 vc57 us57
    refine hK58 _ _ (fun w M => (mem_erase 0 (mem_take 1 M) :)) ?_
    refine gav 7 rfl (qt_build rfl rfl bt_Category) ?_
    refine gao 8 fun K59 hK59 => ?_
    refine go_storeS (n := 0) rfl rfl rfl rfl (by kernel_rfl) rfl rfl rfl ?_
    refine hK59 _ _ (fun w M => (mem_erase 0 (mem_take 1 M) :)) ?_
    refine ga_done (by kernel_rfl) ?_
    refine gk_then (hK5 _ _ ?_)
    refine gc_ret ?_
    refine ret_S (n := 0) rfl rfl Try.underlying25 rfl (by kernel_rfl) rfl (fun w M => ?_)
    exact ⟨_, rfl, ownC_star (c := monC r) (mem_pick (n := 4) (mem_pick (n := 3) (mem_pick (n := 4) (mem_pick (n := 4) (M) rfl) rfl) rfl) rfl).2, M.1⟩
   ·refine go_callR rfl rfl rfl Try.func60 rfl (by decide) rfl (fun w M => specOwn2_any w _ _ (mem_rd2 M hu)) ?_
    intro va60 vc60 us60
    refine hK54 _ _ (fun w M => (mem_erase 0 (mem_take 1 M) :)) ?_
    refine gao 4 fun K63 hK63 => ?_
    refine go_slice1 rfl rfl rfl rfl Try.underlying22 ?_
    intro B62
    refine hK63 _ _ (fun w M => (mem_erase 0 (mem_take 1 M) :)) ?_
    refine gav 7 rfl (qt_build rfl rfl bt_Category) ?_
    refine gao 8 fun K64 hK64 => ?_
    refine go_storeS (n := 0) rfl rfl rfl rfl (by kernel_rfl) rfl rfl rfl ?_
    refine hK64 _ _ (fun w M => (mem_erase 0 (mem_take 1 M) :)) ?_
    refine ga_done (by kernel_rfl) ?_
    refine gk_then (hK5 _ _ ?_)
    refine gc_ret ?_
    refine ret_S (n := 0) rfl rfl Try.underlying25 rfl (by kernel_rfl) rfl (fun w M => ?_)
    exact ⟨_, rfl, ownC_star (c := monC r) (mem_pick (n := 4) (mem_pick (n := 3) (mem_pick (n := 4) (mem_pick (n := 3) (M) rfl) rfl) rfl) rfl).2, M.1⟩
  ·refine go_slice1 rfl rfl rfl rfl Try.underlying22 ?_
   intro B65
   refine hK51 _ _ (fun w M => (mem_erase 0 (mem_take 1 M) :)) ?_
   refine ga_two 1 6 (by kernel_rfl) rfl rfl (.free rfl) (.free rfl) (fun K67 hK67 => ?_) (fun K67 hK67 => ?_)
   ·refine go_make1 rfl rfl rfl Try.underlying22 rfl rfl (by omega) ?_
    intro B68
    refine hK67 _ _ (fun w M => (mem_erase 0 (mem_take 1 M) :)) ?_
    refine gao 6 fun K71 hK71 => ?_
    refine go_callR rfl rfl rfl Try.func60 rfl (by decide) rfl (fun w M => specOwn2_any w _ _ (mem_rd2 M hu)) ?_
    intro va70 vc70 us70
    refine hK71 _ _ (fun w M => (mem_erase 0 (mem_take 1 M) :)) ?_
    refine gav 7 rfl (qt_build rfl rfl bt_Category) ?_
    refine gao 8 fun K72 hK72 => ?_
    refine go_storeS (n := 0) rfl rfl rfl rfl (by kernel_rfl) rfl rfl rfl ?_
    refine hK72 _ _ (fun w M => (mem_erase 0 (mem_take 1 M) :)) ?_
    refine ga_done (by kernel_rfl) ?_
    refine gk_then (hK5 _ _ ?_)
    refine gc_ret ?_
    refine ret_S (n := 0) rfl rfl Try.underlying25 rfl (by kernel_rfl) rfl (fun w M => ?_)
    exact ⟨_, rfl, ownC_star (c := monC r) (mem_pick (n := 4) (mem_pick (n := 3) (mem_pick (n := 3) (mem_pick (n := 4) (M) rfl) rfl) rfl) rfl).2, M.1⟩
   ·refine go_callR rfl rfl rfl Try.func60 rfl (by decide) rfl (fun w M => specOwn2_any w _ _ (mem_rd2 M hu)) ?_
    intro va73 vc73 us73
    refine hK67 _ _ (fun w M => (mem_erase 0 (mem_take 1 M) :)) ?_
    refine gao 1 fun K76 hK76 => ?_
    refine go_make1 rfl rfl rfl Try.underlying22 rfl rfl (by omega) ?_
    intro B75
    refine hK76 _ _ (fun w M => (mem_erase 0 (mem_take 1 M) :)) ?_
    refine gav 7 rfl (qt_build rfl rfl bt_Category) ?_
    refine gao 8 fun K77 hK77 => ?_
    refine go_storeS (n := 0) rfl rfl rfl rfl (by kernel_rfl) rfl rfl rfl ?_
    refine hK77 _ _ (fun w M => (mem_erase 0 (mem_take 1 M) :)) ?_
    refine ga_done (by kernel_rfl) ?_
    refine gk_then (hK5 _ _ ?_)
    refine gc_ret ?_
    refine ret_S (n := 0) rfl rfl Try.underlying25 rfl (by kernel_rfl) rfl (fun w M => ?_)
    exact ⟨_, rfl, ownC_star (c := monC r) (mem_pick (n := 4) (mem_pick (n := 3) (mem_pick (n := 3) (mem_pick (n := 3) (M) rfl) rfl) rfl) rfl).2, M.1⟩
  ·refine go_callR rfl rfl rfl Try.func60 rfl (by decide) rfl (fun w M => specOwn2_any w _ _ (mem_rd2 M hu)) ?_
   intro va78 vc78 us78
   refine hK51 _ _ (fun w M => (mem_erase 0 (mem_take 1 M) :)) ?_
   refine ga_two 1 4 (by kernel_rfl) rfl rfl (.free rfl) (.free rfl) (fun K80 hK80 => ?_) (fun K80 hK80 => ?_)
   ·refine go_make1 rfl rfl rfl Try.underlying22 rfl rfl (by omega) ?_
    intro B81
    refine hK80 _ _ (fun w M => (mem_erase 0 (mem_take 1 M) :)) ?_
    refine gao 4 fun K84 hK84 => ?_
    refine go_slice1 rfl rfl rfl rfl Try.underlying22 ?_
    intro B83
    refine hK84 _ _ (fun w M => (mem_erase 0 (mem_take 1 M) :)) ?_
    refine gav 7 rfl (qt_build rfl rfl bt_Category) ?_
    refine gao 8 fun K85 hK85 => ?_
    refine go_storeS (n := 0) rfl rfl rfl rfl (by kernel_rfl) rfl rfl rfl ?_
    refine hK85 _ _ (fun w M => (mem_erase 0 (mem_take 1 M) :)) ?_
    refine ga_done (by kernel_rfl) ?_
    refine gk_then (hK5 _ _ ?_)
    refine gc_ret ?_
    refine ret_S (n := 0) rfl rfl Try.underlying25 rfl (by kernel_rfl) rfl (fun w M => ?_)
    exact ⟨_, rfl, ownC_star (c := monC r) (mem_pick (n := 4) (mem_pick (n := 3) (mem_pick (n := 4) (mem_pick (n := 2) (M) rfl) rfl) rfl) rfl).2, M.1⟩
   ·refine go_slice1 rfl rfl rfl rfl Try.underlying22 ?_
    intro B86
    refine hK80 _ _ (fun w M => (mem_erase 0 (mem_take 1 M) :)) ?_
    refine gao 1 fun K89 hK89 => ?_
    refine go_make1 rfl rfl rfl Try.underlying22 rfl rfl (by omega) ?_
    intro B88
    refine hK89 _ _ (fun w M => (mem_erase 0 (mem_take 1 M) :)) ?_
    refine gav 7 rfl (qt_build rfl rfl bt_Category) ?_
    refine gao 8 fun K90 hK90 => ?_
    refine go_storeS (n := 0) rfl rfl rfl rfl (by kernel_rfl) rfl rfl rfl ?_
    refine hK90 _ _ (fun w M => (mem_erase 0 (mem_take 1 M) :)) ?_
    refine ga_done (by kernel_rfl) ?_
    refine gk_then (hK5 _ _ ?_)
    refine gc_ret ?_
    refine ret_S (n := 0) rfl rfl Try.underlying25 rfl (by kernel_rfl) rfl (fun w M => ?_)
    exact ⟨_, rfl, ownC_star (c := monC r) (mem_pick (n := 4) (mem_pick (n := 3) (mem_pick (n := 3) (mem_pick (n := 2) (M) rfl) rfl) rfl) rfl).2, M.1⟩
 ·refine go_slice1 rfl rfl rfl rfl Try.underlying22 ?_
  intro B91
  refine hK6 _ _ (fun w M => (mem_erase 0 (mem_take 1 M) :)) ?_
  refine ga_three 1 3 6 (by kernel_rfl) rfl (.free rfl) rfl (.free rfl) rfl (.free rfl) (fun K93 hK93 => ?_) (fun K93 hK93 => ?_) (fun K93 hK93 => ?_)
  ·refine go_make1 rfl rfl rfl Try.underlying22 rfl rfl (by omega) ?_
   intro B94
   refine hK93 _ _ (fun w M => (mem_erase 0 (mem_take 1 M) :)) ?_
   refine ga_two 3 6 (by kernel_rfl) rfl rfl (.free rfl) (.free rfl) (fun K96 hK96 => ?_) (fun K96 hK96 => ?_)
   ·refine go_make1 rfl rfl rfl Try.underlying22 rfl rfl (by omega) ?_
    intro B97
    refine hK96 _ _ (fun w M => (mem_erase 0 (mem_take 1 M) :)) ?_
    refine gao 6 fun K100 hK100 => ?_
    refine go_callR rfl rfl rfl Try.func60 rfl (by decide) rfl (fun w M => specOwn2_any w _ _ (mem_rd2 M hu)) ?_
    intro va99 vc99 us99
    refine hK100 _ _ (fun w M => (mem_erase 0 (mem_take 1 M) :)) ?_
    refine gav 7 rfl (qt_build rfl rfl bt_Category) ?_
    refine gao 8 fun K101 hK101 => ?_
    refine go_storeS (n := 0) rfl rfl rfl rfl (by kernel_rfl) rfl rfl rfl ?_
    refine hK101 _ _ (fun w M => (mem_erase 0 (mem_take 1 M) :)) ?_
    refine ga_done (by kernel_rfl) ?_
    refine gk_then (hK5 _ _ ?_)
    refine gc_ret ?_
    refine ret_S (n := 0) rfl rfl Try.underlying25 rfl (by kernel_rfl) rfl (fun w M => ?_)
    exact ⟨_, rfl, ownC_star (c := monC r) (mem_pick (n := 4) (mem_pick (n := 4) (mem_pick (n := 2) (mem_pick (n := 4) (M) rfl) rfl) rfl) rfl).2, M.1⟩
   ·refine go_callR rfl rfl rfl Try.func60 rfl (by decide) rfl (fun w M => specOwn2_any w _ _ (mem_rd2 M hu)) ?_
    intro va102 vc102 us102
    refine hK96 _ _ (fun w M => (mem_erase 0 (mem_take 1 M) :)) ?_
    refine gao 3 fun K105 hK105 => ?_
    refine go_make1 rfl rfl rfl Try.underlying22 rfl rfl (by omega) ?_
    intro B104
    refine hK105 _ _ (fun w M => (mem_erase 0 (mem_take 1 M) :)) ?_
    refine gav 7 rfl (qt_build rfl rfl bt_Category) ?_
    refine gao 8 fun K106 hK106 => ?_
    refine go_storeS (n := 0) rfl rfl rfl rfl (by kernel_rfl) rfl rfl rfl ?_
    refine hK106 _ _ (fun w M => (mem_erase 0 (mem_take 1 M) :)) ?_
    refine ga_done (by kernel_rfl) ?_
    refine gk_then (hK5 _ _ ?_)
    refine gc_ret ?_
    refine ret_S (n := 0) rfl rfl Try.underlying25 rfl (by kernel_rfl) rfl (fun w M => ?_)
    exact ⟨_, rfl, ownC_star (c := monC r) (mem_pick (n := 4) (mem_pick (n := 4) (mem_pick (n := 2) (mem_pick (n := 3) (M) rfl) rfl) rfl) rfl).2, M.1⟩
  ·refine go_make1 rfl rfl rfl Try.underlying22 rfl rfl (by omega) ?_
   intro B107
   refine hK93 _ _ (fun w M => (mem_erase 0 (mem_take 1 M) :)) ?_
   refine ga_two 1 6 (by kernel_rfl) rfl rfl (.free rfl) (.free rfl) (fun K109 hK109 => ?_) (fun K109 hK109 => ?_)
   ·refine go_make1 rfl rfl rfl Try.underlying22 rfl rfl (by omega) ?_
    intro B110
    refine hK109 _ _ (fun w M => (mem_erase 0 (mem_take 1 M) :)) ?_
    refine gao 6 fun K113 hK113 => ?_
    refine go_callR rfl rfl rfl Try.func60 rfl (by decide) rfl (fun w M => specOwn2_any w _ _ (mem_rd2 M hu)) ?_
    intro va112 vc112 us112
    refine hK113 _ _ (fun w M => (mem_erase 0 (mem_take 1 M) :)) ?_
    refine gav 7 rfl (qt_build rfl rfl bt_Category) ?_
    refine gao 8 fun K114 hK114 => ?_
    refine go_storeS (n := 0) rfl rfl rfl rfl (by kernel_rfl) rfl rfl rfl ?_
    refine hK114 _ _ (fun w M => (mem_erase 0 (mem_take 1 M) :)) ?_
    refine ga_done (by kernel_rfl) ?_
    refine gk_then (hK5 _ _ ?_)
    refine gc_ret ?_
    refine ret_S (n := 0) rfl rfl Try.underlying25 rfl (by kernel_rfl) rfl (fun w M => ?_)
    exact ⟨_, rfl, ownC_star (c := monC r) (mem_pick (n := 4) (mem_pick (n := 3) (mem_pick (n := 2) (mem_pick (n := 4) (M) rfl) rfl) rfl) rfl).2, M.1⟩
   ·refine go_callR rfl rfl rfl Try.func60 rfl (by decide) rfl (fun w M => specOwn2_any w _ _ (mem_rd2 M hu)) ?_
    intro va115 vc115 us115
    refine hK109 _ _ (fun w M => (mem_erase 0 (mem_take 1 M) :)) ?_
    refine gao 1 fun K118 hK118 => ?_
    refine go_make1 rfl rfl rfl Try.underlying22 rfl rfl (by omega) ?_
    intro B117
    refine hK118 _ _ (fun w M => (mem_erase 0 (mem_take 1 M) :)) ?_
    refine gav 7 rfl (qt_build rfl rfl bt_Category) ?_
    refine gao 8 fun K119 hK119 => ?_
    refine go_storeS (n := 0) rfl rfl rfl rfl (by kernel_rfl) rfl rfl rfl ?_
    refine hK119 _ _ (fun w M => (mem_erase 0 (mem_take 1 M) :)) ?_
    refine ga_done (by kernel_rfl) ?_
    refine gk_then (hK5 _ _ ?_)
    refine gc_ret ?_
    refine ret_S (n := 0) rfl rfl Try.underlying25 rfl (by kernel_rfl) rfl (fun w M => ?_)
    exact ⟨_, rfl, ownC_star (c := monC r) (mem_pick (n := 4) (mem_pick (n := 3) (mem_pick (n := 2) (mem_pick (n := 3) (M) rfl) rfl) rfl) rfl).2, M.1⟩
  ·refine go_callR rfl rfl rfl Try.func60 rfl (by decide) rfl (fun w M => specOwn2_any w _ _ (mem_rd2 M hu)) ?_
   intro va120 vc120 us120
   refine hK93 _ _ (fun w M => (mem_erase 0 (mem_take 1 M) :)) ?_
   refine ga_two 1 3 (by kernel_rfl) rfl rfl (.free rfl) (.free rfl) (fun K122 hK122 => ?_) (fun K122 hK122 => ?_)
   ·refine go_make1 rfl rfl rfl Try.underlying22 rfl rfl (by omega) ?_
    intro B123
    refine hK122 _ _ (fun w M => (mem_erase 0 (mem_take 1 M) :)) ?_
    refine gao 3 fun K126 hK126 => ?_
    refine go_make1 rfl rfl rfl Try.underlying22 rfl rfl (by omega) ?_
    intro B125
    refine hK126 _ _ (fun w M => (mem_erase 0 (mem_take 1 M) :)) ?_
    refine gav 7 rfl (qt_build rfl rfl bt_Category) ?_
    refine gao 8 fun K127 hK127 => ?_
    refine go_storeS (n := 0) rfl rfl rfl rfl (by kernel_rfl) rfl rfl rfl ?_
    refine hK127 _ _ (fun w M => (mem_erase 0 (mem_take 1 M) :)) ?_
    refine ga_done (by kernel_rfl) ?_
    refine gk_then (hK5 _ _ ?_)
    refine gc_ret ?_
    refine ret_S (n := 0) rfl rfl Try.underlying25 rfl (by kernel_rfl) rfl (fun w M => ?_)
    exact ⟨_, rfl, ownC_star (c := monC r) (mem_pick (n := 4) (mem_pick (n := 4) (mem_pick (n := 2) (mem_pick (n := 2) (M) rfl) rfl) rfl) rfl).2, M.1⟩
   ·refine go_make1 rfl rfl rfl Try.underlying22 rfl rfl (by omega) ?_
    intro B128
    refine hK122 _ _ (fun w M => (mem_erase 0 (mem_take 1 M) :)) ?_
    refine gao 1 fun K131 hK131 => ?_
    refine go_make1 rfl rfl rfl Try.underlying22 rfl rfl (by omega) ?_
    intro B130
    refine hK131 _ _ (fun w M => (mem_erase 0 (mem_take 1 M) :)) ?_
    refine gav 7 rfl (qt_build rfl rfl bt_Category) ?_
    refine gao 8 fun K132 hK132 => ?_
    refine go_storeS (n := 0) rfl rfl rfl rfl (by kernel_rfl) rfl rfl rfl ?_
    refine hK132 _ _ (fun w M => (mem_erase 0 (mem_take 1 M) :)) ?_
    refine ga_done (by kernel_rfl) ?_
    refine gk_then (hK5 _ _ ?_)
    refine gc_ret ?_
    refine ret_S (n := 0) rfl rfl Try.underlying25 rfl (by kernel_rfl) rfl (fun w M => ?_)
    exact ⟨_, rfl, ownC_star (c := monC r) (mem_pick (n := 4) (mem_pick (n := 3) (mem_pick (n := 2) (mem_pick (n := 2) (M) rfl) rfl) rfl) rfl).2, M.1⟩
 ·refine go_callR rfl rfl rfl Try.func60 rfl (by decide) rfl (fun w M => specOwn2_any w _ _ (mem_rd2 M hu)) ?_
  intro va133 vc133 us133
  refine hK6 _ _ (fun w M => (mem_erase 0 (mem_take 1 M) :)) ?_
  refine ga_three 1 3 4 (by kernel_rfl) rfl (.free rfl) rfl (.free rfl) rfl (.free rfl) (fun K135 hK135 => ?_) (fun K135 hK135 => ?_) (fun K135 hK135 => ?_)
  ·refine go_make1 rfl rfl rfl Try.underlying22 rfl rfl (by omega) ?_
   intro B136
   refine hK135 _ _ (fun w M => (mem_erase 0 (mem_take 1 M) :)) ?_
   refine ga_two 3 4 (by kernel_rfl) rfl rfl (.free rfl) (.free rfl) (fun K138 hK138 => ?_) (fun K138 hK138 => ?_)
   ·refine go_make1 rfl rfl rfl Try.underlying22 rfl rfl (by omega) ?_
    intro B139
    refine hK138 _ _ (fun w M => (mem_erase 0 (mem_take 1 M) :)) ?_
    refine gao 4 fun K142 hK142 => ?_
    refine go_slice1 rfl rfl rfl rfl Try.underlying22 ?_
    intro B141
    refine hK142 _ _ (fun w M => (mem_erase 0 (mem_take 1 M) :)) ?_
    refine gav 7 rfl (qt_build rfl rfl bt_Category) ?_
    refine gao 8 fun K143 hK143 => ?_
    refine go_storeS (n := 0) rfl rfl rfl rfl (by kernel_rfl) rfl rfl rfl ?_
    refine hK143 _ _ (fun w M => (mem_erase 0 (mem_take 1 M) :)) ?_
    refine ga_done (by kernel_rfl) ?_
    refine gk_then (hK5 _ _ ?_)
    refine gc_ret ?_
    refine ret_S (n := 0) rfl rfl Try.underlying25 rfl (by kernel_rfl) rfl (fun w M => ?_)
    exact ⟨_, rfl, ownC_star (c := monC r) (mem_pick (n := 4) (mem_pick (n := 4) (mem_pick (n := 4) (mem_pick (n := 1) (M) rfl) rfl) rfl) rfl).2, M.1⟩
   ·refine go_slice1 rfl rfl rfl rfl Try.underlying22 ?_
    intro B144
    refine hK138 _ _ (fun w M => (mem_erase 0 (mem_take 1 M) :)) ?_
    refine gao 3 fun K147 hK147 => ?_
    refine go_make1 rfl rfl rfl Try.underlying22 rfl rfl (by omega) ?_
    intro B146
    refine hK147 _ _ (fun w M => (mem_erase 0 (mem_take 1 M) :)) ?_
    refine gav 7 rfl (qt_build rfl rfl bt_Category) ?_
    refine gao 8 fun K148 hK148 => ?_
    refine go_storeS (n := 0) rfl rfl rfl rfl (by kernel_rfl) rfl rfl rfl ?_
    refine hK148 _ _ (fun w M => (mem_erase 0 (mem_take 1 M) :)) ?_
    refine ga_done (by kernel_rfl) ?_
    refine gk_then (hK5 _ _ ?_)
    refine gc_ret ?_
    refine ret_S (n := 0) rfl rfl Try.underlying25 rfl (by kernel_rfl) rfl (fun w M => ?_)
    exact ⟨_, rfl, ownC_star (c := monC r) (mem_pick (n := 4) (mem_pick (n := 4) (mem_pick (n := 3) (mem_pick (n := 1) (M) rfl) rfl) rfl) rfl).2, M.1⟩
  ·refine go_make1 rfl rfl rfl Try.underlying22 rfl rfl (by omega) ?_
   intro B149
   refine hK135 _ _ (fun w M => (mem_erase 0 (mem_take 1 M) :)) ?_
   refine ga_two 1 4 (by kernel_rfl) rfl rfl (.free rfl) (.free rfl) (fun K151 hK151 => ?_) (fun K151 hK151 => ?_)
   ·refine go_make1 rfl rfl rfl Try.underlying22 rfl rfl (by omega) ?_
    intro B152
    refine hK151 _ _ (fun w M => (mem_erase 0 (mem_take 1 M) :)) ?_
    refine gao 4 fun K155 hK155 => ?_
    refine go_slice1 rfl rfl rfl rfl Try.underlying22 ?_
    intro B154
    refine hK155 _ _ (fun w M => (mem_erase 0 (mem_take 1 M) :)) ?_
    refine gav 7 rfl (qt_build rfl rfl bt_Category) ?_
    refine gao 8 fun K156 hK156 => ?_
    refine go_storeS (n := 0) rfl rfl rfl rfl (by kernel_rfl) rfl rfl rfl ?_
    refine hK156 _ _ (fun w M => (mem_erase 0 (mem_take 1 M) :)) ?_
    refine ga_done (by kernel_rfl) ?_
    refine gk_then (hK5 _ _ ?_)
    refine gc_ret ?_
    refine ret_S (n := 0) rfl rfl Try.underlying25 rfl (by kernel_rfl) rfl (fun w M => ?_)
    exact ⟨_, rfl, ownC_star (c := monC r) (mem_pick (n := 4) (mem_pick (n := 3) (mem_pick (n := 4) (mem_pick (n := 1) (M) rfl) rfl) rfl) rfl).2, M.1⟩
   ·refine go_slice1 rfl rfl rfl rfl Try.underlying22 ?_
    intro B157
    refine hK151 _ _ (fun w M => (mem_erase 0 (mem_take 1 M) :)) ?_
    refine gao 1 fun K160 hK160 => ?_
    refine go_make1 rfl rfl rfl Try.underlying22 rfl rfl (by omega) ?_
    intro B159
    refine hK160 _ _ (fun w M => (mem_erase 0 (mem_take 1 M) :)) ?_
    refine gav 7 rfl (qt_build rfl rfl bt_Category) ?_
    refine gao 8 fun K161 hK161 => ?_
    refine go_storeS (n := 0) rfl rfl rfl rfl (by kernel_rfl) rfl rfl rfl ?_
    refine hK161 _ _ (fun w M => (mem_erase 0 (mem_take 1 M) :)) ?_
    refine ga_done (by kernel_rfl) ?_
    refine gk_then (hK5 _ _ ?_)
    refine gc_ret ?_
    refine ret_S (n := 0) rfl rfl Try.underlying25 rfl (by kernel_rfl) rfl (fun w M => ?_)
    exact ⟨_, rfl, ownC_star (c := monC r) (mem_pick (n := 4) (mem_pick (n := 3) (mem_pick (n := 3) (mem_pick (n := 1) (M) rfl) rfl) rfl) rfl).2, M.1⟩
  ·refine go_slice1 rfl rfl rfl rfl Try.underlying22 ?_
   intro B162
   refine hK135 _ _ (fun w M => (mem_erase 0 (mem_take 1 M) :)) ?_
   refine ga_two 1 3 (by kernel_rfl) rfl rfl (.free rfl) (.free rfl) (fun K164 hK164 => ?_) (fun K164 hK164 => ?_)
   ·refine go_make1 rfl rfl rfl Try.underlying22 rfl rfl (by omega) ?_
    intro B165
    refine hK164 _ _ (fun w M => (mem_erase 0 (mem_take 1 M) :)) ?_
    refine gao 3 fun K168 hK168 => ?_
    refine go_make1 rfl rfl rfl Try.underlying22 rfl rfl (by omega) ?_
    intro B167
    refine hK168 _ _ (fun w M => (mem_erase 0 (mem_take 1 M) :)) ?_
    refine gav 7 rfl (qt_build rfl rfl bt_Category) ?_
    refine gao 8 fun K169 hK169 => ?_
    refine go_storeS (n := 0) rfl rfl rfl rfl (by kernel_rfl) rfl rfl rfl ?_
    refine hK169 _ _ (fun w M => (mem_erase 0 (mem_take 1 M) :)) ?_
    refine ga_done (by kernel_rfl) ?_
    refine gk_then (hK5 _ _ ?_)
    refine gc_ret ?_
    refine ret_S (n := 0) rfl rfl Try.underlying25 rfl (by kernel_rfl) rfl (fun w M => ?_)
    exact ⟨_, rfl, ownC_star (c := monC r) (mem_pick (n := 4) (mem_pick (n := 4) (mem_pick (n := 2) (mem_pick (n := 1) (M) rfl) rfl) rfl) rfl).2, M.1⟩
   ·refine go_make1 rfl rfl rfl Try.underlying22 rfl rfl (by omega) ?_
    intro B170
    refine hK164 _ _ (fun w M => (mem_erase 0 (mem_take 1 M) :)) ?_
    refine gao 1 fun K173 hK173 => ?_
    refine go_make1 rfl rfl rfl Try.underlying22 rfl rfl (by omega) ?_
    intro B172
    refine hK173 _ _ (fun w M => (mem_erase 0 (mem_take 1 M) :)) ?_
    refine gav 7 rfl (qt_build rfl rfl bt_Category) ?_
    refine gao 8 fun K174 hK174 => ?_
    refine go_storeS (n := 0) rfl rfl rfl rfl (by kernel_rfl) rfl rfl rfl ?_
    refine hK174 _ _ (fun w M => (mem_erase 0 (mem_take 1 M) :)) ?_
    refine ga_done (by kernel_rfl) ?_
    refine gk_then (hK5 _ _ ?_)
    refine gc_ret ?_
    refine ret_S (n := 0) rfl rfl Try.underlying25 rfl (by kernel_rfl) rfl (fun w M => ?_)
    exact ⟨_, rfl, ownC_star (c := monC r) (mem_pick (n := 4) (mem_pick (n := 3) (mem_pick (n := 2) (mem_pick (n := 1) (M) rfl) rfl) rfl) rfl).2, M.1⟩

end Go.Proofs.Ytbfenibkbmkcaab
