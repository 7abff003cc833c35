import Derived.Test.YtfnneogadciimaaDoorA21
set_option linter.unusedSimpArgs false
set_option linter.unusedVariables false
set_option linter.unusedSectionVars false
namespace Go.Proofs.YtfnneogadciimaaDoor
open Go.RowKit
structure StC where
  cs : List Value
  iso : Bool
  mo : Int
def stL (B : Nat) (cs : List Value) (rows : List (List Int)) (s : Option Addr × Nat × List Value) : List Itm := [bxI B 106 (cs ++ [.slice s.1 rows.length s.2.1]), own2U (.slice s.1 rows.length s.2.1) s.2.2 rows]
def stI (B : Nat) (cs : List Value) (rows : List (List Int)) : Itm := consI (stL B cs rows) (fun _ => True)
theorem st_in {w0 w : World} {B : Nat} {cs : List Value} {rows : List (List Int)} {a : Option Addr} {q : Nat} {us : List Value} {js : List Itm} (M : Mem w0 w (bxI B 106 (cs ++ [.slice a rows.length q]) :: own2U (.slice a rows.length q) us rows :: js)) : Mem w0 w (stI B cs rows :: js) :=
  mem_cons_in (L := stL B cs rows) (a, q, us) trivial M
theorem st_out {w0 w : World} {B : Nat} {cs : List Value} {rows : List (List Int)} {js : List Itm} (M : Mem w0 w (stI B cs rows :: js)) : ∃ (a : Option Addr) (q : Nat) (us : List Value), Mem w0 w (bxI B 106 (cs ++ [.slice a rows.length q]) :: own2U (.slice a rows.length q) us rows :: js) := by
  obtain ⟨⟨a, q, us⟩, _, M'⟩ := mem_cons_out M
  exact ⟨a, q, us, M'⟩
def stOf (cs : List Value) (iso : Bool) (mo : Int) : List Value := cs ++ [.bool iso, .int .i64 mo]
structure SeaP (F G : Fct) (c : List Int) : Prop where
  hi : InC7 F c
  hA : ArrS F c
  hI : ∀ a : Nat, a < F.S.s.length → okA F G c a
noncomputable def goL (F G : Fct) (iso : Bool) (mo : Int) (c : List Int) (rows : List (List Int)) : List (List Int) := rows ++ (solE F G (kapS F iso) c).take (mo.toNat - rows.length)
def GoE (w0 : World) (J : List Itm) (e : Ending) (w' : World) : Prop := e = .returned (.tuple #[]) ∧ Mem w0 w' J
def GoOK (w0 : World) (B : Nat) (cs : List Value) (F G : Fct) (iso : Bool) (mo : Int) (c : List Int) : Prop :=
  ∀ (w : World) (nv : Value) (rows : List (List Int)) (R : Itm), SeaP F G c → (rows.length : Int) < mo → Mem w0 w [stI B (stOf cs iso mo) rows, own1I nv c, R] →
    Calls Tryd.prog 75 #[.pointer (some ⟨B, 0, none⟩), nv] w (GoE w0 [stI B (stOf cs iso mo) (goL F G iso mo c rows), own1I nv c, R])
section
variable {w0 : World} {is : List Itm} {ops : Array Oper} {Q : Exit → Act → World → Prop} {o : Oper} {rest : List Oper} {N : Frm} {e : Env} {v : Value} {d : Nat} {K : Act → World → Prop} {f : FuncId} {fn : Func} {ags : Array Operand} {ts : Array TypeId} {vs : List Value}
theorem go_callGo {B m q : Nat} {cs : List Value} {rows rows' : List (List Int)} {a : Option Addr} {us : List Value} {tl : List Itm} {nv : Value} {c : List Int} (hd : o.dst = some d) (hN : Nat.blt d N = true) (hop : o.op = .call { callee := .value (.func f), args := ags, argTypes := ts }) (hfn : Tryd.prog.funcs[f]? = some fn) (hb : fn.body.isNone = false) (hnm : (fn.name == "runtime.NumGoroutine") = false)
    (hargs : evoL e ags.toList = some vs) (hj : tl[m]? = some (own1I nv c))
    (hc : ∀ (R : Itm) w, Mem w0 w [stI B cs rows, own1I nv c, R] → Calls Tryd.prog f vs.toArray w (GoE w0 [stI B cs rows', own1I nv c, R]))
    (hk : ∀ a q us, GK w0 (bxI B 106 (cs ++ [.slice a rows'.length q]) :: own2U (.slice a rows'.length q) us rows' :: tl) N K ((d, .tuple #[]) :: e)) : GO w0 (bxI B 106 (cs ++ [.slice a rows.length q]) :: own2U (.slice a rows.length q) us rows :: tl) N o e Q K := by
  intro w ac M F
  refine go_call hd hN F hop hfn hb hnm hargs (hc _ w (mem_look2_out (n := 0) (st_in M) rfl hj)) fun e' w' hR => ?_
  obtain ⟨rfl, M'⟩ := hR
  have M2 := mem_look2_in (is := stI B cs rows :: tl) (n := 0) (by simp) hj M'
  obtain ⟨a', q', us', M3⟩ := st_out M2
  exact ⟨_, rfl, fun ac F => hk a' q' us' w' ac M3 F⟩
end
def XL (c : List Int) (m : Nat) (x : Int) : Prop := (x = -1 ∧ ∀ i : Nat, m ≤ i → i < c.length → ¬ at0 c (i : Int) = -1) ∨ ∃ n : Nat, x = (n : Int) ∧ m ≤ n ∧ n < c.length ∧ at0 c (n : Int) = -1 ∧ ∀ i : Nat, m ≤ i → i < n → ¬ at0 c (i : Int) = -1
theorem xL_0 (c : List Int) : XL c c.length (-1) := .inl ⟨rfl, fun i h1 h2 => absurd h1 (by omega)⟩
theorem xL_t {c : List Int} {m : Nat} (hm : m < c.length) (h : at0 c (m : Int) = -1) : XL c m (m : Int) := .inr ⟨m, rfl, Nat.le_refl _, hm, h, fun i h1 h2 => absurd h1 (by omega)⟩
theorem xL_f {c : List Int} {m : Nat} {x : Int} (hx : XL c (m + 1) x) (h : ¬ at0 c (m : Int) = -1) : XL c m x := by
  rcases hx with ⟨h1, h2⟩ | ⟨n, h1, h2, h3, h4, h5⟩
  · refine .inl ⟨h1, fun i hi hl => ?_⟩
    rcases Nat.lt_or_ge m i with h6 | h6
    · exact h2 i h6 hl
    · obtain rfl : i = m := by omega
      exact h
  · refine .inr ⟨n, h1, by omega, h3, h4, fun i hi hl => ?_⟩
    rcases Nat.lt_or_ge m i with h6 | h6
    · exact h5 i h6 hl
    · obtain rfl : i = m := by omega
      exact h
theorem xL_none {c : List Int} {m : Nat} {x : Int} (hx : XL c m x) (h : x < 0) : ∀ i : Nat, m ≤ i → i < c.length → ¬ at0 c (i : Int) = -1 := by
  rcases hx with ⟨_, h2⟩ | ⟨n, h1, _⟩
  · exact h2
  · omega
theorem xL_some {c : List Int} {m : Nat} {x : Int} (hx : XL c m x) (h : 0 ≤ x) : ∃ n : Nat, x = (n : Int) ∧ n < c.length ∧ at0 c (n : Int) = -1 ∧ ∀ i : Nat, m ≤ i → i < n → ¬ at0 c (i : Int) = -1 := by
  rcases hx with ⟨h1, _⟩ | ⟨n, h1, _, h3, h4, h5⟩
  · omega
  · exact ⟨n, h1, h3, h4, h5⟩
theorem goL_none {F G : Fct} {iso : Bool} {mo : Int} {c : List Int} {rows : List (List Int)} (h : solE F G (kapS F iso) c = []) : goL F G iso mo c rows = rows := by unfold goL; rw [h]; simp
theorem goL_one {F G : Fct} {iso : Bool} {mo : Int} {c : List Int} {rows : List (List Int)} (h : solE F G (kapS F iso) c = [c]) (hm : (rows.length : Int) < mo) : goL F G iso mo c rows = rows ++ [c] := by
  unfold goL; rw [h, List.take_of_length_le (by simp; omega)]
noncomputable def rowK (F G : Fct) (iso : Bool) (mo : Int) (c : List Int) (n : Nat) (rows : List (List Int)) (k : Nat) : List (List Int) :=
  rows ++ (((choL F G (kapS F iso) c n).take k).flatMap fun p => solE F G (kapS F iso) (c.set n p)).take (mo.toNat - rows.length)
theorem rowK_0 (F G : Fct) (iso : Bool) (mo : Int) (c : List Int) (n : Nat) (rows : List (List Int)) : rowK F G iso mo c n rows 0 = rows := by simp [rowK]
theorem rowK_next {F G : Fct} {iso : Bool} {mo : Int} {c : List Int} {n k : Nat} {rows : List (List Int)} (hk : k < (choL F G (kapS F iso) c n).length) (hm : ((rowK F G iso mo c n rows k).length : Int) < mo) :
    goL F G iso mo (c.set n (at0 (choL F G (kapS F iso) c n) (k : Int))) (rowK F G iso mo c n rows k) = rowK F G iso mo c n rows (k + 1) := by
  have e : ∀ A : List (List Int), (rows ++ A.take (mo.toNat - rows.length)).length < mo.toNat → A.take (mo.toNat - rows.length) = A := fun A h => by
    refine List.take_of_length_le ?_
    rw [List.length_append, List.length_take] at h
    omega
  unfold goL rowK at *
  rw [take_one hk, List.flatMap_append]
  generalize hA : ((choL F G (kapS F iso) c n).take k).flatMap (fun p => solE F G (kapS F iso) (c.set n p)) = A at *
  have h1 := e A (by omega)
  rw [h1] at hm ⊢
  simp only [List.flatMap_cons, List.flatMap_nil, List.append_nil]
  rw [List.append_assoc]
  congr 1
  rw [List.length_append] at hm ⊢
  rw [List.take_append, List.take_of_length_le (l := A) (by omega)]
  congr 2
  omega
theorem rowK_end {F G : Fct} {iso : Bool} {mo : Int} {c : List Int} {n k : Nat} {rows : List (List Int)} (hA : ArrS F c) (hn : n < c.length) (h1 : at0 c (n : Int) = -1) (hb : ∀ i : Nat, 0 ≤ i → i < n → ¬ at0 c (i : Int) = -1) (h : ¬ k < (choL F G (kapS F iso) c n).length ∨ ¬ ((rowK F G iso mo c n rows k).length : Int) < mo) :
    rowK F G iso mo c n rows k = goL F G iso mo c rows := by
  unfold goL rowK at *
  rw [solE_split hA hn h1 fun i hi => hb i (Nat.zero_le _) hi]
  congr 1
  rcases h with h | h
  · have e : (choL F G (kapS F iso) c n).take k = choL F G (kapS F iso) c n := List.take_of_length_le (by omega)
    rw [e]
  · conv => rhs; rw [← List.take_append_drop k (choL F G (kapS F iso) c n), List.flatMap_append]
    rw [List.length_append, List.length_take] at h
    rw [List.take_append_of_le_length (by omega)]
theorem choL_len (F G : Fct) (κ : Int → Bool) (c : List Int) (x : Nat) : (choL F G κ c x).length ≤ F.T.s.length := by
  unfold choL homK
  exact Nat.le_trans (List.length_filter_le ..) (Nat.le_trans (List.length_filter_le ..) (homTo_len ..))
theorem cnt_set {c : List Int} {n : Nat} {p : Int} (hn : n < c.length) (h1 : at0 c (n : Int) = -1) (hp : 0 ≤ p) : (c.set n p).count (-1) < c.count (-1) := by
  have e : c[n] = -1 := by
    have : c.getD (n : Int).toNat 0 = -1 := h1
    rw [Int.toNat_natCast, List.getD_eq_getElem?_getD, List.getElem?_eq_getElem hn] at this; exact this
  rw [List.count_set hn]
  have h2 : (c[n] == -1) = true := by rw [e]; rfl
  have h3 : (p == (-1 : Int)) = false := by simp; omega
  have h4 : 0 < c.count (-1) := List.count_pos_iff.2 (e ▸ List.getElem_mem hn)
  rw [h2, h3]; simp; omega
theorem sea_next {F G : Fct} {iso : Bool} {c : List Int} {n k : Nat} (h : SeaP F G c) (hn : n < c.length) (hk : k < (choL F G (kapS F iso) c n).length) : SeaP F G (c.set n (at0 (choL F G (kapS F iso) c n) (k : Int))) ∧ 0 ≤ at0 (choL F G (kapS F iso) c n) (k : Int) := by
  have hm : at0 (choL F G (kapS F iso) c n) (k : Int) ∈ choL F G (kapS F iso) c n := at0_mem hk
  have hh := homK_nn (List.mem_filter.1 hm).1
  exact ⟨⟨inC_set h.hi hh.2, ⟨by simpa using h.hA.s, by simpa using h.hA.t⟩, inv_next h.hA hn h.hI hm⟩, hh.1⟩
set_option maxHeartbeats 4000000 in
set_option maxRecDepth 100000 in
theorem go_step (w0 w : World) (B : Nat) (vx1 vx2 vx3 vx4 vx5 vx6 vx7 vx8 vx9 vx10 : Option Addr) (vk1 vk2 vk3 vk4 vk5 vk6 vk7 vk8 vk9 vk10 : Nat) (ux1 ux2 ux3 ux4 ux5 ux6 ux7 ux8 ux9 ux10 : Option Addr) (uk1 uk2 uk3 uk4 uk5 uk6 uk7 uk8 uk9 uk10 : Nat) (F G : Fct) (iso : Bool) (mo : Int) (c : List Int) (fa : Option Addr) (fq : Nat) (us : List Value) (rows : List (List Int)) (cv : Value) (R : Itm) (h : RdF w0 (.agg #[.int .i64 F.S.ob, .slice vx1 F.S.s.length vk1, .slice vx2 F.S.t.length vk2, .slice vx3 F.S.e.length vk3, .slice vx4 F.S.m.length vk4, .int .i64 F.T.ob, .slice vx5 F.T.s.length vk5, .slice vx6 F.T.t.length vk6, .slice vx7 F.T.e.length vk7, .slice vx8 F.T.m.length vk8, .slice vx9 F.o.length vk9, .slice vx10 F.a.length vk10]) F) (e : RdF w0 (.agg #[.int .i64 G.S.ob, .slice ux1 G.S.s.length uk1, .slice ux2 G.S.t.length uk2, .slice ux3 G.S.e.length uk3, .slice ux4 G.S.m.length uk4, .int .i64 G.T.ob, .slice ux5 G.T.s.length uk5, .slice ux6 G.T.t.length uk6, .slice ux7 G.T.e.length uk7, .slice ux8 G.T.m.length uk8, .slice ux9 G.o.length uk9, .slice ux10 G.a.length uk10]) G) (hF : IsFct F) (hG : IsFct G) (hp : ParP F G) (hs : SeaP F G c) (hm : (rows.length : Int) < mo) (hm9 : mo ≤ 1000) (ih : ∀ c2 : List Int, c2.count (-1) < c.count (-1) → GoOK w0 B [.int .i64 F.S.ob, .slice vx1 F.S.s.length vk1, .slice vx2 F.S.t.length vk2, .slice vx3 F.S.e.length vk3, .slice vx4 F.S.m.length vk4, .int .i64 F.T.ob, .slice vx5 F.T.s.length vk5, .slice vx6 F.T.t.length vk6, .slice vx7 F.T.e.length vk7, .slice vx8 F.T.m.length vk8, .slice vx9 F.o.length vk9, .slice vx10 F.a.length vk10, .int .i64 G.S.ob, .slice ux1 G.S.s.length uk1, .slice ux2 G.S.t.length uk2, .slice ux3 G.S.e.length uk3, .slice ux4 G.S.m.length uk4, .int .i64 G.T.ob, .slice ux5 G.T.s.length uk5, .slice ux6 G.T.t.length uk6, .slice ux7 G.T.e.length uk7, .slice ux8 G.T.m.length uk8, .slice ux9 G.o.length uk9, .slice ux10 G.a.length uk10] F G iso mo c2) (M : Mem w0 w [bxI B 106 [.int .i64 F.S.ob, .slice vx1 F.S.s.length vk1, .slice vx2 F.S.t.length vk2, .slice vx3 F.S.e.length vk3, .slice vx4 F.S.m.length vk4, .int .i64 F.T.ob, .slice vx5 F.T.s.length vk5, .slice vx6 F.T.t.length vk6, .slice vx7 F.T.e.length vk7, .slice vx8 F.T.m.length vk8, .slice vx9 F.o.length vk9, .slice vx10 F.a.length vk10, .int .i64 G.S.ob, .slice ux1 G.S.s.length uk1, .slice ux2 G.S.t.length uk2, .slice ux3 G.S.e.length uk3, .slice ux4 G.S.m.length uk4, .int .i64 G.T.ob, .slice ux5 G.T.s.length uk5, .slice ux6 G.T.t.length uk6, .slice ux7 G.T.e.length uk7, .slice ux8 G.T.m.length uk8, .slice ux9 G.o.length uk9, .slice ux10 G.a.length uk10, .bool iso, .int .i64 mo, .slice fa rows.length fq], own2U (.slice fa rows.length fq) us rows, own1I cv c, R]) :
    Calls Tryd.prog 75 #[.pointer (some ⟨B, 0, none⟩), cv] w (GoE w0 [stI B (stOf [.int .i64 F.S.ob, .slice vx1 F.S.s.length vk1, .slice vx2 F.S.t.length vk2, .slice vx3 F.S.e.length vk3, .slice vx4 F.S.m.length vk4, .int .i64 F.T.ob, .slice vx5 F.T.s.length vk5, .slice vx6 F.T.t.length vk6, .slice vx7 F.T.e.length vk7, .slice vx8 F.T.m.length vk8, .slice vx9 F.o.length vk9, .slice vx10 F.a.length vk10, .int .i64 G.S.ob, .slice ux1 G.S.s.length uk1, .slice ux2 G.S.t.length uk2, .slice ux3 G.S.e.length uk3, .slice ux4 G.S.m.length uk4, .int .i64 G.T.ob, .slice ux5 G.T.s.length uk5, .slice ux6 G.T.t.length uk6, .slice ux7 G.T.e.length uk7, .slice ux8 G.T.m.length uk8, .slice ux9 G.o.length uk9, .slice ux10 G.a.length uk10] iso mo) (goL F G iso mo c rows), own1I cv c, R]) := by
  obtain ⟨ca, cq, rfl⟩ := rd_form ((mem_own1 (n := 2) M rfl).rd)
  obtain ⟨h1, h2, h3, h4, h5, h6, h7, h8, h9, h10⟩ := rdF_all h
  obtain ⟨e1, e2, e3, e4, e5, e6, e7, e8, e9, e10⟩ := rdF_all e
  have hlc := hs.hi.1
  have s8 := (isCat_of hF.cs).toShapeP.ob8
  have t40 := (isCat_of hF.ct).toShapeP.n40
  go_enter Tryd.func75, Tryd.ntmps75
  refine gc_enterM M (N := 75) rfl (look_cons (k := 0) rfl (look_cons (k := 1) rfl (look_nil _))) ?_
  clear M
  refine gc_seq fun K1 hK1 => ?_
  refine gc_region ?_
  refine g_v (.free rfl) rfl rfl (qt_assign rfl rfl) ?_
  refine g_nil ?_
  refine gk_then (hK1 _ _ ?_)
  refine gc_seq fun K2 hK2 => ?_
  refine gc_seq fun K3 hK3 => ?_
  refine gc_region ?_
  refine g_v (.free rfl) rfl rfl (qt_move rfl rfl) ?_
  refine g_v (.free rfl) rfl rfl (qt_len rfl rfl ulE1 (fun w M => lenV_own1 (n := 2) rfl M)) ?_
  refine g_v (.free rfl) rfl rfl (qt_sub rfl rfl rfl (by omega)) ?_
  refine g_v (.free rfl) rfl rfl (qt_assign rfl rfl) ?_
  refine g_nil ?_
  refine gk_then (hK3 _ _ ?_)
  refine gc_block ?_
  try simp only [List.nil_append, List.cons_append, List.append_assoc, List.set_cons_succ, List.set_cons_zero]
  refine gc_loop ([(0, _), (1, _)] : Env) (fun s : Nat × Int => (fun (m : Nat) (x : Int) => ([(4, .int .i64 x), (5, .int .i64 ((m : Int) - 1))] : Env)) s.1 s.2) (fun s : Nat × Int => (fun (m : Nat) (x : Int) => ([] : List (Nat × Itm))) s.1 s.2) (fun s : Nat × Int => (fun (m : Nat) (x : Int) => m ≤ c.length ∧ XL c m x) s.1 s.2) (fun s : Nat × Int => (fun (m : Nat) (x : Int) => m) s.1 s.2) (c.length, -1) (sub_cons rfl (sub_cons rfl (sub_cons rfl (sub_cons rfl sub_nil)))) rfl ⟨Nat.le_refl _, xL_0 c⟩ ?_
  rintro ⟨m, x⟩ hinv KL4 hKL4
  simp only [updL, List.foldl_cons, List.foldl_nil, List.set_cons_succ, List.set_cons_zero, List.cons_append, List.nil_append] at hinv hKL4 ⊢
  obtain ⟨hm1, hX⟩ := hinv
  refine gc_seq fun K5 hK5 => ?_
  refine gc_seq fun K6 hK6 => ?_
  refine gc_region ?_
  refine g_v (.free rfl) rfl rfl (qt_move rfl rfl) ?_
  refine g_v (.free rfl) rfl rfl (qt_geq rfl rfl rfl) ?_
  refine g_nil ?_
  refine gk_then (hK6 _ _ ?_)
  refine gc_cond rfl (fun hc0 => ?_) (fun hc0 => ?_)
  · try simp only [decide_eq_true_eq, decide_eq_false_iff_not, Bool.not_eq_true', Bool.not_eq_false', Bool.not_eq_eq_eq_not, Bool.not_true, Bool.not_false, ne_eq, Decidable.not_not, Classical.not_not] at hc0
    refine gc_skip ?_
    refine gk_then (hK5 _ _ ?_)
    refine gc_seq fun K7 hK7 => ?_
    refine gc_block ?_
    refine gc_seq fun K8 hK8 => ?_
    obtain ⟨m, rfl⟩ : ∃ j, m = j + 1 := ⟨m - 1, by omega⟩
    simp only [show (((m + 1 : Nat) : Int) - 1) = (m : Int) by omega]
    refine gc_region ?_
    refine g_v (.free rfl) rfl rfl (qt_move rfl rfl) ?_
    refine g_v (.free rfl) rfl rfl (qt_move rfl rfl) ?_
    refine g_v (.free rfl) rfl rfl (qt_index rfl rfl rfl ulE1 szE1 (fun w M => lenA_own1 (n := 2) rfl M) (by omega) (by omega)) ?_
    refine g_v (.free rfl) rfl rfl (qt_load1 rfl rfl Tryd.underlying2 rfl (fun w M => (mem_own1 (n := 2) M rfl).rd) (by omega) (by omega)) ?_
    refine g_v (.free rfl) rfl rfl (qt_eql rfl rfl rfl) ?_
    refine g_nil ?_
    refine gk_then (hK8 _ _ ?_)
    refine gc_cond rfl (fun hc1 => ?_) (fun hc1 => ?_)
    · try simp only [decide_eq_true_eq, decide_eq_false_iff_not, Bool.not_eq_true', Bool.not_eq_false', Bool.not_eq_eq_eq_not, Bool.not_true, Bool.not_false, ne_eq, Decidable.not_not, Classical.not_not] at hc1
      refine gc_seq fun K9 hK9 => ?_
      refine gc_region ?_
      refine g_v (.free rfl) rfl rfl (qt_move rfl rfl) ?_
      refine g_v (.free rfl) rfl rfl (qt_assign rfl rfl) ?_
      refine g_nil ?_
      refine gk_then (hK9 _ _ ?_)
      refine gc_seq fun K10 hK10 => ?_
      refine gc_region ?_
      refine g_v (.free rfl) rfl rfl (qt_move rfl rfl) ?_
      refine g_v (.free rfl) rfl rfl (qt_move rfl rfl) ?_
      refine g_v (.free rfl) rfl rfl (qt_move rfl rfl) ?_
      refine g_op (.free rfl) fun K12 hK12 => ?_
      refine go_callL rfl rfl rfl Tryd.func109 rfl (by decide) rfl (fun w M => specCho_any w B _ _ _ _ _ _ _ _ _ _ _ _ _ _ _ _ _ _ _ _ _ _ _ _ _ _ _ _ _ _ _ _ _ _ _ _ _ _ _ _ F G iso mo _ _ c _ (mem_rdF M h) (mem_rdF M e) (bxV_of (n := 0) M rfl) ((mem_own1 (n := 2) M rfl).rd) hF hG hp hs.hi (by omega)) ?_
      intro va11 vc11
      refine hK12 _ _ ?_
      refine g_v (.free rfl) rfl rfl (qt_len rfl rfl ulE1 (fun w M => lenV_own1 (n := 4) rfl M)) ?_
      refine g_v (.free rfl) rfl rfl (qt_eql rfl rfl rfl) ?_
      refine g_nil ?_
      refine gk_then (hK10 _ _ ?_)
      refine gc_cond rfl (fun hc2 => ?_) (fun hc2 => ?_)
      · try simp only [decide_eq_true_eq, decide_eq_false_iff_not, Bool.not_eq_true', Bool.not_eq_false', Bool.not_eq_eq_eq_not, Bool.not_true, Bool.not_false, ne_eq, Decidable.not_not, Classical.not_not] at hc2
        refine gc_ret ?_
        refine gk_block_ret ?_
        refine gk_then_ret ?_
        refine gk_then_ret ?_
        refine gk_block_ret ?_
        refine gk_then_ret ?_
        refine ret_0 rfl (fun w M => ?_)
        try simp only [List.nil_append, List.cons_append, List.append_assoc, List.set_cons_succ, List.set_cons_zero] at M
        rw [goL_none (solE_none (y := m) hs.hA (by omega) (by omega) (List.eq_nil_of_length_eq_zero (by omega)))]
        exact ⟨rfl, mem_take 3 (st_in (cs := (stOf [.int .i64 F.S.ob, .slice vx1 F.S.s.length vk1, .slice vx2 F.S.t.length vk2, .slice vx3 F.S.e.length vk3, .slice vx4 F.S.m.length vk4, .int .i64 F.T.ob, .slice vx5 F.T.s.length vk5, .slice vx6 F.T.t.length vk6, .slice vx7 F.T.e.length vk7, .slice vx8 F.T.m.length vk8, .slice vx9 F.o.length vk9, .slice vx10 F.a.length vk10, .int .i64 G.S.ob, .slice ux1 G.S.s.length uk1, .slice ux2 G.S.t.length uk2, .slice ux3 G.S.e.length uk3, .slice ux4 G.S.m.length uk4, .int .i64 G.T.ob, .slice ux5 G.T.s.length uk5, .slice ux6 G.T.t.length uk6, .slice ux7 G.T.e.length uk7, .slice ux8 G.T.m.length uk8, .slice ux9 G.o.length uk9, .slice ux10 G.a.length uk10] iso mo)) M)⟩
      · try simp only [decide_eq_true_eq, decide_eq_false_iff_not, Bool.not_eq_true', Bool.not_eq_false', Bool.not_eq_eq_eq_not, Bool.not_true, Bool.not_false, ne_eq, Decidable.not_not, Classical.not_not] at hc2
        refine gc_skip ?_
        refine gk_block ?_
        refine gk_then (hK7 _ _ ?_)
        refine gc_region ?_
        refine g_v (.free rfl) rfl rfl (qt_move rfl rfl) ?_
        refine g_v (.free rfl) rfl rfl (qt_sub rfl rfl rfl (by omega)) ?_
        refine g_v (.free rfl) rfl rfl (qt_assign rfl rfl) ?_
        refine g_nil ?_
        refine gk_then (gk_take 4 ?_)
        refine gk_sub ?hs_13 (hKL4 (m, (m : Int)) ?hi_13 ?hm_13)
        case hs_13 => exact (sub_cons rfl (sub_cons rfl (sub_cons rfl (sub_cons rfl sub_nil))))
        case hi_13 => exact ⟨by omega, xL_t (by omega) (by omega)⟩
        case hm_13 => omega
    · try simp only [decide_eq_true_eq, decide_eq_false_iff_not, Bool.not_eq_true', Bool.not_eq_false', Bool.not_eq_eq_eq_not, Bool.not_true, Bool.not_false, ne_eq, Decidable.not_not, Classical.not_not] at hc1
      refine gc_skip ?_
      refine gk_block ?_
      refine gk_then (hK7 _ _ ?_)
      refine gc_region ?_
      refine g_v (.free rfl) rfl rfl (qt_move rfl rfl) ?_
      refine g_v (.free rfl) rfl rfl (qt_sub rfl rfl rfl (by omega)) ?_
      refine g_v (.free rfl) rfl rfl (qt_assign rfl rfl) ?_
      refine g_nil ?_
      refine gk_then (gk_take 4 ?_)
      refine gk_sub ?hs_14 (hKL4 (m, x) ?hi_14 ?hm_14)
      case hs_14 => exact (sub_cons rfl (sub_cons rfl (sub_cons rfl (sub_cons rfl sub_nil))))
      case hi_14 => exact ⟨by omega, xL_f hX (by omega)⟩
      case hm_14 => omega
  · try simp only [decide_eq_true_eq, decide_eq_false_iff_not, Bool.not_eq_true', Bool.not_eq_false', Bool.not_eq_eq_eq_not, Bool.not_true, Bool.not_false, ne_eq, Decidable.not_not, Classical.not_not] at hc0
    refine gc_exit ?_
    refine gk_then_exit ?_
    refine gk_then_exit ?_
    refine gk_block_hit ?_
    refine gk_then (hK2 _ _ ?_)
    refine gc_seq fun K15 hK15 => ?_
    refine gc_seq fun K16 hK16 => ?_
    refine gc_region ?_
    refine g_v (.free rfl) rfl rfl (qt_move rfl rfl) ?_
    refine g_v (.free rfl) rfl rfl (qt_lss rfl rfl rfl) ?_
    refine g_nil ?_
    refine gk_then (hK16 _ _ ?_)
    refine gc_cond rfl (fun hc3 => ?_) (fun hc3 => ?_)
    · try simp only [decide_eq_true_eq, decide_eq_false_iff_not, Bool.not_eq_true', Bool.not_eq_false', Bool.not_eq_eq_eq_not, Bool.not_true, Bool.not_false, ne_eq, Decidable.not_not, Classical.not_not] at hc3
      refine gc_seq fun K17 hK17 => ?_
      try simp only [List.nil_append, List.cons_append, List.append_assoc, List.set_cons_succ, List.set_cons_zero]
      refine ga_start _ (fun w M => mem_erase 0 (mem_erase 1 (M))) ?_
      refine ga_v 0 rfl (by kernel_rfl) (by kernel_rfl) (by kernel_rfl) (.free rfl) rfl rfl (qt_move rfl rfl) (fun _ _ _ h => h) ?_
      refine ga_v 1 rfl (by kernel_rfl) (by kernel_rfl) (by kernel_rfl) (.free rfl) rfl rfl (qt_move rfl rfl) (fun _ _ _ h => h) ?_
      refine ga_v 2 rfl (by kernel_rfl) (by kernel_rfl) (by kernel_rfl) (.free rfl) rfl rfl (qt_nilP rfl rfl) (fun _ _ _ h => h) ?_
      refine ga_v 3 rfl (by kernel_rfl) (by kernel_rfl) (by kernel_rfl) (.free rfl) rfl rfl (qt_field (z := 0) (off := 26) rfl rfl Tryd.underlying106 rfl (by kernel_rfl) rfl) (fun _ _ _ h => h) ?_
      refine ga_v 5 rfl (by kernel_rfl) (by kernel_rfl) (by kernel_rfl) (.free rfl) rfl rfl (qt_move rfl rfl) (fun _ _ _ h => h) ?_
      refine ga_two 4 6 (by kernel_rfl) rfl rfl (.free rfl) (.free rfl) (fun K18 hK18 => ?_) (fun K18 hK18 => ?_)
      · refine go_v rfl rfl (qt_loadB (n := 0) rfl rfl Tryd.underlying23 rfl rfl rfl) ?_
        refine hK18 _ _ (fun w M => (mem_erase 0 (mem_erase 1 (mem_take 4 M)) :)) ?_
        refine ga_op 6 (by kernel_rfl) rfl (.free rfl) fun K21 hK21 => ?_
        refine go_callL rfl rfl rfl Tryd.func84 rfl (by decide) rfl (fun w M => specOwn_any w _ _ ((mem_own1 (n := 2) M rfl).rd)) ?_
        intro va20 vc20
        refine hK21 _ _ (fun w M => (mem_erase 0 (mem_erase 1 (mem_take 4 M)) :)) ?_
        refine ga_op 7 (by kernel_rfl) rfl (.free rfl) fun K23 hK23 => ?_
        refine go_sliceR1 (m := 4) rfl rfl rfl rfl Tryd.underlying23 rfl ?_
        intro B22
        refine hK23 _ _ (fun w M => (mem_erase 0 (mem_erase 1 (mem_take 4 M)) :)) ?_
        refine ga_op 8 (by kernel_rfl) rfl (.free rfl) fun K25 hK25 => ?_
        refine go_appendRow (n := 1) (m := 4) (m' := 3) rfl rfl rfl Tryd.underlying23 rfl rfl rfl rfl rfl (by omega) ?_
        intro va24 vc24
        refine hK25 _ _ (fun w M => (mem_erase 0 (mem_erase 1 (mem_take 4 M)) :)) ?_
        refine ga_v 9 rfl (by kernel_rfl) (by kernel_rfl) (by kernel_rfl) (.free rfl) rfl rfl (qt_nilP rfl rfl) (fun _ _ _ h => h) ?_
        refine ga_v 10 rfl (by kernel_rfl) (by kernel_rfl) (by kernel_rfl) (.free rfl) rfl rfl (qt_field (z := 0) (off := 26) rfl rfl Tryd.underlying106 rfl (by kernel_rfl) rfl) (fun _ _ _ h => h) ?_
        refine ga_op 11 (by kernel_rfl) rfl (.free rfl) fun K26 hK26 => ?_
        refine go_storeB (n := 0) rfl rfl rfl rfl (by kernel_rfl) rfl rfl rfl (by first | decide | simp) ?_
        refine hK26 _ _ (fun w M => (mem_erase 0 (mem_erase 1 (mem_take 4 M)) :)) ?_
        refine ga_done (by kernel_rfl) ?_
        refine gk_then (hK17 _ _ ?_)
        refine gc_ret ?_
        refine gk_then_ret ?_
        refine ret_0 rfl (fun w M => ?_)
        obtain rfl : m = 0 := by omega
        try simp only [List.nil_append, List.cons_append, List.append_assoc, List.set_cons_succ, List.set_cons_zero] at M
        rw [goL_one (solE_one (fun i hi => xL_none hX (by omega) i (Nat.zero_le _) hi) hs.hI) hm]
        exact ⟨rfl, mem_take 3 (st_in (cs := (stOf [.int .i64 F.S.ob, .slice vx1 F.S.s.length vk1, .slice vx2 F.S.t.length vk2, .slice vx3 F.S.e.length vk3, .slice vx4 F.S.m.length vk4, .int .i64 F.T.ob, .slice vx5 F.T.s.length vk5, .slice vx6 F.T.t.length vk6, .slice vx7 F.T.e.length vk7, .slice vx8 F.T.m.length vk8, .slice vx9 F.o.length vk9, .slice vx10 F.a.length vk10, .int .i64 G.S.ob, .slice ux1 G.S.s.length uk1, .slice ux2 G.S.t.length uk2, .slice ux3 G.S.e.length uk3, .slice ux4 G.S.m.length uk4, .int .i64 G.T.ob, .slice ux5 G.T.s.length uk5, .slice ux6 G.T.t.length uk6, .slice ux7 G.T.e.length uk7, .slice ux8 G.T.m.length uk8, .slice ux9 G.o.length uk9, .slice ux10 G.a.length uk10] iso mo)) M)⟩
      · refine go_callL rfl rfl rfl Tryd.func84 rfl (by decide) rfl (fun w M => specOwn_any w _ _ ((mem_own1 (n := 2) M rfl).rd)) ?_
        intro va27 vc27
        refine hK18 _ _ (fun w M => (mem_erase 0 (mem_erase 1 (mem_take 4 M)) :)) ?_
        refine ga_two 4 7 (by kernel_rfl) rfl rfl (.free rfl) (.free rfl) (fun K29 hK29 => ?_) (fun K29 hK29 => ?_)
        · refine go_v rfl rfl (qt_loadB (n := 0) rfl rfl Tryd.underlying23 rfl rfl rfl) ?_
          refine hK29 _ _ (fun w M => (mem_erase 0 (mem_erase 1 (mem_take 4 M)) :)) ?_
          refine ga_op 7 (by kernel_rfl) rfl (.free rfl) fun K32 hK32 => ?_
          refine go_sliceR1 (m := 4) rfl rfl rfl rfl Tryd.underlying23 rfl ?_
          intro B31
          refine hK32 _ _ (fun w M => (mem_erase 0 (mem_erase 1 (mem_take 4 M)) :)) ?_
          refine ga_op 8 (by kernel_rfl) rfl (.free rfl) fun K34 hK34 => ?_
          refine go_appendRow (n := 1) (m := 4) (m' := 3) rfl rfl rfl Tryd.underlying23 rfl rfl rfl rfl rfl (by omega) ?_
          intro va33 vc33
          refine hK34 _ _ (fun w M => (mem_erase 0 (mem_erase 1 (mem_take 4 M)) :)) ?_
          refine ga_v 9 rfl (by kernel_rfl) (by kernel_rfl) (by kernel_rfl) (.free rfl) rfl rfl (qt_nilP rfl rfl) (fun _ _ _ h => h) ?_
          refine ga_v 10 rfl (by kernel_rfl) (by kernel_rfl) (by kernel_rfl) (.free rfl) rfl rfl (qt_field (z := 0) (off := 26) rfl rfl Tryd.underlying106 rfl (by kernel_rfl) rfl) (fun _ _ _ h => h) ?_
          refine ga_op 11 (by kernel_rfl) rfl (.free rfl) fun K35 hK35 => ?_
          refine go_storeB (n := 0) rfl rfl rfl rfl (by kernel_rfl) rfl rfl rfl (by first | decide | simp) ?_
          refine hK35 _ _ (fun w M => (mem_erase 0 (mem_erase 1 (mem_take 4 M)) :)) ?_
          refine ga_done (by kernel_rfl) ?_
          refine gk_then (hK17 _ _ ?_)
          refine gc_ret ?_
          refine gk_then_ret ?_
          refine ret_0 rfl (fun w M => ?_)
          obtain rfl : m = 0 := by omega
          try simp only [List.nil_append, List.cons_append, List.append_assoc, List.set_cons_succ, List.set_cons_zero] at M
          rw [goL_one (solE_one (fun i hi => xL_none hX (by omega) i (Nat.zero_le _) hi) hs.hI) hm]
          exact ⟨rfl, mem_take 3 (st_in (cs := (stOf [.int .i64 F.S.ob, .slice vx1 F.S.s.length vk1, .slice vx2 F.S.t.length vk2, .slice vx3 F.S.e.length vk3, .slice vx4 F.S.m.length vk4, .int .i64 F.T.ob, .slice vx5 F.T.s.length vk5, .slice vx6 F.T.t.length vk6, .slice vx7 F.T.e.length vk7, .slice vx8 F.T.m.length vk8, .slice vx9 F.o.length vk9, .slice vx10 F.a.length vk10, .int .i64 G.S.ob, .slice ux1 G.S.s.length uk1, .slice ux2 G.S.t.length uk2, .slice ux3 G.S.e.length uk3, .slice ux4 G.S.m.length uk4, .int .i64 G.T.ob, .slice ux5 G.T.s.length uk5, .slice ux6 G.T.t.length uk6, .slice ux7 G.T.e.length uk7, .slice ux8 G.T.m.length uk8, .slice ux9 G.o.length uk9, .slice ux10 G.a.length uk10] iso mo)) M)⟩
        · refine go_sliceR1 (m := 4) rfl rfl rfl rfl Tryd.underlying23 rfl ?_
          intro B36
          refine hK29 _ _ (fun w M => (mem_erase 0 (mem_erase 1 (mem_take 4 M)) :)) ?_
          refine ga_op 4 (by kernel_rfl) rfl (.free rfl) fun K38 hK38 => ?_
          refine go_v rfl rfl (qt_loadB (n := 0) rfl rfl Tryd.underlying23 rfl rfl rfl) ?_
          refine hK38 _ _ (fun w M => (mem_erase 0 (mem_erase 1 (mem_take 4 M)) :)) ?_
          refine ga_op 8 (by kernel_rfl) rfl (.free rfl) fun K40 hK40 => ?_
          refine go_appendRow (n := 1) (m := 4) (m' := 3) rfl rfl rfl Tryd.underlying23 rfl rfl rfl rfl rfl (by omega) ?_
          intro va39 vc39
          refine hK40 _ _ (fun w M => (mem_erase 0 (mem_erase 1 (mem_take 4 M)) :)) ?_
          refine ga_v 9 rfl (by kernel_rfl) (by kernel_rfl) (by kernel_rfl) (.free rfl) rfl rfl (qt_nilP rfl rfl) (fun _ _ _ h => h) ?_
          refine ga_v 10 rfl (by kernel_rfl) (by kernel_rfl) (by kernel_rfl) (.free rfl) rfl rfl (qt_field (z := 0) (off := 26) rfl rfl Tryd.underlying106 rfl (by kernel_rfl) rfl) (fun _ _ _ h => h) ?_
          refine ga_op 11 (by kernel_rfl) rfl (.free rfl) fun K41 hK41 => ?_
          refine go_storeB (n := 0) rfl rfl rfl rfl (by kernel_rfl) rfl rfl rfl (by first | decide | simp) ?_
          refine hK41 _ _ (fun w M => (mem_erase 0 (mem_erase 1 (mem_take 4 M)) :)) ?_
          refine ga_done (by kernel_rfl) ?_
          refine gk_then (hK17 _ _ ?_)
          refine gc_ret ?_
          refine gk_then_ret ?_
          refine ret_0 rfl (fun w M => ?_)
          obtain rfl : m = 0 := by omega
          try simp only [List.nil_append, List.cons_append, List.append_assoc, List.set_cons_succ, List.set_cons_zero] at M
          rw [goL_one (solE_one (fun i hi => xL_none hX (by omega) i (Nat.zero_le _) hi) hs.hI) hm]
          exact ⟨rfl, mem_take 3 (st_in (cs := (stOf [.int .i64 F.S.ob, .slice vx1 F.S.s.length vk1, .slice vx2 F.S.t.length vk2, .slice vx3 F.S.e.length vk3, .slice vx4 F.S.m.length vk4, .int .i64 F.T.ob, .slice vx5 F.T.s.length vk5, .slice vx6 F.T.t.length vk6, .slice vx7 F.T.e.length vk7, .slice vx8 F.T.m.length vk8, .slice vx9 F.o.length vk9, .slice vx10 F.a.length vk10, .int .i64 G.S.ob, .slice ux1 G.S.s.length uk1, .slice ux2 G.S.t.length uk2, .slice ux3 G.S.e.length uk3, .slice ux4 G.S.m.length uk4, .int .i64 G.T.ob, .slice ux5 G.T.s.length uk5, .slice ux6 G.T.t.length uk6, .slice ux7 G.T.e.length uk7, .slice ux8 G.T.m.length uk8, .slice ux9 G.o.length uk9, .slice ux10 G.a.length uk10] iso mo)) M)⟩
    · try simp only [decide_eq_true_eq, decide_eq_false_iff_not, Bool.not_eq_true', Bool.not_eq_false', Bool.not_eq_eq_eq_not, Bool.not_true, Bool.not_false, ne_eq, Decidable.not_not, Classical.not_not] at hc3
      refine gc_skip ?_
      refine gk_then (hK15 _ _ ?_)
      refine gc_seq fun K42 hK42 => ?_
      obtain ⟨n, rfl, hn, h1n, hbn⟩ := xL_some hX (by omega)
      refine gc_region ?_
      refine g_v (.free rfl) rfl rfl (qt_move rfl rfl) ?_
      refine g_v (.free rfl) rfl rfl (qt_move rfl rfl) ?_
      refine g_v (.free rfl) rfl rfl (qt_move rfl rfl) ?_
      refine g_op (.free rfl) fun K44 hK44 => ?_
      refine go_callL rfl rfl rfl Tryd.func109 rfl (by decide) rfl (fun w M => specCho_any w B _ _ _ _ _ _ _ _ _ _ _ _ _ _ _ _ _ _ _ _ _ _ _ _ _ _ _ _ _ _ _ _ _ _ _ _ _ _ _ _ F G iso mo _ _ c _ (mem_rdF M h) (mem_rdF M e) (bxV_of (n := 0) M rfl) ((mem_own1 (n := 2) M rfl).rd) hF hG hp hs.hi (by omega)) ?_
      intro va43 vc43
      refine hK44 _ _ ?_
      refine g_v (.free rfl) rfl rfl (qt_assign rfl rfl) ?_
      refine g_nil ?_
      refine gk_then (hK42 _ _ ?_)
      refine gc_seq fun K45 hK45 => ?_
      refine gc_region ?_
      refine g_v (.free rfl) rfl rfl (qt_assign rfl rfl) ?_
      refine g_nil ?_
      refine gk_then (hK45 _ _ ?_)
      refine gc_block ?_
      have hcl := choL_len F G (kapS F iso) c n
      rw [← rowK_0 F G iso mo c n rows]
      try simp only [List.nil_append, List.cons_append, List.append_assoc, List.set_cons_succ, List.set_cons_zero]
      refine gc_loop ([(0, _), (1, _), (4, _), (5, _), (6, _), (13, _), (29, _)] : Env) (fun s : Nat × (Option Addr) × Nat × (List Value) => (fun (k : Nat) (fa : Option Addr) (fq : Nat) (us : List Value) => ([(7, .int .i64 (k : Int))] : Env)) s.1 s.2.1 s.2.2.1 s.2.2.2) (fun s : Nat × (Option Addr) × Nat × (List Value) => (fun (k : Nat) (fa : Option Addr) (fq : Nat) (us : List Value) => ([(0, bxI B 106 [.int .i64 F.S.ob, .slice vx1 F.S.s.length vk1, .slice vx2 F.S.t.length vk2, .slice vx3 F.S.e.length vk3, .slice vx4 F.S.m.length vk4, .int .i64 F.T.ob, .slice vx5 F.T.s.length vk5, .slice vx6 F.T.t.length vk6, .slice vx7 F.T.e.length vk7, .slice vx8 F.T.m.length vk8, .slice vx9 F.o.length vk9, .slice vx10 F.a.length vk10, .int .i64 G.S.ob, .slice ux1 G.S.s.length uk1, .slice ux2 G.S.t.length uk2, .slice ux3 G.S.e.length uk3, .slice ux4 G.S.m.length uk4, .int .i64 G.T.ob, .slice ux5 G.T.s.length uk5, .slice ux6 G.T.t.length uk6, .slice ux7 G.T.e.length uk7, .slice ux8 G.T.m.length uk8, .slice ux9 G.o.length uk9, .slice ux10 G.a.length uk10, .bool iso, .int .i64 mo, .slice fa (rowK F G iso mo c n rows k).length fq]), (1, own2U (.slice fa (rowK F G iso mo c n rows k).length fq) us (rowK F G iso mo c n rows k))] : List (Nat × Itm))) s.1 s.2.1 s.2.2.1 s.2.2.2) (fun s : Nat × (Option Addr) × Nat × (List Value) => (fun (k : Nat) (fa : Option Addr) (fq : Nat) (us : List Value) => k ≤ (choL F G (kapS F iso) c n).length) s.1 s.2.1 s.2.2.1 s.2.2.2) (fun s : Nat × (Option Addr) × Nat × (List Value) => (fun (k : Nat) (fa : Option Addr) (fq : Nat) (us : List Value) => (choL F G (kapS F iso) c n).length - k) s.1 s.2.1 s.2.2.1 s.2.2.2) (0, fa, fq, us) (sub_cons rfl (sub_cons rfl (sub_cons rfl (sub_cons rfl (sub_cons rfl (sub_cons rfl (sub_cons rfl (sub_cons rfl sub_nil)))))))) rfl (Nat.zero_le _) ?_
      rintro ⟨k, fa, fq, us⟩ hinv KL46 hKL46
      simp only [updL, List.foldl_cons, List.foldl_nil, List.set_cons_succ, List.set_cons_zero, List.cons_append, List.nil_append] at hinv hKL46 ⊢
      have hk := hinv
      refine gc_seq fun K47 hK47 => ?_
      refine gc_seq fun K48 hK48 => ?_
      refine gc_draw (by kernel_rfl) ?_
      refine gd_v (.free rfl) rfl rfl (qt_move rfl rfl) ?_
      refine gd_v (.free rfl) rfl rfl (qt_move rfl rfl) ?_
      refine gd_v (.free rfl) rfl rfl (qt_len rfl rfl ulE1 (fun w M => lenV_own1 (n := 4) rfl M)) ?_
      refine gd_v (.free rfl) rfl rfl (qt_lss rfl rfl rfl) ?_
      refine gd_splitv (.free rfl) rfl rfl (qt_move rfl rfl) (fun hs11_4 => ?_) (fun hs11_4 => ?_)
      · try simp only [decide_eq_true_eq, decide_eq_false_iff_not, Bool.not_eq_true', Bool.not_eq_false', Bool.not_eq_eq_eq_not, Bool.not_true, Bool.not_false, ne_eq, Decidable.not_not, Classical.not_not] at hs11_4
        refine gd_v (.held _ _ _ rfl rfl rfl) rfl rfl (qt_move rfl rfl) ?_
        refine gd_v (.held _ _ _ rfl rfl rfl) rfl rfl (qt_nilP rfl rfl) ?_
        refine gd_v (.held _ _ _ rfl rfl rfl) rfl rfl (qt_field (z := 0) (off := 26) rfl rfl Tryd.underlying106 rfl (by kernel_rfl) rfl) ?_
        refine gd_v (.held _ _ _ rfl rfl rfl) rfl rfl (qt_loadB (n := 0) rfl rfl Tryd.underlying23 rfl rfl rfl) ?_
        refine gd_v (.held _ _ _ rfl rfl rfl) rfl rfl (qt_len rfl rfl ulE2 (fun w M => lenV_U (n := 1) rfl M)) ?_
        refine gd_v (.held _ _ _ rfl rfl rfl) rfl rfl (qt_move rfl rfl) ?_
        refine gd_v (.held _ _ _ rfl rfl rfl) rfl rfl (qt_nilP rfl rfl) ?_
        refine gd_v (.held _ _ _ rfl rfl rfl) rfl rfl (qt_field (z := 0) (off := 25) rfl rfl Tryd.underlying106 rfl (by kernel_rfl) rfl) ?_
        refine gd_v (.held _ _ _ rfl rfl rfl) rfl rfl (qt_loadB (n := 0) rfl rfl Tryd.underlying3 rfl rfl rfl) ?_
        refine gd_v (.held _ _ _ rfl rfl rfl) rfl rfl (qt_lss rfl rfl rfl) ?_
        refine gd_v (.free rfl) rfl rfl (qt_pick_t rfl rfl rfl) ?_
        refine gd_nil ?_
        refine gk_then (hK48 _ _ ?_)
        refine gc_cond rfl (fun hc4 => ?_) (fun hc4 => ?_)
        · try simp only [decide_eq_true_eq, decide_eq_false_iff_not, Bool.not_eq_true', Bool.not_eq_false', Bool.not_eq_eq_eq_not, Bool.not_true, Bool.not_false, ne_eq, Decidable.not_not, Classical.not_not] at hc4
          refine gc_skip ?_
          refine gk_then (hK47 _ _ ?_)
          refine gc_seq fun K49 hK49 => ?_
          refine gc_block ?_
          refine gc_seq fun K50 hK50 => ?_
          refine gc_region ?_
          refine g_v (.free rfl) rfl rfl (qt_move rfl rfl) ?_
          refine g_op (.free rfl) fun K52 hK52 => ?_
          refine go_callL rfl rfl rfl Tryd.func84 rfl (by decide) rfl (fun w M => specOwn_any w _ _ ((mem_own1 (n := 2) M rfl).rd)) ?_
          intro va51 vc51
          refine hK52 _ _ ?_
          refine g_v (.free rfl) rfl rfl (qt_assign rfl rfl) ?_
          refine g_nil ?_
          refine gk_then (hK50 _ _ ?_)
          refine gc_seq fun K53 hK53 => ?_
          refine gc_region ?_
          refine g_v (.free rfl) rfl rfl (qt_move rfl rfl) ?_
          refine g_v (.free rfl) rfl rfl (qt_move rfl rfl) ?_
          refine g_v (.free rfl) rfl rfl (qt_move rfl rfl) ?_
          refine g_v (.free rfl) rfl rfl (qt_move rfl rfl) ?_
          refine g_v (.free rfl) rfl rfl (qt_index rfl rfl rfl ulE1 szE1 (fun w M => lenA_own1 (n := 4) rfl M) (by omega) (by omega)) ?_
          refine g_v (.free rfl) rfl rfl (qt_load1 rfl rfl Tryd.underlying2 rfl (fun w M => (mem_own1 (n := 4) M rfl).rd) (by omega) (by omega)) ?_
          refine g_v (.free rfl) rfl rfl (qt_index rfl rfl rfl ulE1 szE1 (fun w M => lenA_own1 (n := 5) rfl M) (by omega) (by omega)) ?_
          refine g_op (.free rfl) fun K54 hK54 => ?_
          refine go_store1 (n := 5) rfl rfl rfl rfl (by kernel_rfl) rfl (by omega) (by omega) ?_
          refine hK54 _ _ ?_
          refine g_nil ?_
          refine gk_then (hK53 _ _ ?_)
          simp only [Int.toNat_natCast]
          refine gc_region ?_
          refine g_v (.free rfl) rfl rfl (qt_move rfl rfl) ?_
          refine g_v (.free rfl) rfl rfl (qt_move rfl rfl) ?_
          refine g_op (.free rfl) fun K56 hK56 => ?_
          refine go_callGo (m := 3) (cs := (stOf [.int .i64 F.S.ob, .slice vx1 F.S.s.length vk1, .slice vx2 F.S.t.length vk2, .slice vx3 F.S.e.length vk3, .slice vx4 F.S.m.length vk4, .int .i64 F.T.ob, .slice vx5 F.T.s.length vk5, .slice vx6 F.T.t.length vk6, .slice vx7 F.T.e.length vk7, .slice vx8 F.T.m.length vk8, .slice vx9 F.o.length vk9, .slice vx10 F.a.length vk10, .int .i64 G.S.ob, .slice ux1 G.S.s.length uk1, .slice ux2 G.S.t.length uk2, .slice ux3 G.S.e.length uk3, .slice ux4 G.S.m.length uk4, .int .i64 G.T.ob, .slice ux5 G.T.s.length uk5, .slice ux6 G.T.t.length uk6, .slice ux7 G.T.e.length uk7, .slice ux8 G.T.m.length uk8, .slice ux9 G.o.length uk9, .slice ux10 G.a.length uk10] iso mo)) rfl rfl rfl Tryd.func75 rfl (by decide) rfl rfl (fun R w M => ih _ (cnt_set hn h1n (sea_next hs hn (by omega)).2) w _ _ R (sea_next hs hn (by omega)).1 (by omega) M) ?_
          intro fa55 fq55 us55
          refine hK56 _ _ ?_
          refine g_nil ?_
          refine gk_block ?_
          refine gk_then (hK49 _ _ ?_)
          refine gc_region ?_
          refine g_v (.free rfl) rfl rfl (qt_move rfl rfl) ?_
          refine g_v (.free rfl) rfl rfl (qt_add rfl rfl rfl (by omega)) ?_
          refine g_v (.free rfl) rfl rfl (qt_assign rfl rfl) ?_
          refine g_nil ?_
          rw [rowK_next (by omega) (by omega)]
          refine gk_then (gk_take 5 ?_)
          refine gk_sub ?hs_57 (hKL46 (k + 1, _, _, _) ?hi_57 ?hm_57)
          case hs_57 => exact (sub_cons rfl (sub_cons rfl (sub_cons rfl (sub_cons rfl (sub_cons rfl (sub_cons rfl (sub_cons rfl (sub_cons rfl sub_nil))))))))
          case hi_57 => omega
          case hm_57 => omega
        · try simp only [decide_eq_true_eq, decide_eq_false_iff_not, Bool.not_eq_true', Bool.not_eq_false', Bool.not_eq_eq_eq_not, Bool.not_true, Bool.not_false, ne_eq, Decidable.not_not, Classical.not_not] at hc4
          refine gc_exit ?_
          refine gk_then_exit ?_
          refine gk_then_exit ?_
          refine gk_block_hit ?_
          refine ret_0n rfl (fun w M => ?_)
          obtain rfl : m = 0 := by omega
          try simp only [List.nil_append, List.cons_append, List.append_assoc, List.set_cons_succ, List.set_cons_zero] at M
          rw [rowK_0]
          rw [← rowK_end (k := k) hs.hA hn h1n hbn (by omega)]
          exact ⟨rfl, mem_take 3 (st_in (cs := (stOf [.int .i64 F.S.ob, .slice vx1 F.S.s.length vk1, .slice vx2 F.S.t.length vk2, .slice vx3 F.S.e.length vk3, .slice vx4 F.S.m.length vk4, .int .i64 F.T.ob, .slice vx5 F.T.s.length vk5, .slice vx6 F.T.t.length vk6, .slice vx7 F.T.e.length vk7, .slice vx8 F.T.m.length vk8, .slice vx9 F.o.length vk9, .slice vx10 F.a.length vk10, .int .i64 G.S.ob, .slice ux1 G.S.s.length uk1, .slice ux2 G.S.t.length uk2, .slice ux3 G.S.e.length uk3, .slice ux4 G.S.m.length uk4, .int .i64 G.T.ob, .slice ux5 G.T.s.length uk5, .slice ux6 G.T.t.length uk6, .slice ux7 G.T.e.length uk7, .slice ux8 G.T.m.length uk8, .slice ux9 G.o.length uk9, .slice ux10 G.a.length uk10] iso mo)) M)⟩
      · try simp only [decide_eq_true_eq, decide_eq_false_iff_not, Bool.not_eq_true', Bool.not_eq_false', Bool.not_eq_eq_eq_not, Bool.not_true, Bool.not_false, ne_eq, Decidable.not_not, Classical.not_not] at hs11_4
        refine gd_skip (.not _ _ _ _ rfl rfl rfl rfl) rfl rfl ?_
        refine gd_skip (.not _ _ _ _ rfl rfl rfl rfl) rfl rfl ?_
        refine gd_skip (.not _ _ _ _ rfl rfl rfl rfl) rfl rfl ?_
        refine gd_skip (.not _ _ _ _ rfl rfl rfl rfl) rfl rfl ?_
        refine gd_skip (.not _ _ _ _ rfl rfl rfl rfl) rfl rfl ?_
        refine gd_skip (.not _ _ _ _ rfl rfl rfl rfl) rfl rfl ?_
        refine gd_skip (.not _ _ _ _ rfl rfl rfl rfl) rfl rfl ?_
        refine gd_skip (.not _ _ _ _ rfl rfl rfl rfl) rfl rfl ?_
        refine gd_skip (.not _ _ _ _ rfl rfl rfl rfl) rfl rfl ?_
        refine gd_skip (.not _ _ _ _ rfl rfl rfl rfl) rfl rfl ?_
        refine gd_v (.free rfl) rfl rfl (qt_pick_f rfl rfl rfl) ?_
        refine gd_nil ?_
        refine gk_then (hK48 _ _ ?_)
        refine gc_cond_f rfl ?_
        refine gc_exit ?_
        refine gk_then_exit ?_
        refine gk_then_exit ?_
        refine gk_block_hit ?_
        refine ret_0n rfl (fun w M => ?_)
        obtain rfl : m = 0 := by omega
        try simp only [List.nil_append, List.cons_append, List.append_assoc, List.set_cons_succ, List.set_cons_zero] at M
        rw [rowK_0]
        rw [← rowK_end (k := k) hs.hA hn h1n hbn (by omega)]
        exact ⟨rfl, mem_take 3 (st_in (cs := (stOf [.int .i64 F.S.ob, .slice vx1 F.S.s.length vk1, .slice vx2 F.S.t.length vk2, .slice vx3 F.S.e.length vk3, .slice vx4 F.S.m.length vk4, .int .i64 F.T.ob, .slice vx5 F.T.s.length vk5, .slice vx6 F.T.t.length vk6, .slice vx7 F.T.e.length vk7, .slice vx8 F.T.m.length vk8, .slice vx9 F.o.length vk9, .slice vx10 F.a.length vk10, .int .i64 G.S.ob, .slice ux1 G.S.s.length uk1, .slice ux2 G.S.t.length uk2, .slice ux3 G.S.e.length uk3, .slice ux4 G.S.m.length uk4, .int .i64 G.T.ob, .slice ux5 G.T.s.length uk5, .slice ux6 G.T.t.length uk6, .slice ux7 G.T.e.length uk7, .slice ux8 G.T.m.length uk8, .slice ux9 G.o.length uk9, .slice ux10 G.a.length uk10] iso mo)) M)⟩
theorem go_all {w0 : World} {B : Nat} {vx1 vx2 vx3 vx4 vx5 vx6 vx7 vx8 vx9 vx10 : Option Addr} {vk1 vk2 vk3 vk4 vk5 vk6 vk7 vk8 vk9 vk10 : Nat} {ux1 ux2 ux3 ux4 ux5 ux6 ux7 ux8 ux9 ux10 : Option Addr} {uk1 uk2 uk3 uk4 uk5 uk6 uk7 uk8 uk9 uk10 : Nat} {F G : Fct} {iso : Bool} {mo : Int} (h : RdF w0 (.agg #[.int .i64 F.S.ob, .slice vx1 F.S.s.length vk1, .slice vx2 F.S.t.length vk2, .slice vx3 F.S.e.length vk3, .slice vx4 F.S.m.length vk4, .int .i64 F.T.ob, .slice vx5 F.T.s.length vk5, .slice vx6 F.T.t.length vk6, .slice vx7 F.T.e.length vk7, .slice vx8 F.T.m.length vk8, .slice vx9 F.o.length vk9, .slice vx10 F.a.length vk10]) F) (e : RdF w0 (.agg #[.int .i64 G.S.ob, .slice ux1 G.S.s.length uk1, .slice ux2 G.S.t.length uk2, .slice ux3 G.S.e.length uk3, .slice ux4 G.S.m.length uk4, .int .i64 G.T.ob, .slice ux5 G.T.s.length uk5, .slice ux6 G.T.t.length uk6, .slice ux7 G.T.e.length uk7, .slice ux8 G.T.m.length uk8, .slice ux9 G.o.length uk9, .slice ux10 G.a.length uk10]) G) (hF : IsFct F) (hG : IsFct G) (hp : ParP F G) (hm9 : mo ≤ 1000) : ∀ (m : Nat) (c : List Int), c.count (-1) < m → GoOK w0 B [.int .i64 F.S.ob, .slice vx1 F.S.s.length vk1, .slice vx2 F.S.t.length vk2, .slice vx3 F.S.e.length vk3, .slice vx4 F.S.m.length vk4, .int .i64 F.T.ob, .slice vx5 F.T.s.length vk5, .slice vx6 F.T.t.length vk6, .slice vx7 F.T.e.length vk7, .slice vx8 F.T.m.length vk8, .slice vx9 F.o.length vk9, .slice vx10 F.a.length vk10, .int .i64 G.S.ob, .slice ux1 G.S.s.length uk1, .slice ux2 G.S.t.length uk2, .slice ux3 G.S.e.length uk3, .slice ux4 G.S.m.length uk4, .int .i64 G.T.ob, .slice ux5 G.T.s.length uk5, .slice ux6 G.T.t.length uk6, .slice ux7 G.T.e.length uk7, .slice ux8 G.T.m.length uk8, .slice ux9 G.o.length uk9, .slice ux10 G.a.length uk10] F G iso mo c
  | 0, _, h => absurd h (by omega)
  | m + 1, c, hc => fun w nv rows R hs hm M => by
    obtain ⟨a, q, us, M'⟩ := st_out M
    exact go_step w0 w B vx1 vx2 vx3 vx4 vx5 vx6 vx7 vx8 vx9 vx10 vk1 vk2 vk3 vk4 vk5 vk6 vk7 vk8 vk9 vk10 ux1 ux2 ux3 ux4 ux5 ux6 ux7 ux8 ux9 ux10 uk1 uk2 uk3 uk4 uk5 uk6 uk7 uk8 uk9 uk10 F G iso mo c a q us rows nv R h e hF hG hp hs hm hm9 (fun c2 h2 => go_all h e hF hG hp hm9 m c2 (by omega)) M'
section
variable {w0 : World} {is : List Itm} {ops : Array Oper} {Q : Exit → Act → World → Prop} {o : Oper} {rest : List Oper} {N : Frm} {e : Env} {v : Value} {d : Nat} {K : Act → World → Prop} {f : FuncId} {fn : Func} {ags : Array Operand} {ts : Array TypeId} {vs : List Value}
theorem go_callGoP (n m : Nat) {B q : Nat} (cs : List Value) {rows rows' : List (List Int)} {a : Option Addr} {us : List Value} {tl : List Itm} {nv : Value} {c : List Int} (hd : o.dst = some d) (hN : Nat.blt d N = true) (hop : o.op = .call { callee := .value (.func f), args := ags, argTypes := ts }) (hfn : Tryd.prog.funcs[f]? = some fn) (hb : fn.body.isNone = false) (hnm : (fn.name == "runtime.NumGoroutine") = false)
    (hargs : evoL e ags.toList = some vs) (hp1 : is.Perm (bxI B 106 (cs ++ [.slice a rows.length q]) :: own2U (.slice a rows.length q) us rows :: own1I nv c :: tl))
    (hp2 : ∀ a q us, ((is.set n (bxI B 106 (cs ++ [.slice a rows'.length q]))).set m (own2U (.slice a rows'.length q) us rows')).Perm (bxI B 106 (cs ++ [.slice a rows'.length q]) :: own2U (.slice a rows'.length q) us rows' :: own1I nv c :: tl))
    (hc : ∀ (R : Itm) w, Mem w0 w [stI B cs rows, own1I nv c, R] → Calls Tryd.prog f vs.toArray w (GoE w0 [stI B cs rows', own1I nv c, R]))
    (hk : ∀ a q us, GK w0 ((is.set n (bxI B 106 (cs ++ [.slice a rows'.length q]))).set m (own2U (.slice a rows'.length q) us rows')) N K ((d, .tuple #[]) :: e)) : GO w0 is N o e Q K := by
  intro w ac M F
  refine go_call hd hN F hop hfn hb hnm hargs (hc _ w (mem_look2_out (n := 0) (m := 0) (st_in (mem_perm hp1 M)) rfl rfl)) fun e' w' hR => ?_
  obtain ⟨rfl, M'⟩ := hR
  have M2 := mem_look2_in (is := stI B cs rows :: own1I nv c :: tl) (n := 0) (m := 0) (by simp) rfl M'
  obtain ⟨a', q', us', M3⟩ := st_out M2
  exact ⟨_, rfl, fun ac F => hk a' q' us' w' ac (mem_perm (hp2 a' q' us').symm M3) F⟩
end
end Go.Proofs.YtfnneogadciimaaDoor
