import Derived.Laws.Bits64b
import Derived.StillTailTactics
import Derived.Test.YtbiplocgenppoaaS1
import Derived.Test.YtbiplocgenppoaaS10
import Derived.Test.YtbiplocgenppoaaS12
import Derived.RangeFuncNested
import Derived.Test.YtbiplocgenppoaaS4
set_option maxHeartbeats 800000
set_option maxRecDepth 100000
set_option linter.unusedSimpArgs false
set_option linter.unusedVariables false
set_option linter.unusedSectionVars false
namespace Go.Proofs.Ytbiplocgenppoaa
open _root_.Go.Proofs.Try
open Go.RowKit
theorem u64_nat (z : Int) : ∃ y : Nat, IntKind.u64.wrap z = (y : Int) ∧ y < 18446744073709551616 := by
  have h : IntKind.u64.wrap z = z % 18446744073709551616 := rfl
  refine ⟨(z % 18446744073709551616).toNat, by rw [h]; omega, by omega⟩
theorem mask24 (y : Nat) (hy : y < 18446744073709551616) : ∃ m : Nat, bits .and .u64 ((y : Int) / 8589934592) 16777215 = (m : Int) ∧ m ≤ 16777215 := by
  refine ⟨(y / 8589934592) &&& 16777215, ?_, Nat.and_le_right⟩
  have := bits_and_u64_nat (y / 8589934592) 16777215 (by omega) (by omega)
  simpa using this
theorem src_put {w : World} {g i : Nat} {u : Value} {cs : Array Value} {t : TypeId} (hg : w.heap[g]? = some (.cells cs t (0, 0))) : w.grownBy (w.setCell ⟨g, i, none⟩ u) (some g) :=
  ⟨rfl, rfl, rfl, by simp, fun k _ hk => heap_setCell_other w ⟨g, i, none⟩ k u (fun e => hk (by rw [e]))⟩
def InB (w : World) (v : Value) : Prop :=
  ∃ (a : Option Addr) (len cap : Nat), v = .slice a len cap ∧ len ≤ 9223372036854775807 ∧
    ∀ j, j < len → ∃ b off, a = some ⟨b, off, none⟩ ∧ b < w.heap.size ∧ ∀ i, i < len → ∃ x : Int, w.cell? ⟨b, off + i, none⟩ = some (.int .u8 x) ∧ 0 ≤ x ∧ x < 256
theorem inb_below {w w' : World} {v : Value} (hb : Below w.heap.size w w') (h : InB w v) : InB w' v := by
  obtain ⟨a, len, cap, hv, hl, hc⟩ := h
  refine ⟨a, len, cap, hv, hl, fun j hj => ?_⟩
  obtain ⟨b, off, ha, hbs, hcell⟩ := hc j hj
  refine ⟨b, off, ha, Nat.lt_of_lt_of_le hbs hb.size, fun i hi => ?_⟩
  obtain ⟨x, hx, hx0, hx1⟩ := hcell i hi
  exact ⟨x, (hb.cell (p := ⟨b, off + i, none⟩) hbs).trans hx, hx0, hx1⟩
theorem code_up {w w' : World} {a : Option Addr} {len : Nat} (hb : Below w.heap.size w w')
    (hc : ∀ j, j < len → ∃ b off, a = some ⟨b, off, none⟩ ∧ b < w.heap.size ∧ ∀ i, i < len → ∃ x : Int, w.cell? ⟨b, off + i, none⟩ = some (.int .u8 x) ∧ 0 ≤ x ∧ x < 256) :
    ∀ j, j < len → ∃ b off, a = some ⟨b, off, none⟩ ∧ b < w.heap.size ∧ ∀ i, i < len → ∃ x : Int, w'.cell? ⟨b, off + i, none⟩ = some (.int .u8 x) ∧ 0 ≤ x ∧ x < 256 := fun j hj => by
  obtain ⟨b, off, ha, hbs, hcell⟩ := hc j hj
  refine ⟨b, off, ha, hbs, fun i hi => ?_⟩
  obtain ⟨x, hx, hx0, hx1⟩ := hcell i hi
  exact ⟨x, (hb.cell (p := ⟨b, off + i, none⟩) hbs).trans hx, hx0, hx1⟩
theorem below_src {w a b : World} {g : Nat} (h : Below w.heap.size w a) (hg : w.heap.size ≤ g) (k : a.grownBy b (some g)) : Below w.heap.size w b :=
  h.grown k h.size fun j hj => by have : g = j := by simpa using hj
                                  omega
end Go.Proofs.Ytbiplocgenppoaa
namespace Go.Proofs.Ytbiplocgenppoaa
open _root_.Go.Proofs.Try
open Go.RowKit
def SrcX (a : Option Addr) (len cap : Nat) (w : World) (g : Nat) (v : Value) : Prop :=
  ∃ (p : Nat) (h : Int), v = .pointer (some ⟨g, 0, none⟩) ∧ w.heap[g]? = some (.cells #[.slice a len cap, .int .i64 p, .int .u64 h] 81 (0, 0)) ∧
    len ≤ 9223372036854775807 ∧ p ≤ len ∧ 0 ≤ h ∧ h < 18446744073709551616 ∧
    ∀ j, j < len → ∃ b off, a = some ⟨b, off, none⟩ ∧ b < g ∧ ∀ i, i < len → ∃ x : Int, w.cell? ⟨b, off + i, none⟩ = some (.int .u8 x) ∧ 0 ≤ x ∧ x < 256
theorem src_reX {w w' : World} {g len cap p : Nat} {a : Option Addr} {h : Int} (hgr : w.grownBy w' (some g)) (hg : w'.heap[g]? = some (.cells #[.slice a len cap, .int .i64 p, .int .u64 h] 81 (0, 0)))
    (hl : len ≤ 9223372036854775807) (hp : p ≤ len) (h0 : 0 ≤ h) (h1 : h < 18446744073709551616)
    (hc : ∀ j, j < len → ∃ b off, a = some ⟨b, off, none⟩ ∧ b < g ∧ ∀ i, i < len → ∃ x : Int, w.cell? ⟨b, off + i, none⟩ = some (.int .u8 x) ∧ 0 ≤ x ∧ x < 256) : SrcX a len cap w' g (.pointer (some ⟨g, 0, none⟩)) := by
  refine ⟨p, h, rfl, hg, hl, hp, h0, h1, fun j hj => ?_⟩
  obtain ⟨b, off, ha, hb, hcell⟩ := hc j hj
  refine ⟨b, off, ha, hb, fun i hi => ?_⟩
  obtain ⟨x, hx, hx0, hx1⟩ := hcell i hi
  exact ⟨x, hgr.cell hx (by simp; omega), hx0, hx1⟩
theorem next_anyX (a : Option Addr) (len cap : Nat) (w : World) (g : Nat) (v : Value) (n : Int) (h : SrcX a len cap w g v) (hn : n ≤ 9223372036854775807) :
    Calls Try.prog 51 #[v, .int .i64 n] w (fun e w' => ∃ r : Int, e = .returned (.int .i64 r) ∧ 0 ≤ r ∧ (r < n ∨ r = 0) ∧ SrcX a len cap w' g v ∧ w.grownBy w' (some g)) := by
  have H := h
  obtain ⟨p, x, rfl, hg, hl, hp, hx0, hx1, hc⟩ := h
  by_cases h1 : n < 1
  · clear hg hc
    have H := Lib.hid H
    go_enter func51, Try.ntmps51
    go_wp2
    go_ret
    exact ⟨0, rfl, by omega, .inr rfl, H.out, grown_refl _ _⟩
  have HC := Lib.hid hc; clear hc H
  have c2 : w.cell? ⟨g, 2, none⟩ = some (.int .u64 x) := by rw [cell_of_row w g 2 _ _ (0, 0) hg]; rfl
  have fr := frozen_of_row w g 2 _ _ hg
  obtain ⟨y, hy, hy1⟩ := u64_nat (IntKind.u64.wrap (x * 6364136223846793005) + 1442695040888963407)
  obtain ⟨m, hm, hm1⟩ := mask24 y hy1
  have hm2 := Go.IntWalk.wrap64_in (m : Int) ⟨by omega, by omega⟩
  have HG := Lib.hid hg; clear hg
  go_enter func51, Try.ntmps51
  go_wp2
  have hg1 : (w.setCell ⟨g, 2, none⟩ (.int .u64 (y : Int))).heap[g]? = some (.cells #[.slice a len cap, .int .i64 p, .int .u64 y] 81 (0, 0)) := heap_setCell_same w g 2 _ _ _ HG.out
  have hgr := src_put (i := 2) (u := .int .u64 (y : Int)) HG.out
  generalize w.setCell ⟨g, 2, none⟩ (.int .u64 (y : Int)) = w1 at hg1 hgr ⊢
  clear fr c2 hy hm hm2
  have d0 : w1.cell? ⟨g, 0, none⟩ = some (.slice a len cap) := by rw [cell_of_row w1 g 0 _ _ (0, 0) hg1]; rfl
  have d1 : w1.cell? ⟨g, 1, none⟩ = some (.int .i64 p) := by rw [cell_of_row w1 g 1 _ _ (0, 0) hg1]; rfl
  have fr := frozen_of_row w1 g 1 _ _ hg1
  have HG1 := Lib.hid hg1; have HGR := Lib.hid hgr; clear hg1 hgr
  by_cases hlt : p < len
  · obtain ⟨b, off, rfl, hb, hcell⟩ := HC.out p hlt
    obtain ⟨z, hz, hz0, hz1⟩ := hcell p hlt
    have d2 : w1.cell? ⟨b, off + p, none⟩ = some (.int .u8 z) := HGR.out.cell hz (by simp; omega)
    have hz2 := Go.IntWalk.wrap64_in z ⟨by omega, by omega⟩
    have hz3 := Go.IntWalk.wrap64_in (m + z) ⟨by omega, by omega⟩
    clear hcell
    go_quiet (fail)
    go_wp2
    go_quiet (fail)
    go_wp2
    go_ret
    have hgr := fun q => grown_trans (grown_quiet HGR.out q) (src_put (w := w1.drewN q) (i := 1) (u := .int .i64 ((p : Int) + 1)) HG1.out)
    exact ⟨_, rfl, Int.emod_nonneg _ (by omega), .inl (Int.emod_lt_of_pos _ (by omega)), src_reX (hgr _) (p := p + 1) (heap_setCell_same _ g 1 _ _ _ HG1.out) hl hlt (Int.natCast_nonneg y) (by omega) HC.out, hgr _⟩
  go_quiet (fail)
  go_wp2
  go_ret
  have hgr := fun q => grown_quiet HGR.out q
  exact ⟨_, rfl, Int.emod_nonneg _ (by omega), .inl (Int.emod_lt_of_pos _ (by omega)), src_reX (hgr _) HG1.out hl hp (Int.natCast_nonneg y) (by omega) HC.out, hgr _⟩
theorem pick_anyX (a : Option Addr) (len cap : Nat) (w : World) (g : Nat) (v u : Value) (xs : List Int) (h : SrcX a len cap w g v) (hu : Rd w u xs) (hne : 0 < xs.length) (hq : u.ownBlock ≠ some g) :
    Calls Try.prog 52 #[v, u] w (fun e w' => ∃ r : Int, e = .returned (.int .i64 r) ∧ r ∈ xs ∧ SrcX a len cap w' g v ∧ w.grownBy w' (some g)) := by
  obtain ⟨a2, cap2, rfl, hl, hc⟩ := hu
  obtain ⟨b, off, rfl, hb, hcell⟩ := hc 0 hne
  have hne2 : b ≠ g := fun e => hq (by rw [e]; rfl)
  have HC := Lib.hid hcell; clear hcell hc hq
  go_enter func52, Try.ntmps52
  go_wp2_with fail
  refine (next_anyX _ _ _ _ g _ _ h (by omega)).mono ?_; rintro e w1 ⟨r, rfl, hr0, hr1, hs, hgr⟩
  obtain ⟨k, rfl⟩ := Int.eq_ofNat_of_zero_le hr0
  have hk : k < xs.length := by omega
  have c1 : w1.cell? ⟨b, off + k, none⟩ = some (.int .i64 (xs.getD k 0)) := hgr.cell (HC.out k hk) (by simp; omega)
  clear hr1
  go_wp2
  go_ret
  exact ⟨_, rfl, by simp, hs, hgr⟩
theorem from_anyX (a : Option Addr) (len cap : Nat) (w : World) (h : InB w (.slice a len cap)) :
    Calls Try.prog 22 #[.slice a len cap] w (fun e w' => ∃ (g : Nat) (y : Value), e = .returned y ∧ SrcX a len cap w' g y ∧ w.heap.size ≤ g ∧ Below w.heap.size w w') := by
  obtain ⟨a3, len3, cap3, he, hl, hc⟩ := h
  simp only [Value.slice.injEq] at he
  obtain ⟨rfl, rfl, rfl⟩ := he
  have HC := Lib.hid hc; clear hc
  go_enter func22, Try.ntmps22
  go_wp2
  go_loopw [4] (fun i wr => ∃ (k : Nat) (x : Int), i = .int .i64 k ∧ k ≤ len ∧ k ≤ 4096 ∧ wr.heap[w.heap.size]? = some (.cells #[.slice a len cap, .int .i64 0, .int .u64 x] 81 (0, 0)) ∧ 0 ≤ x ∧ x < 18446744073709551616 ∧ Below w.heap.size w wr) (fun i _ => 4097 - (intOf i).toNat)
  case atStart => exact ⟨0, 7019 + (len : Int), rfl, Nat.zero_le _, by omega, Array.getElem?_push_size, by omega, by omega, (Below.refl _ _).alloc (Nat.le_refl _) _⟩
  case round =>
    obtain ⟨k, x, rfl, hk, hk2, hg, hx0, hx1, hbel⟩ := hrel
    by_cases h1 : k < len
    · by_cases h2 : k < 4096
      · obtain ⟨b, off, rfl, hb, hcell⟩ := HC.out k h1
        obtain ⟨z, hz, hz0, hz1⟩ := hcell k h1
        have c1 : wr.cell? ⟨b, off + k, none⟩ = some (.int .u8 z) := (hbel.cell (p := ⟨b, off + k, none⟩) hb).trans hz
        have c2 : wr.cell? ⟨w.heap.size, 2, none⟩ = some (.int .u64 x) := by rw [cell_of_row wr _ 2 _ _ (0, 0) hg]; rfl
        have fr := frozen_of_row wr w.heap.size 2 _ _ hg
        obtain ⟨y, hy, hy1⟩ := u64_nat (IntKind.u64.wrap (IntKind.u64.wrap (x * 1099511628211) + z) + 7)
        have HG := Lib.hid hg
        clear hcell hz hg
        go_wp2
        go_still_tail 13, (by kernel_rfl)
        go_wp2
        go_roundw
        case rel => exact ⟨k + 1, (y : Int), by go_num, h1, h2, heap_setCell_same wr w.heap.size 2 _ _ _ HG.out, Int.natCast_nonneg y, by omega, (hbel.setCell (Nat.le_refl _) _).drew⟩
        case measure => simp [intOf]; omega
      have HG := Lib.hid hg; clear hg
      go_wp2
      go_ret
      exact ⟨w.heap.size, _, rfl, ⟨0, x, rfl, HG.out, hl, Nat.zero_le _, hx0, hx1, code_up hbel HC.out⟩, Nat.le_refl _, hbel⟩
    have HG := Lib.hid hg; clear hg
    go_wp2
    go_ret
    exact ⟨w.heap.size, _, rfl, ⟨0, x, rfl, HG.out, hl, Nat.zero_le _, hx0, hx1, code_up hbel HC.out⟩, Nat.le_refl _, hbel⟩
def SrcS (ca : Option Addr) (cl cc g : Nat) (w : World) (S : Nat → Prop) : Prop := S g ∧ ∃ (p : Nat) (h : Int), w.heap[g]? = some (.cells #[.slice ca cl cc, .int .i64 p, .int .u64 h] 81 (0, 0)) ∧ p ≤ cl ∧ 0 ≤ h ∧ h < 18446744073709551616
theorem srcS_loc (ca : Option Addr) (cl cc g : Nat) : Loc (SrcS ca cl cc g) where
  keep hs ha h := by
    obtain ⟨h1, p, x, hg, r⟩ := h
    have hlt := (Array.getElem?_eq_some_iff.1 hg).1
    exact ⟨hs g hlt h1, p, x, by rw [ha g hlt h1]; exact hg, r⟩
def srcI (ca : Option Addr) (cl cc g : Nat) : Itm := ⟨_, srcS_loc ca cl cc g⟩
section
variable {w0 w w' : World} {is : List Itm} {n : Nat} {ca : Option Addr} {cl cc g : Nat}
theorem src_get (hI : InB w0 (.slice ca cl cc)) (M : Mem w0 w is) (h : is[n]? = some (srcI ca cl cc g)) : SrcX ca cl cc w g (.pointer (some ⟨g, 0, none⟩)) ∧ w0.heap.size ≤ g := by
  obtain ⟨S, hS, hp⟩ := mem_get M h
  obtain ⟨h1, p, x, hg, hp1, hx0, hx1⟩ := (hp : SrcS ca cl cc g w S)
  obtain ⟨a3, l3, c3, he, hl, hc⟩ := hI
  simp only [Value.slice.injEq] at he
  obtain ⟨rfl, rfl, rfl⟩ := he
  have hgs := hS g h1
  refine ⟨⟨p, x, rfl, hg, hl, hp1, hx0, hx1, fun j hj => ?_⟩, hgs⟩
  obtain ⟨b, off, ha, hb, hcell⟩ := hc j hj
  refine ⟨b, off, ha, by omega, fun i hi => ?_⟩
  obtain ⟨z, hz, hz0, hz1⟩ := hcell i hi
  exact ⟨z, (M.1.cell (p := ⟨b, off + i, none⟩) hb).trans hz, hz0, hz1⟩
theorem srcS_of {S : Nat → Prop} (h : SrcX ca cl cc w g (.pointer (some ⟨g, 0, none⟩))) (hS : S g) : SrcS ca cl cc g w S := by
  obtain ⟨p, x, _, hg, _, hp, h0, h1, _⟩ := h
  exact ⟨hS, p, x, hg, hp, h0, h1⟩
theorem star_src {i : Itm} {S1 : Nat → Prop} : ∀ (is : List Itm) {n : Nat} {w : World} {S : Nat → Prop}, is[n]? = some (srcI ca cl cc g) → w.grownBy w' (some g) → SrcX ca cl cc w' g (.pointer (some ⟨g, 0, none⟩)) → Star is w S → Star is w' (fun k => S k ∧ k < w.heap.size)
  | [], n, _, _, h, _, _, _ => by simp at h
  | j :: is, 0, w, S, h, hg, hx, hs => by
    simp only [List.getElem?_cons_zero, Option.some.injEq] at h
    subst h
    obtain ⟨T1, T2, k1, k2, hd, h1, h2⟩ := hs
    have h1' : SrcS ca cl cc g w T1 := h1
    have hlt : g < w.heap.size := by obtain ⟨_, p, x, hgg, _⟩ := h1'; exact (Array.getElem?_eq_some_iff.1 hgg).1
    refine ⟨fun k => T1 k ∧ k < w.heap.size, fun k => T2 k ∧ k < w.heap.size, fun k h => ⟨k1 k h.1, h.2⟩, fun k h => ⟨k2 k h.1, h.2⟩, fun k a b => hd k a.1 b.1, (srcS_of hx ⟨h1'.1, hlt⟩ : SrcS ca cl cc g w' (fun k => T1 k ∧ k < w.heap.size)), ?_⟩
    exact star_keep is (fun k hk hs => ⟨hs, hk⟩) (fun k hk hs => hg.block k hk (fun e => hd g h1'.1 (by simp only [Option.some.injEq] at e; subst e; exact hs))) h2
  | j :: is, n + 1, w, S, h, hg, hx, hs => by
    obtain ⟨T1, T2, k1, k2, hd, h1, h2⟩ := hs
    have hh : is[n]? = some (srcI ca cl cc g) := by simpa using h
    obtain ⟨U, hU, hu⟩ := star_get is hh h2
    have hu' : SrcS ca cl cc g w U := hu
    refine ⟨fun k => T1 k ∧ k < w.heap.size, fun k => T2 k ∧ k < w.heap.size, fun k h => ⟨k1 k h.1, h.2⟩, fun k h => ⟨k2 k h.1, h.2⟩, fun k a b => hd k a.1 b.1, ?_, ?_⟩
    · exact j.loc.keep (fun k hk hs => ⟨hs, hk⟩) (fun k hk hs => hg.block k hk (fun e => hd k hs (by simp only [Option.some.injEq] at e; subst e; exact hU _ hu'.1))) h1
    exact star_src (i := i) (S1 := S1) is hh hg hx h2
theorem src_below (M : Mem w0 w is) (hg0 : w0.heap.size ≤ g) (hg : w.grownBy w' (some g)) : Below w0.heap.size w0 w' := below_src M.1 hg0 hg
theorem mem_src (M : Mem w0 w is) (h : is[n]? = some (srcI ca cl cc g)) (hg0 : w0.heap.size ≤ g) (hg : w.grownBy w' (some g)) (hx : SrcX ca cl cc w' g (.pointer (some ⟨g, 0, none⟩))) : Mem w0 w' is :=
  ⟨src_below M hg0 hg, star_keep is (fun k _ hk => hk.1) agree_refl (star_src (i := srcI ca cl cc g) (S1 := fun _ => True) is h hg hx M.2)⟩
end
section
variable {w0 : World} {is : List Itm} {Q : Exit → Act → World → Prop} {o : Oper} {N : Frm} {n : Nat} {e : Env} {d : Nat} {K : Act → World → Prop} {f : FuncId} {fn : Func} {ags : Array Operand} {ts : Array TypeId} {ca : Option Addr} {cl cc g : Nat}
theorem go_srcFrom (hd : o.dst = some d) (hN : Nat.blt d N = true) (hop : o.op = .call { callee := .value (.func 22), args := ags, argTypes := ts }) (hfn : Try.prog.funcs[22]? = some fn) (hb : fn.body.isNone = false) (hn : (fn.name == "runtime.NumGoroutine") = false)
    (hargs : evoL e ags.toList = some [.slice ca cl cc]) (hI : InB w0 (.slice ca cl cc))
    (hk : ∀ g : Nat, GK w0 (is ++ [srcI ca cl cc g]) N K ((d, .pointer (some ⟨g, 0, none⟩)) :: e)) : GO w0 is N o e Q K := by
  intro w a M F
  refine go_call hd hN F hop hfn hb hn hargs (from_anyX ca cl cc w (inb_below M.1 hI)) fun e' w' hR => ?_
  obtain ⟨g, y, rfl, hs, hg, hbl⟩ := hR
  have hs' := hs
  obtain ⟨p, x, rfl, hgg, _⟩ := hs'
  exact ⟨_, rfl, fun a F => hk g w' a (mem_new M hbl (srcS_of hs hg)) F⟩
theorem go_srcNext {k : Int} (hd : o.dst = some d) (hN : Nat.blt d N = true) (hop : o.op = .call { callee := .value (.func 51), args := ags, argTypes := ts }) (hfn : Try.prog.funcs[51]? = some fn) (hb : fn.body.isNone = false) (hn : (fn.name == "runtime.NumGoroutine") = false)
    (hargs : evoL e ags.toList = some [.pointer (some ⟨g, 0, none⟩), .int .i64 k]) (hI : InB w0 (.slice ca cl cc)) (hi : is[n]? = some (srcI ca cl cc g)) (hk0 : k ≤ 9223372036854775807)
    (hk : ∀ r : Nat, ((r : Int) < k ∨ (r : Int) = 0) → GK w0 is N K ((d, .int .i64 (r : Int)) :: e)) : GO w0 is N o e Q K := by
  intro w a M F
  have hs := src_get hI M hi
  refine go_call hd hN F hop hfn hb hn hargs (next_anyX ca cl cc w g _ k hs.1 hk0) fun e' w' hR => ?_
  obtain ⟨r, rfl, h0, h1, hs2, hgr⟩ := hR
  obtain ⟨r, rfl⟩ := Int.eq_ofNat_of_zero_le h0
  exact ⟨_, rfl, fun a F => hk r h1 w' a (mem_src M hi hs.2 hgr hs2) F⟩
end
end Go.Proofs.Ytbiplocgenppoaa
namespace Go.Proofs.Ytbiplocgenppoaa
open _root_.Go.Proofs.Try
open Go.RowKit
theorem mem_mid {w0 w : World} {i : Itm} {F J : List Itm} (M : Mem w0 w (i :: tailI F :: J)) : Mem w0 w (i :: F ++ J) := by
  have h1 : Mem w0 w ((i :: J) ++ [tailI F]) := mem_perm (List.Perm.cons i (List.perm_append_singleton (tailI F) J).symm) M
  have h2 := mem_tail_out h1
  refine mem_perm ?_ h2
  rw [List.cons_append, List.cons_append]
  exact List.Perm.cons i List.perm_append_comm
def RetM {α : Type} (w0 : World) (i : Itm) (F : List Itm) (P : α → Prop) (V : α → Value) (J : α → List Itm) (e : Ending) (w' : World) : Prop := ∃ x : α, P x ∧ e = .returned (V x) ∧ Mem w0 w' (i :: tailI F :: J x)
section
variable {w0 : World} {is : List Itm} {ops : Array Oper} {Q : Exit → Act → World → Prop} {o : Oper} {N : Frm} {e : Env} {d : Nat} {K : Act → World → Prop} {f : FuncId} {fn : Func} {ags : Array Operand} {ts : Array TypeId} {vs : List Value}
theorem go_callM {α : Type} {i : Itm} {F : List Itm} {P : α → Prop} {V : α → Value} {J : α → List Itm} (hd : o.dst = some d) (hN : Nat.blt d N = true) (hop : o.op = .call { callee := .value (.func f), args := ags, argTypes := ts }) (hfn : Try.prog.funcs[f]? = some fn) (hb : fn.body.isNone = false) (hn : (fn.name == "runtime.NumGoroutine") = false)
    (hargs : evoL e ags.toList = some vs) (his : is = i :: F) (hc : ∀ w, Mem w0 w [i, tailI F] → Calls Try.prog f vs.toArray w (RetM w0 i F P V J)) (hk : ∀ x, P x → GK w0 (i :: F ++ J x) N K ((d, V x) :: e)) : GO w0 is N o e Q K := by
  subst his
  intro w a M G
  refine go_call hd hN G hop hfn hb hn hargs (hc w (mem_tail_in (L := [i]) M)) fun e' w' hR => ?_
  obtain ⟨x, hx, rfl, M'⟩ := hR
  exact ⟨_, rfl, fun a G => hk x hx w' a (mem_mid M') G⟩
end
end Go.Proofs.Ytbiplocgenppoaa
namespace Go.Proofs.Ytbiplocgenppoaa
open _root_.Go.Proofs.Try
open Go.RowKit
section
variable {w0 : World} {is : List Itm} {Q : Exit → Act → World → Prop} {N : Frm} {e : Env}
section
variable {α β σ : Type} {g : Operand} {p gf : Nat} {assign body : Code} {fn : Func} {lb : List Value} {val : α → Value} {T : α → List Itm} {dec : α → β} {L : List β} {A B : List Itm}
  {ti : σ → List (Nat × Itm)} {inv : List α → σ → Prop} {invX : Code → List α → σ → Prop}
end
end
end Go.Proofs.Ytbiplocgenppoaa
namespace Go.Proofs.Ytbiplocgenppoaa
open _root_.Go.Proofs.Try
open Go.RowKit
section
variable {w0 : World} {is : List Itm} {ops : Array Oper} {Q : Exit → Act → World → Prop} {o : Oper} {rest : List Oper} {N : Frm} {e : Env} {v : Value} {d : Nat} {K : Act → World → Prop}
theorem go_slice3I {t : TypeId} {x0 x1 x2 : Operand} {y0 y1 y2 : Int} (hd : o.dst = some d) (hN : Nat.blt d N = true) (hop : o.op = .buildSlice t 3 #[(0, x0), (1, x1), (2, x2)]) (h0 : evo e x0 = some (.int .i64 y0)) (h1 : evo e x1 = some (.int .i64 y1)) (h2 : evo e x2 = some (.int .i64 y2)) (ht : Try.prog.underlying t = some (.slice 2))
    (hk : ∀ B : Nat, GK w0 (is ++ [own1I (.slice (some ⟨B, 0, none⟩) 3 3) [y0, y1, y2]]) N K ((d, .slice (some ⟨B, 0, none⟩) 3 3) :: e)) : GO w0 is N o e Q K := by
  intro w ac M F
  refine go_val (v := .slice (some ⟨w.heap.size, 0, none⟩) 3 3) (w' := w.alloc (.cells #[.int .i64 y0, .int .i64 y1, .int .i64 y2] 2)) hd hN F ?_ fun ac F => hk _ _ ac (mem_row (xs := [y0, y1, y2]) M (by simp)) F
  intro ρ F
  have h0 := F _ _ h0; have h1 := F _ _ h1; have h2 := F _ _ h2
  obtain ⟨i, hi, hz, hs, hb⟩ := info_parts info64
  have hr : Array.range 3 = #[0, 1, 2] := by apply Array.toList_inj.1; simp [List.range_succ]
  simp [execOp, hop, h0, h1, h2, Instr.buildSlice, run_underlying ht, sizeOf, typeInfo, hi, hs, Instr.fill, newRow, zeroValue, hz, Value.cells, Sem.run_bind, hr]
theorem go_slice4I {t : TypeId} {x0 x1 x2 x3 : Operand} {y0 y1 y2 y3 : Int} (hd : o.dst = some d) (hN : Nat.blt d N = true) (hop : o.op = .buildSlice t 4 #[(0, x0), (1, x1), (2, x2), (3, x3)]) (h0 : evo e x0 = some (.int .i64 y0)) (h1 : evo e x1 = some (.int .i64 y1)) (h2 : evo e x2 = some (.int .i64 y2)) (h3 : evo e x3 = some (.int .i64 y3)) (ht : Try.prog.underlying t = some (.slice 2))
    (hk : ∀ B : Nat, GK w0 (is ++ [own1I (.slice (some ⟨B, 0, none⟩) 4 4) [y0, y1, y2, y3]]) N K ((d, .slice (some ⟨B, 0, none⟩) 4 4) :: e)) : GO w0 is N o e Q K := by
  intro w ac M F
  refine go_val (v := .slice (some ⟨w.heap.size, 0, none⟩) 4 4) (w' := w.alloc (.cells #[.int .i64 y0, .int .i64 y1, .int .i64 y2, .int .i64 y3] 2)) hd hN F ?_ fun ac F => hk _ _ ac (mem_row (xs := [y0, y1, y2, y3]) M (by simp)) F
  intro ρ F
  have h0 := F _ _ h0; have h1 := F _ _ h1; have h2 := F _ _ h2; have h3 := F _ _ h3
  obtain ⟨i, hi, hz, hs, hb⟩ := info_parts info64
  have hr : Array.range 4 = #[0, 1, 2, 3] := by apply Array.toList_inj.1; simp [List.range_succ]
  simp [execOp, hop, h0, h1, h2, h3, Instr.buildSlice, run_underlying ht, sizeOf, typeInfo, hi, hs, Instr.fill, newRow, zeroValue, hz, Value.cells, Sem.run_bind, hr]
theorem go_slice5I {t : TypeId} {x0 x1 x2 x3 x4 : Operand} {y0 y1 y2 y3 y4 : Int} (hd : o.dst = some d) (hN : Nat.blt d N = true) (hop : o.op = .buildSlice t 5 #[(0, x0), (1, x1), (2, x2), (3, x3), (4, x4)]) (h0 : evo e x0 = some (.int .i64 y0)) (h1 : evo e x1 = some (.int .i64 y1)) (h2 : evo e x2 = some (.int .i64 y2)) (h3 : evo e x3 = some (.int .i64 y3)) (h4 : evo e x4 = some (.int .i64 y4)) (ht : Try.prog.underlying t = some (.slice 2))
    (hk : ∀ B : Nat, GK w0 (is ++ [own1I (.slice (some ⟨B, 0, none⟩) 5 5) [y0, y1, y2, y3, y4]]) N K ((d, .slice (some ⟨B, 0, none⟩) 5 5) :: e)) : GO w0 is N o e Q K := by
  intro w ac M F
  refine go_val (v := .slice (some ⟨w.heap.size, 0, none⟩) 5 5) (w' := w.alloc (.cells #[.int .i64 y0, .int .i64 y1, .int .i64 y2, .int .i64 y3, .int .i64 y4] 2)) hd hN F ?_ fun ac F => hk _ _ ac (mem_row (xs := [y0, y1, y2, y3, y4]) M (by simp)) F
  intro ρ F
  have h0 := F _ _ h0; have h1 := F _ _ h1; have h2 := F _ _ h2; have h3 := F _ _ h3; have h4 := F _ _ h4
  obtain ⟨i, hi, hz, hs, hb⟩ := info_parts info64
  have hr : Array.range 5 = #[0, 1, 2, 3, 4] := by apply Array.toList_inj.1; simp [List.range_succ]
  simp [execOp, hop, h0, h1, h2, h3, h4, Instr.buildSlice, run_underlying ht, sizeOf, typeInfo, hi, hs, Instr.fill, newRow, zeroValue, hz, Value.cells, Sem.run_bind, hr]
end
end Go.Proofs.Ytbiplocgenppoaa
namespace Go.Proofs.Ytbiplocgenppoaa
open _root_.Go.Proofs.Try
open Go.RowKit
theorem star_parts : ∀ (L : List Itm) {J : List Itm} {w : World} {S : Nat → Prop}, Star (L ++ J) w S → ∃ S1 S2 : Nat → Prop, (∀ k, S1 k → S k) ∧ (∀ k, S2 k → S k) ∧ (∀ k, S1 k → ¬ S2 k) ∧ Star L w S1 ∧ Star J w S2
  | [], J, w, S, h => ⟨fun _ => False, S, fun _ h => h.elim, fun _ h => h, fun _ h => h.elim, trivial, h⟩
  | i :: L, J, w, S, h => by
    obtain ⟨T1, T2, t1, t2, td, h1, h2⟩ := h
    obtain ⟨S1, S2, k1, k2, kd, h3, h4⟩ := star_parts L h2
    exact ⟨fun k => T1 k ∨ S1 k, S2, fun k h => h.elim (t1 k) (fun h => t2 k (k1 k h)), fun k h => t2 k (k2 k h), fun k a b => a.elim (fun a => td k a (k2 k b)) (fun a => kd k a b), ⟨T1, S1, fun k h => .inl h, fun k h => .inr h, fun k a b => td k a (k1 k b), h1, h3⟩, h4⟩
theorem star_rows : ∀ (us : List Value) (rows : List (List Int)) {w : World} {S : Nat → Prop}, us.length = rows.length → Star (List.zipWith own1I us rows) w S →
    (∀ i, i < rows.length → Sl w 0 (us.getD i undef) (rows.getD i []) ∧ ∀ q, (us.getD i undef).ownBlock = some q → S q) ∧ ∀ i j, i < j → j < rows.length → Apart (us.getD i undef) (us.getD j undef)
  | [], [], w, S, _, _ => ⟨fun i hi => absurd hi (by simp), fun i j _ hj => absurd hj (by simp)⟩
  | [], _ :: _, w, S, h, _ => by simp at h
  | _ :: _, [], w, S, h, _ => by simp at h
  | u :: us, r :: rows, w, S, hl, hs => by
    obtain ⟨S1, S2, k1, k2, kd, h1, h2⟩ := hs
    have h1' : Own1 u r w S1 := h1
    obtain ⟨ih1, ih2⟩ := star_rows us rows (by simpa using hl) h2
    refine ⟨fun i hi => ?_, fun i j hij hj => ?_⟩
    · cases i with
      | zero => exact ⟨h1'.1, fun q hq => k1 q (h1'.2 q hq)⟩
      | succ i =>
        have := ih1 i (by simpa using hi)
        exact ⟨this.1, fun q hq => k2 q (this.2 q hq)⟩
    cases j with
    | zero => omega
    | succ j =>
      cases i with
      | zero =>
        intro q hq hq2
        exact kd q (h1'.2 q hq) ((ih1 j (by simpa using hj)).2 q hq2)
      | succ i => exact ih2 i j (by omega) (by simpa using hj)
theorem cells_rows {w0 w : World} {L : List Itm} (us : List Value) (rows : List (List Int)) (hl : us.length = rows.length) (M : Mem w0 w (L ++ List.zipWith own1I us rows)) : ∀ u ∈ us, u.cells = #[u] := by
  obtain ⟨_, S, _, _, _, _, hs⟩ := star_parts L M.2
  intro u hu
  obtain ⟨i, hi, rfl⟩ := List.getElem_of_mem hu
  have := ((star_rows us rows hl hs).1 i (by omega)).1
  obtain ⟨a, c, he⟩ := rd_form this.rd
  rw [List.getD_eq_getElem?_getD, List.getElem?_eq_getElem hi] at he
  have he : us[i] = _ := he
  rw [he]; rfl
theorem mem_rows {w0 w : World} {L : List Itm} (us : List Value) (rows : List (List Int)) (hl : us.length = rows.length) (h0 : 0 < us.length) (h5 : us.length ≤ 1000) (M : Mem w0 w (L ++ List.zipWith own1I us rows)) :
    Mem w0 (w.alloc (.cells us.toArray 24)) (L ++ [own2U (.slice (some ⟨w.heap.size, 0, none⟩) us.length us.length) us rows]) := by
  obtain ⟨S1, S2, k1, k2, kd, hL, hs⟩ := star_parts L M.2
  have hr := star_rows us rows hl hs
  have hb := below_alloc w (.cells us.toArray 24)
  refine ⟨M.1.trans (hb.mono M.1.size), star_app L _ (S1 := fun k => S1 k ∧ k < w.heap.size) (S2 := fun k => (S2 k ∧ k < w.heap.size) ∨ w.heap.size ≤ k) (fun k h => k1 k h.1) (fun k h => h.elim (fun h => k2 k h.1) (fun h => Nat.le_trans M.1.size h)) (fun k a b => b.elim (fun b => kd k a.1 b.1) (fun b => by have := a.2; omega)) (star_keep L (fun k hk h => ⟨h, hk⟩) (agree_below hb) hL) ?_⟩
  refine ⟨_, fun _ => False, fun k h => h, fun k h => h.elim, fun k _ h => h, ?_, trivial⟩
  refine ⟨hl, by omega, ⟨by simp [hl], .inr ⟨w.heap.size, us.length, us.toArray, by rw [hl], Nat.zero_le _, heap_alloc_new w _, by omega, by unfold maxLen; omega, by simp, by rw [← hl, Nat.mul_one, List.take_length]⟩⟩, fun i hi => ?_, hr.2, fun q hq => ?_⟩
  · have h1 := hr.1 i hi
    refine ⟨sl_alloc h1.1 _, fun q hq hv => ?_, fun q hq => .inl ⟨h1.2 q hq, (h1.1.1.lt q hq).2⟩⟩
    have := (h1.1.1.lt q hq).2
    simp only [Value.ownBlock, Option.some.injEq] at hv
    omega
  simp only [Value.ownBlock, Option.some.injEq] at hq; exact .inr (by omega)
theorem star_apart2 : ∀ (is : List Itm) {n m : Nat} {ca : Option Addr} {cl cc g : Nat} {u : Value} {xs : List Int} {w : World} {S : Nat → Prop}, is[n]? = some (srcI ca cl cc g) → is[m]? = some (own1I u xs) → n < m → Star is w S → u.ownBlock ≠ some g
  | [], n, m, _, _, _, _, _, _, _, _, h, _, _, _ => by simp at h
  | i :: is, 0, m + 1, ca, cl, cc, g, u, xs, w, S, h1, h2, _, hs => by
    obtain ⟨S1, S2, k1, k2, kd, ha, hb⟩ := hs
    simp only [List.getElem?_cons_zero, Option.some.injEq] at h1
    subst h1
    have hA : SrcS ca cl cc g w S1 := ha
    obtain ⟨T, t1, t2⟩ := star_get is (by simpa using h2) hb
    have hB : Own1 u xs w T := t2
    exact fun e => kd g hA.1 (t1 g (hB.2 g e))
  | i :: is, n + 1, m + 1, ca, cl, cc, g, u, xs, w, S, h1, h2, hnm, hs => by
    obtain ⟨S1, S2, k1, k2, kd, ha, hb⟩ := hs
    exact star_apart2 is (by simpa using h1) (by simpa using h2) (by omega) hb
theorem src_apart {w0 w : World} {is : List Itm} {n m : Nat} {ca : Option Addr} {cl cc g : Nat} {u : Value} {xs : List Int} (M : Mem w0 w is) (h1 : is[n]? = some (srcI ca cl cc g)) (h2 : is[m]? = some (own1I u xs)) (hnm : n < m) : u.ownBlock ≠ some g := star_apart2 is h1 h2 hnm M.2
section
variable {w0 : World} {is : List Itm} {Q : Exit → Act → World → Prop} {o : Oper} {N : Frm} {n : Nat} {e : Env} {v : Value} {d : Nat} {K : Act → World → Prop} {f : FuncId} {fn : Func} {ags : Array Operand} {ts : Array TypeId} {ca : Option Addr} {cl cc g : Nat}
theorem go_sliceR2L {L : List Itm} {t : TypeId} {x0 x1 : Operand} {u0 u1 : Value} {r0 r1 : List Int} (hd : o.dst = some d) (hN : Nat.blt d N = true) (hop : o.op = .buildSlice t 2 #[(0, x0), (1, x1)]) (h0 : evo e x0 = some u0) (h1 : evo e x1 = some u1) (ht : Try.prog.underlying t = some (.slice 24)) (his : is = L ++ [own1I u0 r0, own1I u1 r1])
    (hk : ∀ B : Nat, GK w0 (L ++ [own2U (.slice (some ⟨B, 0, none⟩) 2 2) [u0, u1] [r0, r1]]) N K ((d, .slice (some ⟨B, 0, none⟩) 2 2) :: e)) : GO w0 is N o e Q K := by
  subst his
  intro w ac M F
  have hc := cells_rows [u0, u1] [r0, r1] rfl M
  refine go_val (v := .slice (some ⟨w.heap.size, 0, none⟩) 2 2) (w' := w.alloc (.cells #[u0, u1] 24)) hd hN F ?_ fun ac F => hk _ _ ac (mem_rows [u0, u1] [r0, r1] rfl (by simp) (by simp) M) F
  intro ρ F
  have h0 := F _ _ h0; have h1 := F _ _ h1
  obtain ⟨i, hi, hz, hs, hb⟩ := info_parts infoS
  have hr : Array.range 2 = #[0, 1] := by apply Array.toList_inj.1; simp [List.range_succ]
  have hcs : (Value.slice none 0 0).cells = #[.slice none 0 0] := rfl
  have g0 : u0.cells = #[u0] := hc u0 (by simp); have g1 : u1.cells = #[u1] := hc u1 (by simp)
  simp [execOp, hop, h0, h1, Instr.buildSlice, run_underlying ht, sizeOf, typeInfo, hi, hs, Instr.fill, newRow, zeroValue, hz, hcs, g0, g1, Sem.run_bind, hr]
theorem go_sliceR3L {L : List Itm} {t : TypeId} {x0 x1 x2 : Operand} {u0 u1 u2 : Value} {r0 r1 r2 : List Int} (hd : o.dst = some d) (hN : Nat.blt d N = true) (hop : o.op = .buildSlice t 3 #[(0, x0), (1, x1), (2, x2)]) (h0 : evo e x0 = some u0) (h1 : evo e x1 = some u1) (h2 : evo e x2 = some u2) (ht : Try.prog.underlying t = some (.slice 24)) (his : is = L ++ [own1I u0 r0, own1I u1 r1, own1I u2 r2])
    (hk : ∀ B : Nat, GK w0 (L ++ [own2U (.slice (some ⟨B, 0, none⟩) 3 3) [u0, u1, u2] [r0, r1, r2]]) N K ((d, .slice (some ⟨B, 0, none⟩) 3 3) :: e)) : GO w0 is N o e Q K := by
  subst his
  intro w ac M F
  have hc := cells_rows [u0, u1, u2] [r0, r1, r2] rfl M
  refine go_val (v := .slice (some ⟨w.heap.size, 0, none⟩) 3 3) (w' := w.alloc (.cells #[u0, u1, u2] 24)) hd hN F ?_ fun ac F => hk _ _ ac (mem_rows [u0, u1, u2] [r0, r1, r2] rfl (by simp) (by simp) M) F
  intro ρ F
  have h0 := F _ _ h0; have h1 := F _ _ h1; have h2 := F _ _ h2
  obtain ⟨i, hi, hz, hs, hb⟩ := info_parts infoS
  have hr : Array.range 3 = #[0, 1, 2] := by apply Array.toList_inj.1; simp [List.range_succ]
  have hcs : (Value.slice none 0 0).cells = #[.slice none 0 0] := rfl
  have g0 : u0.cells = #[u0] := hc u0 (by simp); have g1 : u1.cells = #[u1] := hc u1 (by simp); have g2 : u2.cells = #[u2] := hc u2 (by simp)
  simp [execOp, hop, h0, h1, h2, Instr.buildSlice, run_underlying ht, sizeOf, typeInfo, hi, hs, Instr.fill, newRow, zeroValue, hz, hcs, g0, g1, g2, Sem.run_bind, hr]
theorem go_sliceR4L {L : List Itm} {t : TypeId} {x0 x1 x2 x3 : Operand} {u0 u1 u2 u3 : Value} {r0 r1 r2 r3 : List Int} (hd : o.dst = some d) (hN : Nat.blt d N = true) (hop : o.op = .buildSlice t 4 #[(0, x0), (1, x1), (2, x2), (3, x3)]) (h0 : evo e x0 = some u0) (h1 : evo e x1 = some u1) (h2 : evo e x2 = some u2) (h3 : evo e x3 = some u3) (ht : Try.prog.underlying t = some (.slice 24)) (his : is = L ++ [own1I u0 r0, own1I u1 r1, own1I u2 r2, own1I u3 r3])
    (hk : ∀ B : Nat, GK w0 (L ++ [own2U (.slice (some ⟨B, 0, none⟩) 4 4) [u0, u1, u2, u3] [r0, r1, r2, r3]]) N K ((d, .slice (some ⟨B, 0, none⟩) 4 4) :: e)) : GO w0 is N o e Q K := by
  subst his
  intro w ac M F
  have hc := cells_rows [u0, u1, u2, u3] [r0, r1, r2, r3] rfl M
  refine go_val (v := .slice (some ⟨w.heap.size, 0, none⟩) 4 4) (w' := w.alloc (.cells #[u0, u1, u2, u3] 24)) hd hN F ?_ fun ac F => hk _ _ ac (mem_rows [u0, u1, u2, u3] [r0, r1, r2, r3] rfl (by simp) (by simp) M) F
  intro ρ F
  have h0 := F _ _ h0; have h1 := F _ _ h1; have h2 := F _ _ h2; have h3 := F _ _ h3
  obtain ⟨i, hi, hz, hs, hb⟩ := info_parts infoS
  have hr : Array.range 4 = #[0, 1, 2, 3] := by apply Array.toList_inj.1; simp [List.range_succ]
  have hcs : (Value.slice none 0 0).cells = #[.slice none 0 0] := rfl
  have g0 : u0.cells = #[u0] := hc u0 (by simp); have g1 : u1.cells = #[u1] := hc u1 (by simp); have g2 : u2.cells = #[u2] := hc u2 (by simp); have g3 : u3.cells = #[u3] := hc u3 (by simp)
  simp [execOp, hop, h0, h1, h2, h3, Instr.buildSlice, run_underlying ht, sizeOf, typeInfo, hi, hs, Instr.fill, newRow, zeroValue, hz, hcs, g0, g1, g2, g3, Sem.run_bind, hr]
theorem go_sliceR5L {L : List Itm} {t : TypeId} {x0 x1 x2 x3 x4 : Operand} {u0 u1 u2 u3 u4 : Value} {r0 r1 r2 r3 r4 : List Int} (hd : o.dst = some d) (hN : Nat.blt d N = true) (hop : o.op = .buildSlice t 5 #[(0, x0), (1, x1), (2, x2), (3, x3), (4, x4)]) (h0 : evo e x0 = some u0) (h1 : evo e x1 = some u1) (h2 : evo e x2 = some u2) (h3 : evo e x3 = some u3) (h4 : evo e x4 = some u4) (ht : Try.prog.underlying t = some (.slice 24)) (his : is = L ++ [own1I u0 r0, own1I u1 r1, own1I u2 r2, own1I u3 r3, own1I u4 r4])
    (hk : ∀ B : Nat, GK w0 (L ++ [own2U (.slice (some ⟨B, 0, none⟩) 5 5) [u0, u1, u2, u3, u4] [r0, r1, r2, r3, r4]]) N K ((d, .slice (some ⟨B, 0, none⟩) 5 5) :: e)) : GO w0 is N o e Q K := by
  subst his
  intro w ac M F
  have hc := cells_rows [u0, u1, u2, u3, u4] [r0, r1, r2, r3, r4] rfl M
  refine go_val (v := .slice (some ⟨w.heap.size, 0, none⟩) 5 5) (w' := w.alloc (.cells #[u0, u1, u2, u3, u4] 24)) hd hN F ?_ fun ac F => hk _ _ ac (mem_rows [u0, u1, u2, u3, u4] [r0, r1, r2, r3, r4] rfl (by simp) (by simp) M) F
  intro ρ F
  have h0 := F _ _ h0; have h1 := F _ _ h1; have h2 := F _ _ h2; have h3 := F _ _ h3; have h4 := F _ _ h4
  obtain ⟨i, hi, hz, hs, hb⟩ := info_parts infoS
  have hr : Array.range 5 = #[0, 1, 2, 3, 4] := by apply Array.toList_inj.1; simp [List.range_succ]
  have hcs : (Value.slice none 0 0).cells = #[.slice none 0 0] := rfl
  have g0 : u0.cells = #[u0] := hc u0 (by simp); have g1 : u1.cells = #[u1] := hc u1 (by simp); have g2 : u2.cells = #[u2] := hc u2 (by simp); have g3 : u3.cells = #[u3] := hc u3 (by simp); have g4 : u4.cells = #[u4] := hc u4 (by simp)
  simp [execOp, hop, h0, h1, h2, h3, h4, Instr.buildSlice, run_underlying ht, sizeOf, typeInfo, hi, hs, Instr.fill, newRow, zeroValue, hz, hcs, g0, g1, g2, g3, g4, Sem.run_bind, hr]
theorem go_srcPick {u : Value} {xs : List Int} {m : Nat} (hd : o.dst = some d) (hN : Nat.blt d N = true) (hop : o.op = .call { callee := .value (.func 52), args := ags, argTypes := ts }) (hfn : Try.prog.funcs[52]? = some fn) (hb : fn.body.isNone = false) (hn : (fn.name == "runtime.NumGoroutine") = false)
    (hargs : evoL e ags.toList = some [.pointer (some ⟨g, 0, none⟩), u]) (hI : InB w0 (.slice ca cl cc)) (hi : is[n]? = some (srcI ca cl cc g)) (hj : is[m]? = some (own1I u xs)) (hnm : n < m) (h0 : 0 < xs.length)
    (hk : ∀ r : Int, r ∈ xs → GK w0 is N K ((d, .int .i64 r) :: e)) : GO w0 is N o e Q K := by
  intro w a M F
  have hs := src_get hI M hi
  have hu := mem_own1 M hj
  refine go_call hd hN F hop hfn hb hn hargs (pick_anyX ca cl cc w g _ u xs hs.1 hu.rd h0 (src_apart M hi hj hnm)) fun e' w' hR => ?_
  obtain ⟨r, rfl, h1, hs2, hgr⟩ := hR
  exact ⟨_, rfl, fun a F => hk r h1 w' a (mem_src M hi hs.2 hgr hs2) F⟩
end
end Go.Proofs.Ytbiplocgenppoaa
