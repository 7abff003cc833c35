import Derived.Laws.Bits64b
import Derived.StillTailTactics
import Derived.Test.YtbiplocgenppoaaC13
set_option maxHeartbeats 800000
set_option maxRecDepth 100000
set_option linter.unusedSimpArgs false
set_option linter.unusedVariables false
set_option linter.unusedSectionVars false
namespace Go.Proofs.Ytbiplocgenppoaa
open _root_.Go.Proofs.Try
open Go.RowKit
def DicX (a : Option Addr) (len cap : Nat) (w : World) (g : Nat) (v : Value) : Prop :=
  ∃ (p : Nat) (h : Int), v = .pointer (some ⟨g, 0, none⟩) ∧ w.heap[g]? = some (.cells #[.slice a len cap, .int .i64 p, .int .u64 h] 65 (0, 0)) ∧
    len ≤ 9223372036854775807 ∧ p ≤ len ∧ 0 ≤ h ∧ h < 18446744073709551616 ∧
    ∀ j, j < len → ∃ b off, a = some ⟨b, off, none⟩ ∧ b < g ∧ ∀ i, i < len → ∃ x : Int, w.cell? ⟨b, off + i, none⟩ = some (.int .u8 x) ∧ 0 ≤ x ∧ x < 256
theorem dic_reX {w w' : World} {g len cap p : Nat} {a : Option Addr} {h : Int} (hgr : w.grownBy w' (some g)) (hg : w'.heap[g]? = some (.cells #[.slice a len cap, .int .i64 p, .int .u64 h] 65 (0, 0)))
    (hl : len ≤ 9223372036854775807) (hp : p ≤ len) (h0 : 0 ≤ h) (h1 : h < 18446744073709551616)
    (hc : ∀ j, j < len → ∃ b off, a = some ⟨b, off, none⟩ ∧ b < g ∧ ∀ i, i < len → ∃ x : Int, w.cell? ⟨b, off + i, none⟩ = some (.int .u8 x) ∧ 0 ≤ x ∧ x < 256) : DicX a len cap w' g (.pointer (some ⟨g, 0, none⟩)) := by
  refine ⟨p, h, rfl, hg, hl, hp, h0, h1, fun j hj => ?_⟩
  obtain ⟨b, off, ha, hb, hcell⟩ := hc j hj
  refine ⟨b, off, ha, hb, fun i hi => ?_⟩
  obtain ⟨x, hx, hx0, hx1⟩ := hcell i hi
  exact ⟨x, hgr.cell hx (by simp; omega), hx0, hx1⟩
theorem below_anyX (a : Option Addr) (len cap : Nat) (w : World) (g : Nat) (v : Value) (n : Int) (h : DicX a len cap w g v) (hn : n ≤ 9223372036854775807) :
    Calls Try.prog 13 #[v, .int .i64 n] w (fun e w' => ∃ r : Int, e = .returned (.int .i64 r) ∧ 0 ≤ r ∧ (r < n ∨ r = 0) ∧ DicX a len cap w' g v ∧ w.grownBy w' (some g)) := by
  have H := h
  obtain ⟨p, x, rfl, hg, hl, hp, hx0, hx1, hc⟩ := h
  by_cases h1 : n < 1
  · clear hg hc
    have H := Lib.hid H
    go_enter func13, Try.ntmps13
    go_wp2
    go_ret
    exact ⟨0, rfl, by omega, .inr rfl, H.out, grown_refl _ _⟩
  have HC := Lib.hid hc; clear hc H
  have c2 : w.cell? ⟨g, 2, none⟩ = some (.int .u64 x) := by rw [cell_of_row w g 2 _ _ (0, 0) hg]; rfl
  have fr := frozen_of_row w g 2 _ _ hg
  obtain ⟨y, hy, hy1⟩ := u64_nat (IntKind.u64.wrap (x * 6364136223846793005) + 1442695040888963407)
  obtain ⟨m, hm, hm1⟩ := mask24 y hy1
  have hm2 := Go.IntWalk.wrap64_in (m : Int) ⟨by omega, by omega⟩
  have HG := Lib.hid hg; clear hg
  go_enter func13, Try.ntmps13
  go_wp2
  have hg1 : (w.setCell ⟨g, 2, none⟩ (.int .u64 (y : Int))).heap[g]? = some (.cells #[.slice a len cap, .int .i64 p, .int .u64 y] 65 (0, 0)) := heap_setCell_same w g 2 _ _ _ HG.out
  have hgr := src_put (i := 2) (u := .int .u64 (y : Int)) HG.out
  generalize w.setCell ⟨g, 2, none⟩ (.int .u64 (y : Int)) = w1 at hg1 hgr ⊢
  clear fr c2 hy hm hm2
  have d0 : w1.cell? ⟨g, 0, none⟩ = some (.slice a len cap) := by rw [cell_of_row w1 g 0 _ _ (0, 0) hg1]; rfl
  have d1 : w1.cell? ⟨g, 1, none⟩ = some (.int .i64 p) := by rw [cell_of_row w1 g 1 _ _ (0, 0) hg1]; rfl
  have fr := frozen_of_row w1 g 1 _ _ hg1
  have HG1 := Lib.hid hg1; have HGR := Lib.hid hgr; clear hg1 hgr
  by_cases hlt : p < len
  · obtain ⟨b, off, rfl, hb, hcell⟩ := HC.out p hlt
    obtain ⟨z, hz, hz0, hz1⟩ := hcell p hlt
    have d2 : w1.cell? ⟨b, off + p, none⟩ = some (.int .u8 z) := HGR.out.cell hz (by simp; omega)
    have hz2 := Go.IntWalk.wrap64_in z ⟨by omega, by omega⟩
    have hz3 := Go.IntWalk.wrap64_in (m + z) ⟨by omega, by omega⟩
    clear hcell
    go_quiet (fail)
    go_wp2
    go_quiet (fail)
    go_wp2
    go_ret
    have hgr := fun q => grown_trans (grown_quiet HGR.out q) (src_put (w := w1.drewN q) (i := 1) (u := .int .i64 ((p : Int) + 1)) HG1.out)
    exact ⟨_, rfl, Int.emod_nonneg _ (by omega), .inl (Int.emod_lt_of_pos _ (by omega)), dic_reX (hgr _) (p := p + 1) (heap_setCell_same _ g 1 _ _ _ HG1.out) hl hlt (Int.natCast_nonneg y) (by omega) HC.out, hgr _⟩
  go_quiet (fail)
  go_wp2
  go_ret
  have hgr := fun q => grown_quiet HGR.out q
  exact ⟨_, rfl, Int.emod_nonneg _ (by omega), .inl (Int.emod_lt_of_pos _ (by omega)), dic_reX (hgr _) HG1.out hl hp (Int.natCast_nonneg y) (by omega) HC.out, hgr _⟩
theorem roll_anyX (a : Option Addr) (len cap : Nat) (w : World) (h : InB w (.slice a len cap)) :
    Calls Try.prog 12 #[.slice a len cap, .int .u64 1] w (fun e w' => ∃ (g : Nat) (y : Value), e = .returned y ∧ DicX a len cap w' g y ∧ w.heap.size ≤ g ∧ Below w.heap.size w w') := by
  obtain ⟨a3, len3, cap3, he, hl, hc⟩ := h
  simp only [Value.slice.injEq] at he
  obtain ⟨rfl, rfl, rfl⟩ := he
  have HC := Lib.hid hc; clear hc
  go_enter func12, Try.ntmps12
  go_wp2
  go_loopw [6] (fun i wr => ∃ (k : Nat) (x : Int), i = .int .i64 k ∧ k ≤ len ∧ wr.heap[w.heap.size]? = some (.cells #[.slice a len cap, .int .i64 0, .int .u64 x] 65 (0, 0)) ∧ 0 ≤ x ∧ x < 18446744073709551616 ∧ Below w.heap.size w wr) (fun i _ => len + 1 - (intOf i).toNat)
  case atStart => exact ⟨0, 7681 + (len : Int), rfl, Nat.zero_le _, Array.getElem?_push_size, by omega, by omega, (Below.refl _ _).alloc (Nat.le_refl _) _⟩
  case round =>
    obtain ⟨k, x, rfl, hk, hg, hx0, hx1, hbel⟩ := hrel
    by_cases h1 : k < len
    · obtain ⟨b, off, rfl, hb, hcell⟩ := HC.out k h1
      obtain ⟨z, hz, hz0, hz1⟩ := hcell k h1
      have c1 : wr.cell? ⟨b, off + k, none⟩ = some (.int .u8 z) := (hbel.cell (p := ⟨b, off + k, none⟩) hb).trans hz
      have c2 : wr.cell? ⟨w.heap.size, 2, none⟩ = some (.int .u64 x) := by rw [cell_of_row wr _ 2 _ _ (0, 0) hg]; rfl
      have fr := frozen_of_row wr w.heap.size 2 _ _ hg
      obtain ⟨y, hy, hy1⟩ := u64_nat (IntKind.u64.wrap (IntKind.u64.wrap (x * 1099511628211) + z) + 5)
      have HG := Lib.hid hg
      clear hcell hz hg
      go_wp2
      go_still_tail 13, (by kernel_rfl)
      go_wp2
      go_roundw
      case rel => exact ⟨k + 1, (y : Int), by go_num, h1, heap_setCell_same wr w.heap.size 2 _ _ _ HG.out, Int.natCast_nonneg y, by omega, (hbel.setCell (Nat.le_refl _) _).drew⟩
      case measure => simp [intOf]; omega
    have HG := Lib.hid hg; clear hg
    go_wp2
    go_ret
    exact ⟨w.heap.size, _, rfl, ⟨0, x, rfl, HG.out, hl, Nat.zero_le _, hx0, hx1, code_up hbel HC.out⟩, Nat.le_refl _, hbel⟩
def DicS (ca : Option Addr) (cl cc g : Nat) (w : World) (S : Nat → Prop) : Prop := S g ∧ ∃ (p : Nat) (h : Int), w.heap[g]? = some (.cells #[.slice ca cl cc, .int .i64 p, .int .u64 h] 65 (0, 0)) ∧ p ≤ cl ∧ 0 ≤ h ∧ h < 18446744073709551616
theorem dicS_loc (ca : Option Addr) (cl cc g : Nat) : Loc (DicS ca cl cc g) where
  keep hs ha h := by
    obtain ⟨h1, p, x, hg, r⟩ := h
    have hlt := (Array.getElem?_eq_some_iff.1 hg).1
    exact ⟨hs g hlt h1, p, x, by rw [ha g hlt h1]; exact hg, r⟩
def dicI (ca : Option Addr) (cl cc g : Nat) : Itm := ⟨_, dicS_loc ca cl cc g⟩
section
variable {w0 w w' : World} {is : List Itm} {n : Nat} {ca : Option Addr} {cl cc g : Nat}
theorem dic_get (hI : InB w0 (.slice ca cl cc)) (M : Mem w0 w is) (h : is[n]? = some (dicI ca cl cc g)) : DicX ca cl cc w g (.pointer (some ⟨g, 0, none⟩)) ∧ w0.heap.size ≤ g := by
  obtain ⟨S, hS, hp⟩ := mem_get M h
  obtain ⟨h1, p, x, hg, hp1, hx0, hx1⟩ := (hp : DicS ca cl cc g w S)
  obtain ⟨a3, l3, c3, he, hl, hc⟩ := hI
  simp only [Value.slice.injEq] at he
  obtain ⟨rfl, rfl, rfl⟩ := he
  have hgs := hS g h1
  refine ⟨⟨p, x, rfl, hg, hl, hp1, hx0, hx1, fun j hj => ?_⟩, hgs⟩
  obtain ⟨b, off, ha, hb, hcell⟩ := hc j hj
  refine ⟨b, off, ha, by omega, fun i hi => ?_⟩
  obtain ⟨z, hz, hz0, hz1⟩ := hcell i hi
  exact ⟨z, (M.1.cell (p := ⟨b, off + i, none⟩) hb).trans hz, hz0, hz1⟩
theorem dicS_of {S : Nat → Prop} (h : DicX ca cl cc w g (.pointer (some ⟨g, 0, none⟩))) (hS : S g) : DicS ca cl cc g w S := by
  obtain ⟨p, x, _, hg, _, hp, h0, h1, _⟩ := h
  exact ⟨hS, p, x, hg, hp, h0, h1⟩
theorem star_dic {i : Itm} {S1 : Nat → Prop} : ∀ (is : List Itm) {n : Nat} {w : World} {S : Nat → Prop}, is[n]? = some (dicI ca cl cc g) → w.grownBy w' (some g) → DicX ca cl cc w' g (.pointer (some ⟨g, 0, none⟩)) → Star is w S → Star is w' (fun k => S k ∧ k < w.heap.size)
  | [], n, _, _, h, _, _, _ => by simp at h
  | j :: is, 0, w, S, h, hg, hx, hs => by
    simp only [List.getElem?_cons_zero, Option.some.injEq] at h
    subst h
    obtain ⟨T1, T2, k1, k2, hd, h1, h2⟩ := hs
    have h1' : DicS ca cl cc g w T1 := h1
    have hlt : g < w.heap.size := by obtain ⟨_, p, x, hgg, _⟩ := h1'; exact (Array.getElem?_eq_some_iff.1 hgg).1
    refine ⟨fun k => T1 k ∧ k < w.heap.size, fun k => T2 k ∧ k < w.heap.size, fun k h => ⟨k1 k h.1, h.2⟩, fun k h => ⟨k2 k h.1, h.2⟩, fun k a b => hd k a.1 b.1, (dicS_of hx ⟨h1'.1, hlt⟩ : DicS ca cl cc g w' (fun k => T1 k ∧ k < w.heap.size)), ?_⟩
    exact star_keep is (fun k hk hs => ⟨hs, hk⟩) (fun k hk hs => hg.block k hk (fun e => hd g h1'.1 (by simp only [Option.some.injEq] at e; subst e; exact hs))) h2
  | j :: is, n + 1, w, S, h, hg, hx, hs => by
    obtain ⟨T1, T2, k1, k2, hd, h1, h2⟩ := hs
    have hh : is[n]? = some (dicI ca cl cc g) := by simpa using h
    obtain ⟨U, hU, hu⟩ := star_get is hh h2
    have hu' : DicS ca cl cc g w U := hu
    refine ⟨fun k => T1 k ∧ k < w.heap.size, fun k => T2 k ∧ k < w.heap.size, fun k h => ⟨k1 k h.1, h.2⟩, fun k h => ⟨k2 k h.1, h.2⟩, fun k a b => hd k a.1 b.1, ?_, ?_⟩
    · exact j.loc.keep (fun k hk hs => ⟨hs, hk⟩) (fun k hk hs => hg.block k hk (fun e => hd k hs (by simp only [Option.some.injEq] at e; subst e; exact hU _ hu'.1))) h1
    exact star_dic (i := i) (S1 := S1) is hh hg hx h2
theorem dic_belowB (M : Mem w0 w is) (hg0 : w0.heap.size ≤ g) (hg : w.grownBy w' (some g)) : Below w0.heap.size w0 w' := below_src M.1 hg0 hg
theorem mem_dic (M : Mem w0 w is) (h : is[n]? = some (dicI ca cl cc g)) (hg0 : w0.heap.size ≤ g) (hg : w.grownBy w' (some g)) (hx : DicX ca cl cc w' g (.pointer (some ⟨g, 0, none⟩))) : Mem w0 w' is :=
  ⟨dic_belowB M hg0 hg, star_keep is (fun k _ hk => hk.1) agree_refl (star_dic (i := dicI ca cl cc g) (S1 := fun _ => True) is h hg hx M.2)⟩
end
section
variable {w0 : World} {is : List Itm} {Q : Exit → Act → World → Prop} {o : Oper} {N : Frm} {n : Nat} {e : Env} {d : Nat} {K : Act → World → Prop} {f : FuncId} {fn : Func} {ags : Array Operand} {ts : Array TypeId} {ca : Option Addr} {cl cc g : Nat}
theorem go_dicRoll (hd : o.dst = some d) (hN : Nat.blt d N = true) (hop : o.op = .call { callee := .value (.func 12), args := ags, argTypes := ts }) (hfn : Try.prog.funcs[12]? = some fn) (hb : fn.body.isNone = false) (hn : (fn.name == "runtime.NumGoroutine") = false)
    (hargs : evoL e ags.toList = some [.slice ca cl cc, .int .u64 1]) (hI : InB w0 (.slice ca cl cc))
    (hk : ∀ g : Nat, GK w0 (is ++ [dicI ca cl cc g]) N K ((d, .pointer (some ⟨g, 0, none⟩)) :: e)) : GO w0 is N o e Q K := by
  intro w a M F
  refine go_call hd hN F hop hfn hb hn hargs (roll_anyX ca cl cc w (inb_below M.1 hI)) fun e' w' hR => ?_
  obtain ⟨g, y, rfl, hs, hg, hbl⟩ := hR
  have hs' := hs
  obtain ⟨p, x, rfl, hgg, _⟩ := hs'
  exact ⟨_, rfl, fun a F => hk g w' a (mem_new M hbl (dicS_of hs hg)) F⟩
theorem go_dicNext {k : Int} (hd : o.dst = some d) (hN : Nat.blt d N = true) (hop : o.op = .call { callee := .value (.func 13), args := ags, argTypes := ts }) (hfn : Try.prog.funcs[13]? = some fn) (hb : fn.body.isNone = false) (hn : (fn.name == "runtime.NumGoroutine") = false)
    (hargs : evoL e ags.toList = some [.pointer (some ⟨g, 0, none⟩), .int .i64 k]) (hI : InB w0 (.slice ca cl cc)) (hi : is[n]? = some (dicI ca cl cc g)) (hk0 : k ≤ 9223372036854775807)
    (hk : ∀ r : Nat, ((r : Int) < k ∨ (r : Int) = 0) → GK w0 is N K ((d, .int .i64 (r : Int)) :: e)) : GO w0 is N o e Q K := by
  intro w a M F
  have hs := dic_get hI M hi
  refine go_call hd hN F hop hfn hb hn hargs (below_anyX ca cl cc w g _ k hs.1 hk0) fun e' w' hR => ?_
  obtain ⟨r, rfl, h0, h1, hs2, hgr⟩ := hR
  obtain ⟨r, rfl⟩ := Int.eq_ofNat_of_zero_le h0
  exact ⟨_, rfl, fun a F => hk r h1 w' a (mem_dic M hi hs.2 hgr hs2) F⟩
end
end Go.Proofs.Ytbiplocgenppoaa
