
/- Lists of int: read, and of a call's own. -/
import Derived.Test.YtgkfampgofjkfaaEl
set_option linter.unusedSimpArgs false
set_option linter.unusedVariables false
set_option linter.unusedSectionVars false
namespace Go.Proofs.Ytgkfampgofjkfaa
open Go.RowKit
def elN : El Int := ⟨3, Value.int .i64, 0, 8, by kernel_rfl, by decide, by decide, fun _ => rfl, fun _ => rfl⟩
theorem ul_elN : Try.prog.underlying 88 = some (.slice (Try.prog.elem 88)) := by kernel_rfl
theorem sz_elN : (Try.prog.info? (Try.prog.elem 88)).map (fun i => i.size) = some 1 := by kernel_rfl
theorem getE_N (xs : List Int) (i : Int) : getE elN xs i = at0 xs i := rfl
section
variable {w0 : World} {is : List Itm} {Q : Exit → Act → World → Prop} {o : Oper} {N : Frm} {e : Env} {d : Nat} {K : Act → World → Prop}
theorem go_sliceN1 {t : TypeId} {x : Operand} {a : Int} (hd : o.dst = some d) (hN : Nat.blt d N = true) (hop : o.op = .buildSlice t 1 #[(0, x)]) (hx : evo e x = some (.int .i64 a)) (ht : Try.prog.underlying t = some (.slice 3))
    (hk : ∀ B : Nat, GK w0 (is ++ [ownGI elN (.slice (some ⟨B, 0, none⟩) 1 1) [a]]) N K ((d, .slice (some ⟨B, 0, none⟩) 1 1) :: e)) : GO w0 is N o e Q K := by
  intro w ac M F
  refine go_val (v := .slice (some ⟨w.heap.size, 0, none⟩) 1 1) (w' := w.alloc (.cells #[.int .i64 a] 3)) hd hN F ?_ fun ac F => hk _ _ ac (mem_rowG elN (xs := [a]) M (by simp)) F
  intro ρ F
  have hx := F _ _ hx
  obtain ⟨i, hi, hz, hs, hb⟩ := info_parts elN.info
  have hi : Try.prog.info? 3 = some i := hi
  simp [execOp, hop, hx, Instr.buildSlice, run_underlying ht, sizeOf, typeInfo, hi, hs, Instr.fill, newRow, zeroValue, hz, Value.cells, Sem.run_bind, range1]
  try rfl
theorem go_sliceN2 {t : TypeId} {x y : Operand} {a b : Int} (hd : o.dst = some d) (hN : Nat.blt d N = true) (hop : o.op = .buildSlice t 2 #[(0, x), (1, y)]) (hx : evo e x = some (.int .i64 a)) (hy : evo e y = some (.int .i64 b)) (ht : Try.prog.underlying t = some (.slice 3))
    (hk : ∀ B : Nat, GK w0 (is ++ [ownGI elN (.slice (some ⟨B, 0, none⟩) 2 2) [a, b]]) N K ((d, .slice (some ⟨B, 0, none⟩) 2 2) :: e)) : GO w0 is N o e Q K := by
  intro w ac M F
  refine go_val (v := .slice (some ⟨w.heap.size, 0, none⟩) 2 2) (w' := w.alloc (.cells #[.int .i64 a, .int .i64 b] 3)) hd hN F ?_ fun ac F => hk _ _ ac (mem_rowG elN (xs := [a, b]) M (by simp)) F
  intro ρ F
  have hx := F _ _ hx; have hy := F _ _ hy
  obtain ⟨i, hi, hz, hs, hb⟩ := info_parts elN.info
  have hi : Try.prog.info? 3 = some i := hi
  simp [execOp, hop, hx, hy, Instr.buildSlice, run_underlying ht, sizeOf, typeInfo, hi, hs, Instr.fill, newRow, zeroValue, hz, Value.cells, Sem.run_bind, range2]
  try rfl
end
end Go.Proofs.Ytgkfampgofjkfaa
