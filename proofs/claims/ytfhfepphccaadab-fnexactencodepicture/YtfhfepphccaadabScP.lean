/-
  Lists of Points as the laws copy, compare and mark them: a list is the row of its numbers, 3 for each.
-/
import Derived.Test.YtfhfepphccaadabScA
import Derived.Deep.RegionHeld3
import Derived.Laws.MakeOwn
namespace Go.Proofs.Ytfhfepphccaadab
open Go.RowKit

theorem info_Point : (Try.prog.info? 54).map (fun i => (i.zero, i.size, i.bytes)) = some (some (.agg #[.int .u32 0, .int .u32 0, .int .u32 0]), 3, 12) := by kernel_rfl

theorem make_Point (n : Nat) (hn : n ≤ 1048576) (w : World) : (Instr.makeSlice 86 (.int .i64 (n : Int)) (.int .i64 (n : Int))).run Try.prog w = .ok (.slice (some ⟨w.heap.size, 0, none⟩) n n) (w.alloc (.cells (madeCells #[.int .u32 0, .int .u32 0, .int .u32 0] (n * 3)) 54)) := by
  obtain ⟨i0, hi, hz0, hz1, hz2⟩ := info_parts info_Point
  have h := run_make (P := Try.prog) w 86 54 i0 _ Try.underlying86 hi hz0 .i64 .i64 (n : Int) (n : Int) (by omega) (Int.le_refl _) (by rw [hz2]; omega) (by omega)
  rw [hz1, Int.toNat_natCast] at h
  exact h

theorem rep_Point : (Array.replicate 3 (Value.int .u32 0)) = #[.int .u32 0, .int .u32 0, .int .u32 0] := rfl

end Go.Proofs.Ytfhfepphccaadab
