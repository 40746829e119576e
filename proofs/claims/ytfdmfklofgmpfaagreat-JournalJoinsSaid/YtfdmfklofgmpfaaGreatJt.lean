/- what more types are -/
import Derived.Test.YtfdmfklofgmpfaaGreatIt
namespace Go.Proofs.YtfdmfklofgmpfaaGreat
set_option linter.unusedVariables false
set_option linter.unusedSimpArgs false
open Go.RowKit

theorem fl57 : fdL Tryz.prog 57 = some [(0, 1), (1, 1)] := by kernel_rfl
theorem fl59 : fdL Tryz.prog 59 = some [(0, 2)] := by kernel_rfl
theorem fl62 : fdL Tryz.prog 62 = some [(0, 1)] := by kernel_rfl
theorem fo57_0 : fdO Tryz.prog 57 0 = some 0 := by kernel_rfl
theorem fo57_1 : fdO Tryz.prog 57 1 = some 1 := by kernel_rfl
theorem fo59_0 : fdO Tryz.prog 59 0 = some 0 := by kernel_rfl
theorem fo62_0 : fdO Tryz.prog 62 0 = some 0 := by kernel_rfl
theorem fo77_0 : fdO Tryz.prog 77 0 = some 0 := by kernel_rfl
theorem fo77_1 : fdO Tryz.prog 77 1 = some 1 := by kernel_rfl
theorem fo77_2 : fdO Tryz.prog 77 2 = some 2 := by kernel_rfl
theorem kn3 : knd Tryz.prog 3 = some .i64 := by kernel_rfl
theorem ni62 : niF Tryz.prog 62 = true := by kernel_rfl
theorem tb34 : tyB Tryz.prog 34 = some (false, 1) := by kernel_rfl
theorem tb59 : tyB Tryz.prog 59 = some (true, 2) := by kernel_rfl
theorem tb62 : tyB Tryz.prog 62 = some (true, 1) := by kernel_rfl
theorem tb77 : tyB Tryz.prog 77 = some (true, 3) := by kernel_rfl
theorem tb85 : tyB Tryz.prog 85 = some (false, 1) := by kernel_rfl
theorem ty3 : (tyB Tryz.prog 3).isSome = true := by kernel_rfl
theorem un4 : Tryz.prog.underlying 4 = some .bool := by kernel_rfl
theorem zr22 : zrC Tryz.prog 22 = some [.slice none 0 0] := by kernel_rfl
theorem zr34 : zrC Tryz.prog 34 = some [.slice none 0 0] := by kernel_rfl
theorem zr57 : zrC Tryz.prog 57 = some [.slice none 0 0, .int .i64 0] := by kernel_rfl
theorem zr59 : zrC Tryz.prog 59 = some [.slice none 0 0, .int .i64 0] := by kernel_rfl
theorem zr62 : zrC Tryz.prog 62 = some [.int .i64 0] := by kernel_rfl
theorem zr77 : zrC Tryz.prog 77 = some [.slice none 0 0, .int .i64 0, .int .i64 0] := by kernel_rfl
theorem zr85 : zrC Tryz.prog 85 = some [.nilFunc] := by kernel_rfl
theorem zv62 : zrV Tryz.prog 62 = some (.agg #[.int .i64 0]) := by kernel_rfl
end Go.Proofs.YtfdmfklofgmpfaaGreat
