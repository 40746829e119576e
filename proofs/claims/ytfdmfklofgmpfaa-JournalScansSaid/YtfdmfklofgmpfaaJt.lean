/- what more types are -/
import Derived.Test.YtfdmfklofgmpfaaIt
namespace Go.Proofs.Ytfdmfklofgmpfaa
set_option linter.unusedVariables false
set_option linter.unusedSimpArgs false
open Go.RowKit

theorem fl61 : fdL Try.prog 61 = some [(0, 1), (1, 1)] := by kernel_rfl
theorem fl63 : fdL Try.prog 63 = some [(0, 2)] := by kernel_rfl
theorem fl79 : fdL Try.prog 79 = some [(0, 1)] := by kernel_rfl
theorem fo61_0 : fdO Try.prog 61 0 = some 0 := by kernel_rfl
theorem fo61_1 : fdO Try.prog 61 1 = some 1 := by kernel_rfl
theorem fo63_0 : fdO Try.prog 63 0 = some 0 := by kernel_rfl
theorem fo75_0 : fdO Try.prog 75 0 = some 0 := by kernel_rfl
theorem fo75_1 : fdO Try.prog 75 1 = some 1 := by kernel_rfl
theorem fo75_2 : fdO Try.prog 75 2 = some 2 := by kernel_rfl
theorem fo79_0 : fdO Try.prog 79 0 = some 0 := by kernel_rfl
theorem kn3 : knd Try.prog 3 = some .i64 := by kernel_rfl
theorem kn45 : knd Try.prog 45 = some .u64 := by kernel_rfl
theorem ni79 : niF Try.prog 79 = true := by kernel_rfl
theorem tb28 : tyB Try.prog 28 = some (false, 1) := by kernel_rfl
theorem tb63 : tyB Try.prog 63 = some (true, 2) := by kernel_rfl
theorem tb75 : tyB Try.prog 75 = some (true, 3) := by kernel_rfl
theorem tb79 : tyB Try.prog 79 = some (true, 1) := by kernel_rfl
theorem tb88 : tyB Try.prog 88 = some (false, 1) := by kernel_rfl
theorem ty3 : (tyB Try.prog 3).isSome = true := by kernel_rfl
theorem ty45 : (tyB Try.prog 45).isSome = true := by kernel_rfl
theorem un4 : Try.prog.underlying 4 = some .bool := by kernel_rfl
theorem zr25 : zrC Try.prog 25 = some [.slice none 0 0] := by kernel_rfl
theorem zr28 : zrC Try.prog 28 = some [.slice none 0 0] := by kernel_rfl
theorem zr61 : zrC Try.prog 61 = some [.slice none 0 0, .int .i64 0] := by kernel_rfl
theorem zr63 : zrC Try.prog 63 = some [.slice none 0 0, .int .i64 0] := by kernel_rfl
theorem zr75 : zrC Try.prog 75 = some [.slice none 0 0, .int .i64 0, .int .i64 0] := by kernel_rfl
theorem zr79 : zrC Try.prog 79 = some [.int .i64 0] := by kernel_rfl
theorem zr88 : zrC Try.prog 88 = some [.nilFunc] := by kernel_rfl
theorem zv79 : zrV Try.prog 79 = some (.agg #[.int .i64 0]) := by kernel_rfl
end Go.Proofs.Ytfdmfklofgmpfaa
