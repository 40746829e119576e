/- what more types are -/
import Derived.Test.YtgomklemldldiaaIt
namespace Go.Proofs.Ytgomklemldldiaa
set_option linter.unusedVariables false
set_option linter.unusedSimpArgs false
open Go.RowKit

theorem ar101 : arE Try.prog 101 = some (5, 1) := by kernel_rfl
theorem aw101 : arW Try.prog 101 = some 5 := by kernel_rfl
theorem fl25 : fdL Try.prog 25 = some [(0, 1), (1, 1)] := by kernel_rfl
theorem fl38 : fdL Try.prog 38 = some [(0, 1), (1, 1), (2, 1)] := by kernel_rfl
theorem fl49 : fdL Try.prog 49 = some [(0, 1), (1, 1), (2, 1), (3, 1)] := by kernel_rfl
theorem fl76 : fdL Try.prog 76 = some [(0, 2)] := by kernel_rfl
theorem fl97 : fdL Try.prog 97 = some [(0, 1)] := by kernel_rfl
theorem fo25_0 : fdO Try.prog 25 0 = some 0 := by kernel_rfl
theorem fo25_1 : fdO Try.prog 25 1 = some 1 := by kernel_rfl
theorem fo38_0 : fdO Try.prog 38 0 = some 0 := by kernel_rfl
theorem fo38_1 : fdO Try.prog 38 1 = some 1 := by kernel_rfl
theorem fo38_2 : fdO Try.prog 38 2 = some 2 := by kernel_rfl
theorem fo49_0 : fdO Try.prog 49 0 = some 0 := by kernel_rfl
theorem fo49_1 : fdO Try.prog 49 1 = some 1 := by kernel_rfl
theorem fo49_2 : fdO Try.prog 49 2 = some 2 := by kernel_rfl
theorem fo49_3 : fdO Try.prog 49 3 = some 3 := by kernel_rfl
theorem fo63_0 : fdO Try.prog 63 0 = some 0 := by kernel_rfl
theorem fo63_1 : fdO Try.prog 63 1 = some 1 := by kernel_rfl
theorem fo63_2 : fdO Try.prog 63 2 = some 2 := by kernel_rfl
theorem fo63_3 : fdO Try.prog 63 3 = some 3 := by kernel_rfl
theorem fo76_0 : fdO Try.prog 76 0 = some 0 := by kernel_rfl
theorem fo97_0 : fdO Try.prog 97 0 = some 0 := by kernel_rfl
theorem kn3 : knd Try.prog 3 = some .i64 := by kernel_rfl
theorem kn65 : knd Try.prog 65 = some .u64 := by kernel_rfl
theorem ni97 : niF Try.prog 97 = true := by kernel_rfl
theorem sl133 : slE Try.prog 133 = some (22, 1, 24) := by kernel_rfl
theorem sl22 : slE Try.prog 22 = some (38, 3, 40) := by kernel_rfl
theorem sl60 : slE Try.prog 60 = some (63, 7, 72) := by kernel_rfl
theorem tb101 : tyB Try.prog 101 = some (true, 5) := by kernel_rfl
theorem tb22 : tyB Try.prog 22 = some (false, 1) := by kernel_rfl
theorem tb23 : tyB Try.prog 23 = some (false, 1) := by kernel_rfl
theorem tb25 : tyB Try.prog 25 = some (true, 2) := by kernel_rfl
theorem tb30 : tyB Try.prog 30 = some (false, 1) := by kernel_rfl
theorem tb38 : tyB Try.prog 38 = some (true, 3) := by kernel_rfl
theorem tb4 : tyB Try.prog 4 = some (false, 1) := by kernel_rfl
theorem tb42 : tyB Try.prog 42 = some (false, 1) := by kernel_rfl
theorem tb49 : tyB Try.prog 49 = some (true, 4) := by kernel_rfl
theorem tb63 : tyB Try.prog 63 = some (true, 7) := by kernel_rfl
theorem tb76 : tyB Try.prog 76 = some (true, 2) := by kernel_rfl
theorem tb81 : tyB Try.prog 81 = some (false, 1) := by kernel_rfl
theorem tb97 : tyB Try.prog 97 = some (true, 1) := by kernel_rfl
theorem ty23 : (tyB Try.prog 23).isSome = true := by kernel_rfl
theorem ty3 : (tyB Try.prog 3).isSome = true := by kernel_rfl
theorem ty65 : (tyB Try.prog 65).isSome = true := by kernel_rfl
theorem un4 : Try.prog.underlying 4 = some .bool := by kernel_rfl
theorem zr101 : zrC Try.prog 101 = some [.nilFunc, .nilFunc, .nilFunc, .nilFunc, .nilFunc] := by kernel_rfl
theorem zr22 : zrC Try.prog 22 = some [.slice none 0 0] := by kernel_rfl
theorem zr25 : zrC Try.prog 25 = some [.slice none 0 0, .int .u64 0] := by kernel_rfl
theorem zr30 : zrC Try.prog 30 = some [.int .i64 0] := by kernel_rfl
theorem zr38 : zrC Try.prog 38 = some [.int .i64 0, .slice none 0 0, .bool false] := by kernel_rfl
theorem zr4 : zrC Try.prog 4 = some [.bool false] := by kernel_rfl
theorem zr49 : zrC Try.prog 49 = some [.int .i64 0, .int .i64 0, .int .i64 0, .int .u32 0] := by kernel_rfl
theorem zr63 : zrC Try.prog 63 = some [.bool false, .int .i64 0, .slice none 0 0, .int .i64 0, .int .i64 0, .int .i64 0, .int .u32 0] := by kernel_rfl
theorem zr76 : zrC Try.prog 76 = some [.slice none 0 0, .int .u64 0] := by kernel_rfl
theorem zr97 : zrC Try.prog 97 = some [.int .i64 0] := by kernel_rfl
theorem zv97 : zrV Try.prog 97 = some (.agg #[.int .i64 0]) := by kernel_rfl
end Go.Proofs.Ytgomklemldldiaa
