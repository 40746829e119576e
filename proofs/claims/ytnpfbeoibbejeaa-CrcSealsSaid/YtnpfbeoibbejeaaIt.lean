/- what types are; the data of the layer -/
import Derived.Test.YtnpfbeoibbejeaaLop
import Derived.Test.YtnpfbeoibbejeaaProg
namespace Go.Proofs.Ytnpfbeoibbejeaa
set_option linter.unusedVariables false
set_option linter.unusedSimpArgs false
open Go.RowKit
theorem mixed : Try.prog.follows .mixedOrders = true := by kernel_rfl

def uc8 (n : Int) : List Value := [.int .u8 n]
def ic (n : Int) : List Value := [.int .i64 n]
def u32v (n : Nat) : Value := .int .u32 (n : Int)
def un8 (n : Nat) : List Value := [.int .u8 (n : Int)]
/-- a register's cells -/
def regL (d : Int) (ws : List Nat) (bits : Nat) : List Value := .int .u32 d :: .int .i32 0 :: .int .u32 0 :: (ws.map u32v ++ [.int .u32 (bits : Int)])
def tabL (d : Int) (ws : List Nat) : List Value := .int .u32 d :: .int .i32 0 :: .int .u32 0 :: (ws.map u32v ++ [])
theorem ar32 : arE Try.prog 32 = some (256, 1) := by kernel_rfl
theorem ar41 : arE Try.prog 41 = some (2, 1) := by kernel_rfl
theorem ar45 : arE Try.prog 45 = some (4, 1) := by kernel_rfl
theorem fl80 : fdL Try.prog 80 = some [(0, 259), (259, 1)] := by kernel_rfl
theorem fo62_1 : fdO Try.prog 62 1 = some 0 := by kernel_rfl
theorem fo64_0 : fdO Try.prog 64 0 = some 0 := by kernel_rfl
theorem fo66_1 : fdO Try.prog 66 1 = some 0 := by kernel_rfl
theorem fo68_1 : fdO Try.prog 68 1 = some 0 := by kernel_rfl
theorem fo68_2 : fdO Try.prog 68 2 = some 1 := by kernel_rfl
theorem fo70_0 : fdO Try.prog 70 0 = some 0 := by kernel_rfl
theorem fo70_1 : fdO Try.prog 70 1 = some 3 := by kernel_rfl
theorem fo80_0 : fdO Try.prog 80 0 = some 0 := by kernel_rfl
theorem fo80_1 : fdO Try.prog 80 1 = some 259 := by kernel_rfl
theorem gd45 : Try.prog.eqGuardType Try.prog.depth 45 = false := by kernel_rfl
theorem kn27 : knd Try.prog 27 = some .u32 := by kernel_rfl
theorem kn3 : knd Try.prog 3 = some .i64 := by kernel_rfl
theorem kn49 : knd Try.prog 49 = some .u64 := by kernel_rfl
theorem kn5 : knd Try.prog 5 = some .u8 := by kernel_rfl
theorem sl22 : slE Try.prog 22 = some (25, 1, 24) := by kernel_rfl
theorem sl23 : slE Try.prog 23 = some (27, 1, 4) := by kernel_rfl
theorem sl25 : slE Try.prog 25 = some (5, 1, 1) := by kernel_rfl
theorem sl35 : slE Try.prog 35 = some (41, 2, 8) := by kernel_rfl
theorem tb21 : tyB Try.prog 21 = some (false, 1) := by kernel_rfl
theorem tb22 : tyB Try.prog 22 = some (false, 1) := by kernel_rfl
theorem tb25 : tyB Try.prog 25 = some (false, 1) := by kernel_rfl
theorem tb27 : tyB Try.prog 27 = some (false, 1) := by kernel_rfl
theorem tb3 : tyB Try.prog 3 = some (false, 1) := by kernel_rfl
theorem tb32 : tyB Try.prog 32 = some (true, 256) := by kernel_rfl
theorem tb41 : tyB Try.prog 41 = some (true, 2) := by kernel_rfl
theorem tb45 : tyB Try.prog 45 = some (true, 4) := by kernel_rfl
theorem tb5 : tyB Try.prog 5 = some (false, 1) := by kernel_rfl
theorem tb78 : tyB Try.prog 78 = some (false, 1) := by kernel_rfl
theorem tb81 : tyB Try.prog 81 = some (false, 1) := by kernel_rfl
theorem ty27 : (tyB Try.prog 27).isSome = true := by kernel_rfl
theorem ty3 : (tyB Try.prog 3).isSome = true := by kernel_rfl
theorem ty49 : (tyB Try.prog 49).isSome = true := by kernel_rfl
theorem ty5 : (tyB Try.prog 5).isSome = true := by kernel_rfl
theorem un4 : Try.prog.underlying 4 = some .bool := by kernel_rfl
theorem zr25 : zrC Try.prog 25 = some [.slice none 0 0] := by kernel_rfl
theorem zr3 : zrC Try.prog 3 = some [.int .i64 0] := by kernel_rfl
theorem zr32 : zrC Try.prog 32 = some (List.replicate 256 (.int .u32 0)) := by kernel_rfl
theorem zr41 : zrC Try.prog 41 = some [.int .u32 0, .int .u32 0] := by kernel_rfl
theorem zr45 : zrC Try.prog 45 = some [.int .u8 0, .int .u8 0, .int .u8 0, .int .u8 0] := by kernel_rfl
theorem zr5 : zrC Try.prog 5 = some [.int .u8 0] := by kernel_rfl
theorem zr70 : zrC Try.prog 70 = some (tabL 0 (List.replicate 256 0)) := by kernel_rfl
theorem zr80 : zrC Try.prog 80 = some (regL 0 (List.replicate 256 0) 0) := by kernel_rfl
theorem zr81 : zrC Try.prog 81 = some [.nilFunc] := by kernel_rfl
end Go.Proofs.Ytnpfbeoibbejeaa
