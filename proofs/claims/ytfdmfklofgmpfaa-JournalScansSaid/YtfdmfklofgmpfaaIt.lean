/- what types are; the data of the layer -/
import Derived.Test.YtfdmfklofgmpfaaLfb
import Derived.Test.YtfdmfklofgmpfaaProg
namespace Go.Proofs.Ytfdmfklofgmpfaa
set_option linter.unusedVariables false
set_option linter.unusedSimpArgs false
open Go.RowKit
theorem mixed : Try.prog.follows .mixedOrders = true := by kernel_rfl

def uc8 (n : Int) : List Value := [.int .u8 n]
def ic (n : Int) : List Value := [.int .i64 n]
def u32v (n : Nat) : Value := .int .u32 (n : Int)
def un8 (n : Nat) : List Value := [.int .u8 (n : Int)]
/-- a register's cells -/
def regL (d : Int) (ws : List Nat) (bits : Nat) : List Value := .int .u32 d :: .int .i32 0 :: .int .u32 0 :: (ws.map u32v ++ [.int .u32 (bits : Int)])
def tabL (d : Int) (ws : List Nat) : List Value := .int .u32 d :: .int .i32 0 :: .int .u32 0 :: (ws.map u32v ++ [])
theorem ar111 : arE Try.prog 111 = some (8, 1) := by kernel_rfl
theorem ar129 : arE Try.prog 129 = some (256, 1) := by kernel_rfl
theorem ar97 : arE Try.prog 97 = some (4, 1) := by kernel_rfl
theorem fl133 : fdL Try.prog 133 = some [(0, 259), (259, 1)] := by kernel_rfl
theorem fl93 : fdL Try.prog 93 = some [(0, 1)] := by kernel_rfl
theorem fl95 : fdL Try.prog 95 = some [(0, 1), (1, 1)] := by kernel_rfl
theorem fo122_1 : fdO Try.prog 122 1 = some 0 := by kernel_rfl
theorem fo124_0 : fdO Try.prog 124 0 = some 0 := by kernel_rfl
theorem fo126_1 : fdO Try.prog 126 1 = some 0 := by kernel_rfl
theorem fo128_1 : fdO Try.prog 128 1 = some 0 := by kernel_rfl
theorem fo128_2 : fdO Try.prog 128 2 = some 1 := by kernel_rfl
theorem fo131_0 : fdO Try.prog 131 0 = some 0 := by kernel_rfl
theorem fo131_1 : fdO Try.prog 131 1 = some 3 := by kernel_rfl
theorem fo133_0 : fdO Try.prog 133 0 = some 0 := by kernel_rfl
theorem fo133_1 : fdO Try.prog 133 1 = some 259 := by kernel_rfl
theorem fo93_0 : fdO Try.prog 93 0 = some 0 := by kernel_rfl
theorem fo95_0 : fdO Try.prog 95 0 = some 0 := by kernel_rfl
theorem gd97 : Try.prog.eqGuardType Try.prog.depth 97 = false := by kernel_rfl
theorem kn47 : knd Try.prog 47 = some .u32 := by kernel_rfl
theorem kn5 : knd Try.prog 5 = some .u8 := by kernel_rfl
theorem kn55 : knd Try.prog 55 = some .u64 := by kernel_rfl
theorem ni93 : niF Try.prog 93 = true := by kernel_rfl
theorem sl22 : slE Try.prog 22 = some (5, 1, 1) := by kernel_rfl
theorem sl25 : slE Try.prog 25 = some (22, 1, 24) := by kernel_rfl
theorem sl28 : slE Try.prog 28 = some (3, 1, 8) := by kernel_rfl
theorem tb105 : tyB Try.prog 105 = some (false, 1) := by kernel_rfl
theorem tb134 : tyB Try.prog 134 = some (false, 1) := by kernel_rfl
theorem tb21 : tyB Try.prog 21 = some (false, 1) := by kernel_rfl
theorem tb22 : tyB Try.prog 22 = some (false, 1) := by kernel_rfl
theorem tb25 : tyB Try.prog 25 = some (false, 1) := by kernel_rfl
theorem tb3 : tyB Try.prog 3 = some (false, 1) := by kernel_rfl
theorem tb35 : tyB Try.prog 35 = some (false, 1) := by kernel_rfl
theorem tb47 : tyB Try.prog 47 = some (false, 1) := by kernel_rfl
theorem tb5 : tyB Try.prog 5 = some (false, 1) := by kernel_rfl
theorem tb55 : tyB Try.prog 55 = some (false, 1) := by kernel_rfl
theorem tb67 : tyB Try.prog 67 = some (false, 1) := by kernel_rfl
theorem tb93 : tyB Try.prog 93 = some (true, 1) := by kernel_rfl
theorem tb95 : tyB Try.prog 95 = some (true, 2) := by kernel_rfl
theorem tb97 : tyB Try.prog 97 = some (true, 4) := by kernel_rfl
theorem ty47 : (tyB Try.prog 47).isSome = true := by kernel_rfl
theorem ty5 : (tyB Try.prog 5).isSome = true := by kernel_rfl
theorem ty55 : (tyB Try.prog 55).isSome = true := by kernel_rfl
theorem zr111 : zrC Try.prog 111 = some [.int .u8 0, .int .u8 0, .int .u8 0, .int .u8 0, .int .u8 0, .int .u8 0, .int .u8 0, .int .u8 0] := by kernel_rfl
theorem zr133 : zrC Try.prog 133 = some (regL 0 (List.replicate 256 0) 0) := by kernel_rfl
theorem zr134 : zrC Try.prog 134 = some [.nilFunc] := by kernel_rfl
theorem zr22 : zrC Try.prog 22 = some [.slice none 0 0] := by kernel_rfl
theorem zr3 : zrC Try.prog 3 = some [.int .i64 0] := by kernel_rfl
theorem zr35 : zrC Try.prog 35 = some [.int .i64 0] := by kernel_rfl
theorem zr5 : zrC Try.prog 5 = some [.int .u8 0] := by kernel_rfl
theorem zr55 : zrC Try.prog 55 = some [.int .u64 0] := by kernel_rfl
theorem zr93 : zrC Try.prog 93 = some [.int .i64 0] := by kernel_rfl
theorem zr95 : zrC Try.prog 95 = some [.slice none 0 0, .int .i64 0] := by kernel_rfl
theorem zr97 : zrC Try.prog 97 = some [.int .u8 0, .int .u8 0, .int .u8 0, .int .u8 0] := by kernel_rfl
theorem zv93 : zrV Try.prog 93 = some (.agg #[.int .i64 0]) := by kernel_rfl
end Go.Proofs.Ytfdmfklofgmpfaa
