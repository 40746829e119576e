/- what types are; the data of the layer -/
import Derived.Test.YtfdmfklofgmpfaaGreatLap
import Derived.Test.YtfdmfklofgmpfaaGreatProg
namespace Go.Proofs.YtfdmfklofgmpfaaGreat
set_option linter.unusedVariables false
set_option linter.unusedSimpArgs false
open Go.RowKit
theorem mixed : Tryz.prog.follows .mixedOrders = true := by kernel_rfl

def uc8 (n : Int) : List Value := [.int .u8 n]
def ic (n : Int) : List Value := [.int .i64 n]
def u32v (n : Nat) : Value := .int .u32 (n : Int)
def un8 (n : Nat) : List Value := [.int .u8 (n : Int)]
/-- a register's cells -/
def regL (d : Int) (ws : List Nat) (bits : Nat) : List Value := .int .u32 d :: .int .i32 0 :: .int .u32 0 :: (ws.map u32v ++ [.int .u32 (bits : Int)])
def tabL (d : Int) (ws : List Nat) : List Value := .int .u32 d :: .int .i32 0 :: .int .u32 0 :: (ws.map u32v ++ [])
theorem ar114 : arE Tryz.prog 114 = some (256, 1) := by kernel_rfl
theorem ar81 : arE Tryz.prog 81 = some (4, 1) := by kernel_rfl
theorem ar96 : arE Tryz.prog 96 = some (8, 1) := by kernel_rfl
theorem fl118 : fdL Tryz.prog 118 = some [(0, 259), (259, 1)] := by kernel_rfl
theorem fl88 : fdL Tryz.prog 88 = some [(0, 1)] := by kernel_rfl
theorem fl90 : fdL Tryz.prog 90 = some [(0, 1), (1, 1)] := by kernel_rfl
theorem fo107_1 : fdO Tryz.prog 107 1 = some 0 := by kernel_rfl
theorem fo109_0 : fdO Tryz.prog 109 0 = some 0 := by kernel_rfl
theorem fo111_1 : fdO Tryz.prog 111 1 = some 0 := by kernel_rfl
theorem fo113_1 : fdO Tryz.prog 113 1 = some 0 := by kernel_rfl
theorem fo113_2 : fdO Tryz.prog 113 2 = some 1 := by kernel_rfl
theorem fo116_0 : fdO Tryz.prog 116 0 = some 0 := by kernel_rfl
theorem fo116_1 : fdO Tryz.prog 116 1 = some 3 := by kernel_rfl
theorem fo118_0 : fdO Tryz.prog 118 0 = some 0 := by kernel_rfl
theorem fo118_1 : fdO Tryz.prog 118 1 = some 259 := by kernel_rfl
theorem fo88_0 : fdO Tryz.prog 88 0 = some 0 := by kernel_rfl
theorem fo90_0 : fdO Tryz.prog 90 0 = some 0 := by kernel_rfl
theorem gd81 : Tryz.prog.eqGuardType Tryz.prog.depth 81 = false := by kernel_rfl
theorem kn5 : knd Tryz.prog 5 = some .u8 := by kernel_rfl
theorem kn50 : knd Tryz.prog 50 = some .u64 := by kernel_rfl
theorem kn67 : knd Tryz.prog 67 = some .u32 := by kernel_rfl
theorem ni88 : niF Tryz.prog 88 = true := by kernel_rfl
theorem sl22 : slE Tryz.prog 22 = some (23, 1, 24) := by kernel_rfl
theorem sl23 : slE Tryz.prog 23 = some (5, 1, 1) := by kernel_rfl
theorem sl34 : slE Tryz.prog 34 = some (3, 1, 8) := by kernel_rfl
theorem tb102 : tyB Tryz.prog 102 = some (false, 1) := by kernel_rfl
theorem tb119 : tyB Tryz.prog 119 = some (false, 1) := by kernel_rfl
theorem tb21 : tyB Tryz.prog 21 = some (false, 1) := by kernel_rfl
theorem tb22 : tyB Tryz.prog 22 = some (false, 1) := by kernel_rfl
theorem tb23 : tyB Tryz.prog 23 = some (false, 1) := by kernel_rfl
theorem tb27 : tyB Tryz.prog 27 = some (false, 1) := by kernel_rfl
theorem tb3 : tyB Tryz.prog 3 = some (false, 1) := by kernel_rfl
theorem tb5 : tyB Tryz.prog 5 = some (false, 1) := by kernel_rfl
theorem tb50 : tyB Tryz.prog 50 = some (false, 1) := by kernel_rfl
theorem tb67 : tyB Tryz.prog 67 = some (false, 1) := by kernel_rfl
theorem tb81 : tyB Tryz.prog 81 = some (true, 4) := by kernel_rfl
theorem tb88 : tyB Tryz.prog 88 = some (true, 1) := by kernel_rfl
theorem tb90 : tyB Tryz.prog 90 = some (true, 2) := by kernel_rfl
theorem ty5 : (tyB Tryz.prog 5).isSome = true := by kernel_rfl
theorem ty50 : (tyB Tryz.prog 50).isSome = true := by kernel_rfl
theorem ty67 : (tyB Tryz.prog 67).isSome = true := by kernel_rfl
theorem zr118 : zrC Tryz.prog 118 = some (regL 0 (List.replicate 256 0) 0) := by kernel_rfl
theorem zr119 : zrC Tryz.prog 119 = some [.nilFunc] := by kernel_rfl
theorem zr23 : zrC Tryz.prog 23 = some [.slice none 0 0] := by kernel_rfl
theorem zr27 : zrC Tryz.prog 27 = some [.int .i64 0] := by kernel_rfl
theorem zr3 : zrC Tryz.prog 3 = some [.int .i64 0] := by kernel_rfl
theorem zr5 : zrC Tryz.prog 5 = some [.int .u8 0] := by kernel_rfl
theorem zr50 : zrC Tryz.prog 50 = some [.int .u64 0] := by kernel_rfl
theorem zr81 : zrC Tryz.prog 81 = some [.int .u8 0, .int .u8 0, .int .u8 0, .int .u8 0] := by kernel_rfl
theorem zr88 : zrC Tryz.prog 88 = some [.int .i64 0] := by kernel_rfl
theorem zr90 : zrC Tryz.prog 90 = some [.slice none 0 0, .int .i64 0] := by kernel_rfl
theorem zr96 : zrC Tryz.prog 96 = some [.int .u8 0, .int .u8 0, .int .u8 0, .int .u8 0, .int .u8 0, .int .u8 0, .int .u8 0, .int .u8 0] := by kernel_rfl
theorem zv88 : zrV Tryz.prog 88 = some (.agg #[.int .i64 0]) := by kernel_rfl
end Go.Proofs.YtfdmfklofgmpfaaGreat
