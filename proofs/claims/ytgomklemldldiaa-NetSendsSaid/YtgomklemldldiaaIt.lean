/- what types are; the data of the layer -/
import Derived.Test.YtgomklemldldiaaLfb
import Derived.Test.YtgomklemldldiaaProg
namespace Go.Proofs.Ytgomklemldldiaa
set_option linter.unusedVariables false
set_option linter.unusedSimpArgs false
open Go.RowKit
theorem mixed : Try.prog.follows .mixedOrders = true := by kernel_rfl

def uc8 (n : Int) : List Value := [.int .u8 n]
def ic (n : Int) : List Value := [.int .i64 n]
def u32v (n : Nat) : Value := .int .u32 (n : Int)
def un8 (n : Nat) : List Value := [.int .u8 (n : Int)]
/-- a register's cells -/
def regL (d : Int) (ws : List Nat) (bits : Nat) : List Value := .int .u32 d :: .int .i32 0 :: .int .u32 0 :: (ws.map u32v ++ [.int .u32 (bits : Int)])
def tabL (d : Int) (ws : List Nat) : List Value := .int .u32 d :: .int .i32 0 :: .int .u32 0 :: (ws.map u32v ++ [])
/-- a parcel -/
structure Par where
  to : Int
  b : List Nat
  sp : Bool
/-- its cells -/
def pD (p : Par) : List D := [.val (.int .i64 p.to), .slf 1 p.b.length (p.b.flatMap un8), .val (.bool p.sp)]
theorem ar119 : arE Try.prog 119 = some (256, 1) := by kernel_rfl
theorem ar91 : arE Try.prog 91 = some (4, 1) := by kernel_rfl
theorem fl123 : fdL Try.prog 123 = some [(0, 259), (259, 1)] := by kernel_rfl
theorem fo112_1 : fdO Try.prog 112 1 = some 0 := by kernel_rfl
theorem fo114_0 : fdO Try.prog 114 0 = some 0 := by kernel_rfl
theorem fo116_1 : fdO Try.prog 116 1 = some 0 := by kernel_rfl
theorem fo118_1 : fdO Try.prog 118 1 = some 0 := by kernel_rfl
theorem fo118_2 : fdO Try.prog 118 2 = some 1 := by kernel_rfl
theorem fo121_0 : fdO Try.prog 121 0 = some 0 := by kernel_rfl
theorem fo121_1 : fdO Try.prog 121 1 = some 3 := by kernel_rfl
theorem fo123_0 : fdO Try.prog 123 0 = some 0 := by kernel_rfl
theorem fo123_1 : fdO Try.prog 123 1 = some 259 := by kernel_rfl
theorem gd91 : Try.prog.eqGuardType Try.prog.depth 91 = false := by kernel_rfl
theorem kn47 : knd Try.prog 47 = some .u32 := by kernel_rfl
theorem kn5 : knd Try.prog 5 = some .u8 := by kernel_rfl
theorem sl36 : slE Try.prog 36 = some (5, 1, 1) := by kernel_rfl
theorem sl61 : slE Try.prog 61 = some (36, 1, 24) := by kernel_rfl
theorem tb124 : tyB Try.prog 124 = some (false, 1) := by kernel_rfl
theorem tb136 : tyB Try.prog 136 = some (false, 1) := by kernel_rfl
theorem tb21 : tyB Try.prog 21 = some (false, 1) := by kernel_rfl
theorem tb3 : tyB Try.prog 3 = some (false, 1) := by kernel_rfl
theorem tb36 : tyB Try.prog 36 = some (false, 1) := by kernel_rfl
theorem tb47 : tyB Try.prog 47 = some (false, 1) := by kernel_rfl
theorem tb5 : tyB Try.prog 5 = some (false, 1) := by kernel_rfl
theorem tb61 : tyB Try.prog 61 = some (false, 1) := by kernel_rfl
theorem tb91 : tyB Try.prog 91 = some (true, 4) := by kernel_rfl
theorem ty47 : (tyB Try.prog 47).isSome = true := by kernel_rfl
theorem ty5 : (tyB Try.prog 5).isSome = true := by kernel_rfl
theorem zr123 : zrC Try.prog 123 = some (regL 0 (List.replicate 256 0) 0) := by kernel_rfl
theorem zr124 : zrC Try.prog 124 = some [.nilFunc] := by kernel_rfl
theorem zr3 : zrC Try.prog 3 = some [.int .i64 0] := by kernel_rfl
theorem zr36 : zrC Try.prog 36 = some [.slice none 0 0] := by kernel_rfl
theorem zr5 : zrC Try.prog 5 = some [.int .u8 0] := by kernel_rfl
theorem zr91 : zrC Try.prog 91 = some [.int .u8 0, .int .u8 0, .int .u8 0, .int .u8 0] := by kernel_rfl
end Go.Proofs.Ytgomklemldldiaa
