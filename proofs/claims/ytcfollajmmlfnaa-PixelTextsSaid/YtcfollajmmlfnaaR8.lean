/- The document's hex and Text -/
import Derived.Test.YtcfollajmmlfnaaR3
import Derived.Test.YtcfollajmmlfnaaArr
import Derived.IntWalk
namespace Go.Proofs.Ytcfollajmmlfnaa
open Go.RowKit

abbrev hexAll : ByteArray := ⟨#[48, 49, 50, 51, 52, 53, 54, 55, 56, 57, 97, 98, 99, 100, 101, 102]⟩
def oneHex (d : Int) : ByteArray := ⟨#[UInt8.ofNat (hexDigit d).toNat]⟩
def twoHex (n : Int) : ByteArray := oneHex (n / 16) ++ oneHex (n % 16)

theorem ext_hex (d : Int) (h0 : 0 ≤ d) (h1 : d < 16) : hexAll.extract d.toNat (d + 1).toNat = oneHex d := by
  have hc : d = 0 ∨ d = 1 ∨ d = 2 ∨ d = 3 ∨ d = 4 ∨ d = 5 ∨ d = 6 ∨ d = 7 ∨ d = 8 ∨ d = 9 ∨ d = 10 ∨ d = 11 ∨ d = 12 ∨ d = 13 ∨ d = 14 ∨ d = 15 := by omega
  rcases hc with rfl | rfl | rfl | rfl | rfl | rfl | rfl | rfl | rfl | rfl | rfl | rfl | rfl | rfl | rfl | rfl <;> decide

set_option maxHeartbeats 1000000 in
theorem hex_any (n : Int) (h0 : 0 ≤ n) (h1 : n ≤ 255) (w : World) :
    Calls Try.prog 40 #[.int .i64 n] w fun e w' => e = .returned (.string (twoHex n)) ∧ Below w.heap.size w w' := by
  have r1 := ext_hex (n / 16) (by omega) (by omega)
  have r2 := ext_hex (n % 16) (by omega) (by omega)
  have b1 : 0 ≤ n / 16 ∧ n / 16 < 16 := by omega
  have b2 : 0 ≤ n % 16 ∧ n % 16 < 16 := by omega
  have hq : n.tdiv 16 = n / 16 := Int.tdiv_eq_ediv_of_nonneg h0
  have hr : n.tmod 16 = n % 16 := Int.tmod_eq_emod_of_nonneg h0
  generalize hx : n / 16 = x at *
  generalize hy : n % 16 = y at *
  have HT := Lib.hid (show twoHex n = oneHex x ++ oneHex y by unfold twoHex; rw [hx, hy])
  clear hx hy
  have w1 : IntKind.i64.wrap x = x := IntWalk.i64_in _ (by omega)
  have w2 : IntKind.i64.wrap (x + 1) = x + 1 := IntWalk.i64_in _ (by omega)
  have w3 : IntKind.i64.wrap y = y := IntWalk.i64_in _ (by omega)
  have w4 : IntKind.i64.wrap (y + 1) = y + 1 := IntWalk.i64_in _ (by omega)
  have c1 : 0 ≤ x := b1.1
  have c2 : x + 1 ≤ 16 := by omega
  have c3 : 0 ≤ y := b2.1
  have c4 : y + 1 ≤ 16 := by omega
  have c5 : 0 ≤ x + 1 := by omega
  have c6 : 0 ≤ y + 1 := by omega
  have c7 : x ≤ x + 1 := by omega
  have c8 : y ≤ y + 1 := by omega
  have s1 : (oneHex x).size = 1 := rfl
  have s2 : (oneHex y).size = 1 := rfl
  clear b1 b2
  go_enter Try.func40, Try.ntmps40
  go_wp2_with fail
  refine wp_region_dep w.heap.size 16 (by kernel_rfl) (by kernel_rfl) (by rfl) (by simp) ?_
  simp only [List.take_succ_cons, List.take_zero, List.drop_succ_cons, List.drop_zero]
  iterate 16 (refine wpDep_plain (by rfl) (fun K hK => ?_); go_simp; (refine hK _ ?_; clear hK K))
  refine wpDep_nil ?_
  intro f m _
  simp only [fillV]
  go_wp2
  go_ret
  exact ⟨by rw [HT.out]; rfl, m.h⟩

theorem arr_ix (x y z u : Int) (w : World) : (Instr.index 58 (arr4 x y z u) (.int .i64 0)).run Try.prog w = .ok (.int .i64 x) w ∧ (Instr.index 58 (arr4 x y z u) (.int .i64 1)).run Try.prog w = .ok (.int .i64 y) w ∧
    (Instr.index 58 (arr4 x y z u) (.int .i64 2)).run Try.prog w = .ok (.int .i64 z) w ∧ (Instr.index 58 (arr4 x y z u) (.int .i64 3)).run Try.prog w = .ok (.int .i64 u) w :=
  ⟨by kernel_rfl, by kernel_rfl, by kernel_rfl, by kernel_rfl⟩
theorem twoHex_size (n : Int) : (twoHex n).size = 2 := rfl

set_option maxHeartbeats 2000000 in
theorem rtext_any (c : C4) (hc : c.ok) (w : World) :
    Calls Try.prog 24 #[c.val] w fun e w' => e = .returned (.string (strOfNums (hexOf c all4))) ∧ Below w.heap.size w w' := by
  have hc' := Lib.hid hc
  obtain ⟨⟨a0, a1⟩, ⟨b0, b1⟩, ⟨c0, c1⟩, ⟨d0, d1⟩⟩ := hc
  have hts := twoHex_size
  have hix := arr_ix c.r c.g c.b c.a
  go_enter Try.func24, Try.ntmps24
  go_wp2_with fail
  refine (parts_any c hc'.out _).mono ?_
  rintro e w1 ⟨rfl, hB1⟩
  have hb1 : Below w.heap.size w w1 := ((Below.refl _ _).alloc (Nat.le_refl _) _).trans (hB1.mono (by simp))
  clear hB1
  have z1 := hb1.size
  go_wp2_with fail
  refine wp_loop_rounds 5 ?_
  rw [rounds_succ]
  go_wp2_with fail
  refine (hex_any c.r a0 a1 _).mono ?_
  rintro e w2 ⟨rfl, hB2⟩
  have hb2 := hb1.trans (hB2.mono z1)
  have z2 := hb2.size
  go_wp2_with fail
  rw [rounds_succ]
  go_wp2_with fail
  refine (hex_any c.g b0 b1 _).mono ?_
  rintro e w3 ⟨rfl, hB3⟩
  have hb3 := hb2.trans (hB3.mono z2)
  have z3 := hb3.size
  go_wp2_with fail
  rw [rounds_succ]
  go_wp2_with fail
  refine (hex_any c.b c0 c1 _).mono ?_
  rintro e w4 ⟨rfl, hB4⟩
  have hb4 := hb3.trans (hB4.mono z3)
  have z4 := hb4.size
  go_wp2_with fail
  rw [rounds_succ]
  go_wp2_with fail
  refine (hex_any c.a d0 d1 _).mono ?_
  rintro e w5 ⟨rfl, hB5⟩
  have hb5 := hb4.trans (hB5.mono z4)
  go_wp2_with fail
  rw [rounds_succ]
  go_wp2
  go_ret
  refine ⟨?_, hb5⟩
  rfl
end Go.Proofs.Ytcfollajmmlfnaa
