/- The document's answers for colours: parts, and the colour of parts -/
import Derived.RegionTactic
import Derived.ChangeAlike
import Derived.Test.YtcfollajmmlfnaaHm
namespace Go.Proofs.Ytcfollajmmlfnaa
open Go.RowKit

abbrev arr4 (x y z u : Int) : Value := .agg #[.int .i64 x, .int .i64 y, .int .i64 z, .int .i64 u]

theorem parts_any (c : C4) (hc : c.ok) (w : World) :
    Calls Try.prog 30 #[c.val] w fun e w' => e = .returned (arr4 c.r c.g c.b c.a) ∧ Below w.heap.size w w' := by
  obtain ⟨⟨a0, a1⟩, ⟨b0, b1⟩, ⟨c0, c1⟩, ⟨d0, d1⟩⟩ := hc
  go_enter Try.func30, Try.ntmps30
  go_wp2
  refine bodyPost_ret (v := arr4 c.r c.g c.b c.a) (by simp [results, Try.results30, go_sem]) rfl ⟨rfl, ?_⟩
  exact ((Below.refl _ _).alloc (Nat.le_refl _) _).alloc (by simp) _

theorem of_any (x y z u : Int) (w : World) :
    Calls Try.prog 31 #[arr4 x y z u] w fun e w' => e = .returned (col (x % 256) (y % 256) (z % 256) (u % 256)) ∧ Below w.heap.size w w' := by
  go_enter Try.func31, Try.ntmps31
  go_wp2
  refine bodyPost_ret (v := col (x % 256) (y % 256) (z % 256) (u % 256)) (by simp [results, Try.results31, go_sem, IntKind.wrap_u8']) rfl ⟨rfl, ?_⟩
  exact ((Below.refl _ _).alloc (Nat.le_refl _) _).alloc (by simp) _

set_option maxHeartbeats 2000000 in
theorem rpack_any (c : C4) (hc : c.ok) (w : World) :
    Calls Try.prog 22 #[c.val] w fun e w' => e = .returned (.int .u32 c.word) ∧ Below w.heap.size w w' := by
  have hbd := word_bd c hc
  have hc' := hc
  obtain ⟨⟨a0, a1⟩, ⟨b0, b1⟩, ⟨c0, c1⟩, ⟨d0, d1⟩⟩ := hc
  unfold C4.word at hbd
  go_enter Try.func22, Try.ntmps22
  go_wp2_with (go_at_call 30; refine (parts_any c hc' _).mono ?_; rintro e w' ⟨rfl, hB⟩)
  go_ret
  refine ⟨?_, ?_⟩
  · simp [C4.word]
  · exact Below.alloc (((Below.refl _ _).alloc (Nat.le_refl _) _).trans (hB.mono (by simp))) (by have := hB.size; simp at this; omega) _
end Go.Proofs.Ytcfollajmmlfnaa
