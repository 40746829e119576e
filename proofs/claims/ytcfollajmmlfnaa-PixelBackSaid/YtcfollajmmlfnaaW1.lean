/- walks of pixel's small functions -/
import Derived.Test.YtcfollajmmlfnaaNear
import Derived.WalkSpells
import Derived.WalkLawsBesides
import Derived.Lib.Hide
namespace Go.Proofs.Ytcfollajmmlfnaa
open Go.RowKit

/-- what is left of two parts, as a number -/
def shareN (a pa b pb : Int) : Int := (a * pa + b * pb + 127) / 255

theorem mul_bd {a b : Int} (h1 : 0 ≤ a ∧ a ≤ 255) (h2 : 0 ≤ b ∧ b ≤ 255) : 0 ≤ a * b ∧ a * b ≤ 65025 :=
  ⟨Int.mul_nonneg h1.1 h2.1, by have := Int.mul_le_mul h1.2 h2.2 h2.1 (by omega); omega⟩

theorem share_any (a pa b pb : Int) (h1 : 0 ≤ a ∧ a ≤ 255) (h2 : 0 ≤ pa ∧ pa ≤ 255) (h3 : 0 ≤ b ∧ b ≤ 255) (h4 : 0 ≤ pb ∧ pb ≤ 255) (w : World) :
    Calls Try.prog 36 #[.int .u8 a, .int .u8 pa, .int .u8 b, .int .u8 pb] w fun e w' => e = .returned (.int .u8 (shareN a pa b pb % 256)) ∧ w = w' := by
  have hx := mul_bd h1 h2
  have hy := mul_bd h3 h4
  go_enter Try.func36, Try.ntmps36
  go_wp2
  go_ret
  exact ⟨by simp [shareN], rfl⟩

theorem partsOf_any (r g b a : Int) (w : World) :
    Calls Try.prog 34 #[.agg #[.int .u8 r, .int .u8 g, .int .u8 b, .int .u8 a]] w fun e w' => e = .returned (.agg #[.int .u8 r, .int .u8 g, .int .u8 b, .int .u8 a]) ∧ Below w.heap.size w w' := by
  go_enter Try.func34, Try.ntmps34
  go_wp2
  refine bodyPost_ret (v := .agg #[.int .u8 r, .int .u8 g, .int .u8 b, .int .u8 a]) (by simp [results, Try.results34, go_sem]) rfl ⟨rfl, ?_⟩
  exact ((Below.refl _ _).alloc (Nat.le_refl _) _).alloc (by simp) _

theorem colorOf_any (r g b a : Int) (w : World) :
    Calls Try.prog 32 #[.agg #[.int .u8 r, .int .u8 g, .int .u8 b, .int .u8 a]] w fun e w' => e = .returned (.agg #[.int .u8 r, .int .u8 g, .int .u8 b, .int .u8 a]) ∧ Below w.heap.size w w' := by
  go_enter Try.func32, Try.ntmps32
  go_wp2
  refine bodyPost_ret (v := .agg #[.int .u8 r, .int .u8 g, .int .u8 b, .int .u8 a]) (by simp [results, Try.results32, go_sem]) rfl ⟨rfl, ?_⟩
  exact ((Below.refl _ _).alloc (Nat.le_refl _) _).alloc (by simp) _

def coverF (a i x y : Int) : Int := if i < 3 then shareN y a x (255 - a) % 256 else (a + shareN x (255 - a) 0 0 % 256) % 256

theorem cover1_any (i x y a : Int) (h1 : 0 ≤ x ∧ x ≤ 255) (h2 : 0 ≤ y ∧ y ≤ 255) (h3 : 0 ≤ a ∧ a ≤ 255) (b o : Nat) (w : World) (hc : w.cell? ⟨b, o, none⟩ = some (.int .u8 a)) (hb : b < w.heap.size) :
    Calls Try.prog 43 #[.int .i64 i, .int .u8 x, .int .u8 y, .pointer (some ⟨b, o, none⟩)] w fun e w' => e = .returned (.int .u8 (coverF a i x y)) ∧ Below w.heap.size w w' := by
  unfold coverF
  by_cases hi : i < 3
  · go_enter Try.func43, Try.ntmps43
    go_wp2_with (go_at_call 36; refine (share_any _ _ _ _ h2 h3 h1 (by omega) _).mono ?_; rintro e w' ⟨rfl, rfl⟩)
    go_ret
    exact ⟨by simp, Below.refl _ _⟩
  · go_enter Try.func43, Try.ntmps43
    go_wp2_with fail
    have hn := @Near.cells w.heap.size w
    obtain ⟨hn, _⟩ := hn
    refine wp_region_near w.heap.size (by kernel_rfl) (by kernel_rfl) ?_
    repeat (go_big_quiet_step ((go_at_call 36; exact near_same (share_any _ _ 0 0 h1 (by omega) (by omega) (by omega) _))))
    refine wpQuiet_nil ?_
    rintro _ ⟨n1, rfl⟩
    go_wp2
    go_ret
    exact ⟨by simp, n1.h⟩
end Go.Proofs.Ytcfollajmmlfnaa
