/- Colours over others and between others: what hides, what lies between; the contracts that PixelHides asks -/
import Derived.Test.YtcfollajmmlfnaaBk
namespace Go.Proofs.Ytcfollajmmlfnaa
open Go.RowKit

theorem over_whole (u v : C4) (hv : v.ok) (h : v.a = 255) : u.over v = v := by
  obtain ⟨⟨r0, r1⟩, ⟨g0, g1⟩, ⟨b0, b1⟩, ⟨a0, a1⟩⟩ := hv
  obtain ⟨r, g, b, a⟩ := v
  dsimp only at *
  subst h
  simp only [C4.over, coverF, shareN, C4.mk.injEq]
  refine ⟨?_, ?_, ?_, ?_⟩ <;> simp <;> omega
theorem over_gone (u v : C4) (hu : u.ok) (h : v.a = 0) : u.over v = u := by
  obtain ⟨⟨r0, r1⟩, ⟨g0, g1⟩, ⟨b0, b1⟩, ⟨a0, a1⟩⟩ := hu
  obtain ⟨r, g, b, a⟩ := u
  dsimp only at *
  simp only [C4.over, coverF, shareN, h, C4.mk.injEq]
  refine ⟨?_, ?_, ?_, ?_⟩ <;> simp <;> omega
def C4.mix (p : Int) (u v : C4) : C4 := ⟨mixF p 0 u.r v.r, mixF p 1 u.g v.g, mixF p 2 u.b v.b, mixF p 3 u.a v.a⟩
theorem mix_none (u v : C4) (hu : u.ok) : C4.mix 0 u v = u := by
  obtain ⟨⟨r0, r1⟩, ⟨g0, g1⟩, ⟨b0, b1⟩, ⟨a0, a1⟩⟩ := hu
  obtain ⟨r, g, b, a⟩ := u
  dsimp only at *
  simp only [C4.mix, mixF, shareN, C4.mk.injEq]
  refine ⟨?_, ?_, ?_, ?_⟩ <;> simp <;> omega
theorem mix_all (u v : C4) (hv : v.ok) : C4.mix 255 u v = v := by
  obtain ⟨⟨r0, r1⟩, ⟨g0, g1⟩, ⟨b0, b1⟩, ⟨a0, a1⟩⟩ := hv
  obtain ⟨r, g, b, a⟩ := v
  dsimp only at *
  simp only [C4.mix, mixF, shareN, C4.mk.injEq]
  refine ⟨?_, ?_, ?_, ?_⟩ <;> simp <;> omega
/-- a share lies between -/
theorem share_between (x y p : Int) (hp : Byte p) : min x y ≤ shareN x (255 - p) y p ∧ shareN x (255 - p) y p ≤ max x y := by
  obtain ⟨p0, p1⟩ := hp
  have m1 := Int.mul_le_mul_of_nonneg_right (show min x y ≤ x by omega) (show 0 ≤ 255 - p by omega)
  have m2 := Int.mul_le_mul_of_nonneg_right (show min x y ≤ y by omega) p0
  have m3 := Int.mul_le_mul_of_nonneg_right (show x ≤ max x y by omega) (show 0 ≤ 255 - p by omega)
  have m4 := Int.mul_le_mul_of_nonneg_right (show y ≤ max x y by omega) p0
  have e1 : min x y * (255 - p) + min x y * p = min x y * 255 := by rw [← Int.mul_add]; congr 1; omega
  have e2 : max x y * (255 - p) + max x y * p = max x y * 255 := by rw [← Int.mul_add]; congr 1; omega
  unfold shareN
  generalize x * (255 - p) = s1 at *
  generalize y * p = s2 at *
  generalize min x y * (255 - p) = t1 at *
  generalize min x y * p = t2 at *
  generalize max x y * (255 - p) = u1 at *
  generalize max x y * p = u2 at *
  generalize min x y = m at *
  generalize max x y = n at *
  constructor <;> omega
theorem mix_same (u : C4) (p : Int) (hu : u.ok) (hp : Byte p) : C4.mix p u u = u := by
  have key : ∀ i x : Int, Byte x → mixF p i x x = x := by
    rintro i x ⟨x0, x1⟩
    have h := share_between x x p hp
    rw [Int.min_self, Int.max_self] at h
    unfold mixF
    generalize shareN x (255 - p) x p = s at *
    omega
  obtain ⟨hr, hg, hb, ha⟩ := hu
  unfold C4.mix
  rw [key _ _ hr, key _ _ hg, key _ _ hb, key _ _ ha]
theorem mix_between (p i x y : Int) (hx : Byte x) (hy : Byte y) (hp : Byte p) : min x y ≤ mixF p i x y ∧ mixF p i x y ≤ max x y := by
  obtain ⟨x0, x1⟩ := hx
  obtain ⟨y0, y1⟩ := hy
  have h := share_between x y p hp
  unfold mixF
  generalize shareN x (255 - p) y p = s at *
  have h1 : 0 ≤ min x y := by omega
  have h2 : max x y ≤ 255 := by omega
  generalize min x y = m at *
  generalize max x y = n at *
  constructor <;> omega
theorem cover_between (a i x y : Int) (hi : i < 3) (hx : Byte x) (hy : Byte y) (ha : Byte a) : min x y ≤ coverF a i x y ∧ coverF a i x y ≤ max x y := by
  obtain ⟨x0, x1⟩ := hx
  obtain ⟨y0, y1⟩ := hy
  obtain ⟨a0, a1⟩ := ha
  have h := share_between y x (255 - a) ⟨by omega, by omega⟩
  rw [show (255 : Int) - (255 - a) = a by omega] at h
  unfold coverF
  rw [if_pos hi]
  generalize shareN y a x (255 - a) = s at *
  have h1 : 0 ≤ min x y := by omega
  have h2 : max x y ≤ 255 := by omega
  rw [Int.min_comm y x, Int.max_comm y x] at h
  generalize min x y = m at *
  generalize max x y = n at *
  constructor <;> omega
theorem cover_alpha (a x : Int) (hx : Byte x) (ha : Byte a) : a ≤ coverF a 3 x a ∧ x ≤ coverF a 3 x a := by
  obtain ⟨x0, x1⟩ := hx
  obtain ⟨a0, a1⟩ := ha
  unfold coverF shareN
  rw [if_neg (by omega)]
  have m0 := Int.mul_nonneg x0 (show 0 ≤ 255 - a by omega)
  have m1 := Int.mul_le_mul_of_nonneg_right x1 (show 0 ≤ 255 - a by omega)
  have m2 : (x - a) * 255 ≤ x * (255 - a) := by
    have h := Int.mul_le_mul_of_nonneg_left x1 a0
    rw [Int.mul_sub, Int.sub_mul, Int.mul_comm x a]
    omega
  generalize x * (255 - a) = s at *
  simp only [Int.mul_zero, Int.add_zero]
  constructor <;> omega

theorem over_c (u v : C4) (hu : u.ok) (hv : v.ok) (w : World) :
    Calls Try.prog 10 #[u.val, v.val] w fun e w' => e = .returned (u.over v).val ∧ Below w.heap.size w w' :=
  over_any u.r u.g u.b u.a v.r v.g v.b v.a w hu.1 hu.2.1 hu.2.2.1 hu.2.2.2 hv.1 hv.2.1 hv.2.2.1 hv.2.2.2
theorem mix_c (p : Int) (u v : C4) (hp : Byte p) (hu : u.ok) (hv : v.ok) (w : World) :
    Calls Try.prog 12 #[u.val, v.val, .int .u8 p] w fun e w' => e = .returned (C4.mix p u v).val ∧ Below w.heap.size w w' :=
  mix_any u.r u.g u.b u.a v.r v.g v.b v.a p w hu.1 hu.2.1 hu.2.2.1 hu.2.2.2 hv.1 hv.2.1 hv.2.2.1 hv.2.2.2 hp

def C4.whole (b : C4) : C4 := ⟨b.r, b.g, b.b, 255⟩
def C4.gone (b : C4) : C4 := ⟨b.r, b.g, b.b, 0⟩
theorem whole_ok (b : C4) (hb : b.ok) : b.whole.ok := ⟨hb.1, hb.2.1, hb.2.2.1, ⟨by simp only [C4.whole]; omega, by simp only [C4.whole]; omega⟩⟩
theorem gone_ok (b : C4) (hb : b.ok) : b.gone.ok := ⟨hb.1, hb.2.1, hb.2.2.1, ⟨by simp only [C4.gone]; omega, by simp only [C4.gone]; omega⟩⟩

theorem over_whole_c (u b : C4) (hu : u.ok) (hb : b.ok) (w : World) :
    Calls Try.prog 10 #[u.val, col b.r b.g b.b 255] w fun e w' => e = .returned (col b.r b.g b.b 255) ∧ Below w.heap.size w w' := by
  have := over_c u b.whole hu (whole_ok b hb) w
  rwa [over_whole u b.whole (whole_ok b hb) rfl] at this
theorem over_gone_c (u b : C4) (hu : u.ok) (hb : b.ok) (w : World) :
    Calls Try.prog 10 #[u.val, col b.r b.g b.b 0] w fun e w' => e = .returned u.val ∧ Below w.heap.size w w' := by
  have := over_c u b.gone hu (gone_ok b hb) w
  rwa [over_gone u b.gone hu rfl] at this
theorem mix_none_c (u v : C4) (hu : u.ok) (hv : v.ok) (w : World) :
    Calls Try.prog 12 #[u.val, v.val, .int .u8 0] w fun e w' => e = .returned u.val ∧ Below w.heap.size w w' := by
  have := mix_c 0 u v ⟨by decide, by decide⟩ hu hv w
  rwa [mix_none u v hu] at this
theorem mix_all_c (u v : C4) (hu : u.ok) (hv : v.ok) (w : World) :
    Calls Try.prog 12 #[u.val, v.val, .int .u8 255] w fun e w' => e = .returned v.val ∧ Below w.heap.size w w' := by
  have := mix_c 255 u v ⟨by decide, by decide⟩ hu hv w
  rwa [mix_all u v hv] at this
theorem mix_same_c (p : Int) (u : C4) (hp : Byte p) (hu : u.ok) (w : World) :
    Calls Try.prog 12 #[u.val, u.val, .int .u8 p] w fun e w' => e = .returned u.val ∧ Below w.heap.size w w' := by
  have := mix_c p u u hp hu hu w
  rwa [mix_same u p hu hp] at this
theorem eql_self (c : C4) (w : World) : (binOp .eql 26 (.agg #[.int .u8 c.r, .int .u8 c.g, .int .u8 c.b, .int .u8 c.a]) (.agg #[.int .u8 c.r, .int .u8 c.g, .int .u8 c.b, .int .u8 c.a])).run Try.prog w = .ok (.bool true) w := by
  have := run_eql_col c c w
  rwa [same_self] at this
theorem neq_self (c : C4) (w : World) : (binOp .neq 26 (.agg #[.int .u8 c.r, .int .u8 c.g, .int .u8 c.b, .int .u8 c.a]) (.agg #[.int .u8 c.r, .int .u8 c.g, .int .u8 c.b, .int .u8 c.a])).run Try.prog w = .ok (.bool false) w := by
  have := run_neq_col c c w
  rwa [same_self] at this

theorem between_yes (x y z : Int) (h : min x y ≤ z ∧ z ≤ max x y) (w : World) :
    Calls Try.prog 28 #[.int .u8 x, .int .u8 y, .int .u8 z] w fun e w' => e = .returned (.bool true) ∧ w = w' := by
  have h1 : decide (min x y ≤ z) = true := by simpa using h.1
  have h2 : decide (z ≤ max x y) = true := by simpa using h.2
  go_enter Try.func28, Try.ntmps28
  go_wp2
  all_goals go_ret
  all_goals (refine ⟨by simp; omega, rfl⟩)

theorem rowOf2 (x y : C4) (w : World) : rowOf [x, y] (.slice (some ⟨w.heap.size, 0, none⟩) 2 2) (w.alloc (.cells #[.int .u8 x.r, .int .u8 x.g, .int .u8 x.b, .int .u8 x.a, .int .u8 y.r, .int .u8 y.g, .int .u8 y.b, .int .u8 y.a] 26)) := by
  refine ⟨w.heap.size, rfl, by simp, fun k hk => ?_⟩
  match k, hk with
  | 0, _ => exact ⟨by simp [go_sem], by simp [go_sem], by simp [go_sem], by simp [go_sem]⟩
  | 1, _ => exact ⟨by simp [go_sem], by simp [go_sem], by simp [go_sem], by simp [go_sem]⟩
theorem layers_whole (a b : C4) (ha : a.ok) (hb : b.ok) (g cap : Nat) (w : World) (hc : colsAt w g 0 [b, b.whole]) :
    Calls Try.prog 15 #[a.val, .slice (some ⟨g, 0, none⟩) 2 cap] w fun e w' => e = .returned (col b.r b.g b.b 255) ∧ Below w.heap.size w w' := by
  have := layers_row a ha [b, b.whole] (by intro c hc; simp at hc; rcases hc with rfl | rfl; exact hb; exact whole_ok _ hb) g 0 cap w hc (by simp)
  have e : [b, b.whole].foldl C4.over a = b.whole := over_whole _ _ (whole_ok b hb) rfl
  rwa [e] at this
end Go.Proofs.Ytcfollajmmlfnaa
