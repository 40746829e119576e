/- PixelWays -/
import Derived.Test.YtcfollajmmlfnaaW14
namespace Go.Proofs.Ytcfollajmmlfnaa
open Go.RowKit

/-- a row of colours, just made -/
def rowOf (l : List C4) (v : Value) (w : World) : Prop := ∃ g, v = .slice (some ⟨g, 0, none⟩) l.length l.length ∧ colsAt w g 0 l
theorem rowOf_stays (l : List C4) (v : Value) : Stays (rowOf l v) := by
  rintro w w' hb ⟨g, rfl, hg, hc⟩
  refine ⟨g, rfl, Nat.lt_of_lt_of_le hg hb.size, fun k h => ?_⟩
  obtain ⟨h0, h1, h2, h3⟩ := hc k h
  exact ⟨(hb.cell (p := ⟨g, _, none⟩) hg).trans h0, (hb.cell (p := ⟨g, _, none⟩) hg).trans h1, (hb.cell (p := ⟨g, _, none⟩) hg).trans h2, (hb.cell (p := ⟨g, _, none⟩) hg).trans h3⟩
theorem rowOf3 (x y z : C4) (w : World) : rowOf [x, y, z] (.slice (some ⟨w.heap.size, 0, none⟩) 3 3) (w.alloc (.cells #[.int .u8 x.r, .int .u8 x.g, .int .u8 x.b, .int .u8 x.a, .int .u8 y.r, .int .u8 y.g, .int .u8 y.b, .int .u8 y.a, .int .u8 z.r, .int .u8 z.g, .int .u8 z.b, .int .u8 z.a] 26)) := by
  refine ⟨w.heap.size, rfl, by simp, fun k hk => ?_⟩
  match k, hk with
  | 0, _ => exact ⟨by simp [go_sem], by simp [go_sem], by simp [go_sem], by simp [go_sem]⟩
  | 1, _ => exact ⟨by simp [go_sem], by simp [go_sem], by simp [go_sem], by simp [go_sem]⟩
  | 2, _ => exact ⟨by simp [go_sem], by simp [go_sem], by simp [go_sem], by simp [go_sem]⟩
theorem rowOf4 (x y z u : C4) (w : World) : rowOf [x, y, z, u] (.slice (some ⟨w.heap.size, 0, none⟩) 4 4) (w.alloc (.cells #[.int .u8 x.r, .int .u8 x.g, .int .u8 x.b, .int .u8 x.a, .int .u8 y.r, .int .u8 y.g, .int .u8 y.b, .int .u8 y.a, .int .u8 z.r, .int .u8 z.g, .int .u8 z.b, .int .u8 z.a, .int .u8 u.r, .int .u8 u.g, .int .u8 u.b, .int .u8 u.a] 26)) := by
  refine ⟨w.heap.size, rfl, by simp, fun k hk => ?_⟩
  match k, hk with
  | 0, _ => exact ⟨by simp [go_sem], by simp [go_sem], by simp [go_sem], by simp [go_sem]⟩
  | 1, _ => exact ⟨by simp [go_sem], by simp [go_sem], by simp [go_sem], by simp [go_sem]⟩
  | 2, _ => exact ⟨by simp [go_sem], by simp [go_sem], by simp [go_sem], by simp [go_sem]⟩
  | 3, _ => exact ⟨by simp [go_sem], by simp [go_sem], by simp [go_sem], by simp [go_sem]⟩

theorem near_yes (a b : C4) (ha : a.ok) (hb : b.ok) (most : Int) (w : World) (h : a.far b ≤ most) :
    Calls Try.prog 19 #[a.val, b.val, .int .i64 most] w fun e w' => e = .returned (.bool true) ∧ Below w.heap.size w w' := by
  have := near_any a b ha hb most w
  rwa [decide_eq_true h] at this
theorem near_no (a b : C4) (ha : a.ok) (hb : b.ok) (most : Int) (w : World) (h : ¬ a.far b ≤ most) :
    Calls Try.prog 19 #[a.val, b.val, .int .i64 most] w fun e w' => e = .returned (.bool false) ∧ Below w.heap.size w w' := by
  have := near_any a b ha hb most w
  rwa [decide_eq_false h] at this
theorem far_back (a b : C4) (ha : a.ok) (hb : b.ok) (w : World) :
    Calls Try.prog 18 #[b.val, a.val] w fun e w' => e = .returned (.int .i64 (a.far b)) ∧ Below w.heap.size w w' := by
  have := far_any b a hb ha w
  rwa [far_symm] at this

set_option maxHeartbeats 4000000 in
theorem ways_any (a b c : C4) (ha : a.ok) (hb : b.ok) (hc : c.ok) (w : World) :
    Calls Try.prog 7 #[a.val, b.val, c.val] w fun e w' => e = .returned (.bool true) ∧ Below w.heap.size w w' := by
  have b1 := far_bd a b ha hb
  have b2 := far_bd b c hb hc
  have b3 := far_bd a c ha hc
  have tri := far_round a b c
  go_enter Try.func7, Try.ntmps7
  go_wp2_with fail
  refine (wakes_any _).mono ?_
  rintro e w1 ⟨rfl, hB1⟩
  have s1 := hB1.size
  simp only [World.size_alloc] at s1
  have ca0 : w1.cell? ⟨w.heap.size, 0, none⟩ = some (.int .u8 a.r) := (hB1.cell (p := ⟨w.heap.size, 0, none⟩) (by simp; omega)).trans (by simp [go_sem])
  have ca1 : w1.cell? ⟨w.heap.size, 1, none⟩ = some (.int .u8 a.g) := (hB1.cell (p := ⟨w.heap.size, 1, none⟩) (by simp; omega)).trans (by simp [go_sem])
  have ca2 : w1.cell? ⟨w.heap.size, 2, none⟩ = some (.int .u8 a.b) := (hB1.cell (p := ⟨w.heap.size, 2, none⟩) (by simp; omega)).trans (by simp [go_sem])
  have ca3 : w1.cell? ⟨w.heap.size, 3, none⟩ = some (.int .u8 a.a) := (hB1.cell (p := ⟨w.heap.size, 3, none⟩) (by simp; omega)).trans (by simp [go_sem])
  have cb0 : w1.cell? ⟨w.heap.size + 1, 0, none⟩ = some (.int .u8 b.r) := (hB1.cell (p := ⟨w.heap.size + 1, 0, none⟩) (by simp)).trans (by simp [go_sem])
  have cb1 : w1.cell? ⟨w.heap.size + 1, 1, none⟩ = some (.int .u8 b.g) := (hB1.cell (p := ⟨w.heap.size + 1, 1, none⟩) (by simp)).trans (by simp [go_sem])
  have cb2 : w1.cell? ⟨w.heap.size + 1, 2, none⟩ = some (.int .u8 b.b) := (hB1.cell (p := ⟨w.heap.size + 1, 2, none⟩) (by simp)).trans (by simp [go_sem])
  have cb3 : w1.cell? ⟨w.heap.size + 1, 3, none⟩ = some (.int .u8 b.a) := (hB1.cell (p := ⟨w.heap.size + 1, 3, none⟩) (by simp)).trans (by simp [go_sem])
  have cc0 : w1.cell? ⟨w.heap.size + 1 + 1, 0, none⟩ = some (.int .u8 c.r) := (hB1.cell (p := ⟨w.heap.size + 1 + 1, 0, none⟩) (by simp)).trans (by simp [go_sem])
  have cc1 : w1.cell? ⟨w.heap.size + 1 + 1, 1, none⟩ = some (.int .u8 c.g) := (hB1.cell (p := ⟨w.heap.size + 1 + 1, 1, none⟩) (by simp)).trans (by simp [go_sem])
  have cc2 : w1.cell? ⟨w.heap.size + 1 + 1, 2, none⟩ = some (.int .u8 c.b) := (hB1.cell (p := ⟨w.heap.size + 1 + 1, 2, none⟩) (by simp)).trans (by simp [go_sem])
  have cc3 : w1.cell? ⟨w.heap.size + 1 + 1, 3, none⟩ = some (.int .u8 c.a) := (hB1.cell (p := ⟨w.heap.size + 1 + 1, 3, none⟩) (by simp)).trans (by simp [go_sem])
  have hb1 : Below w.heap.size w w1 := ((((Below.refl _ _).alloc (Nat.le_refl _) _).alloc (by simp) _).alloc (by simp; omega) _).trans (hB1.mono (by simp; omega))
  clear hB1
  have l0 : w.heap.size < w1.heap.size := by omega
  have l1 : w.heap.size + 1 < w1.heap.size := by omega
  have l2 : w.heap.size + 1 + 1 < w1.heap.size := by omega
  have hn := @near_cell w1.heap.size
  go_wp2
  refine wp_region_dep w1.heap.size 9 (by kernel_rfl) (by kernel_rfl) (by rfl) (Nat.le_refl _) ?_
  simp only [List.take_succ_cons, List.take_zero, List.drop_succ_cons, List.drop_zero]
  iterate 2 (refine wpDep_plain (by rfl) (fun K hK => ?_); go_simp; (refine hK _ ?_; clear hK K))
  refine wpDep_plain (by rfl) (fun K hK => ?_); go_simp; refine ⟨_, fun n => callsTo_of (far_any a b ha hb _), ?_⟩; (refine hK _ ?_; clear hK K)
  iterate 2 (refine wpDep_plain (by rfl) (fun K hK => ?_); go_simp; (refine hK _ ?_; clear hK K))
  refine wpDep_plain (by rfl) (fun K hK => ?_); go_simp; refine ⟨_, fun n => callsTo_of (far_any b c hb hc _), ?_⟩; (refine hK _ ?_; clear hK K)
  iterate 2 (refine wpDep_plain (by rfl) (fun K hK => ?_); go_simp; (refine hK _ ?_; clear hK K))
  refine wpDep_plain (by rfl) (fun K hK => ?_); go_simp; refine ⟨_, fun n => callsTo_of (far_any a c ha hc _), ?_⟩; (refine hK _ ?_; clear hK K)
  refine wpDep_nil ?_
  intro f m _
  simp only [fillV]

  go_wp2_with fail
  refine (far_back a b ha hb _).mono ?_
  rintro e w2 ⟨rfl, hB2⟩
  obtain ⟨m2, rfl⟩ : ∃ m2 : Near w1.heap.size w1, w2 = m2.u := ⟨⟨w2, m.h.trans (hB2.mono m.h.size)⟩, rfl⟩
  clear hB2
  have n1 : decide (1020 < a.far b) = false := by simp; omega
  have n2 : decide (a.far b < 0) = false := by simp; omega
  have n3 : decide (a.far b + b.far c < a.far c) = false := by simp; omega
  have hsame : (a.same b = true ∧ (a.far b == 0) = true) ∨ (a.same b = false ∧ (a.far b == 0) = false) := by
    cases hs : a.same b
    · have := far_apart a b hs
      exact .inr ⟨rfl, by simp; omega⟩
    · exact .inl ⟨rfl, by simp [same_far a b hs]⟩
  have hsz : ((a.far b == 0) == a.same b) = true := by rcases hsame with ⟨h1, h2⟩ | ⟨h1, h2⟩ <;> rw [h1, h2] <;> rfl
  clear hsame
  have hrun := run_eql_col a b
  go_wp2_with fail
  clear hrun
  have hl3 : ∀ x ∈ [b, c, a], x.ok := by intro x hx; simp at hx; rcases hx with rfl | rfl | rfl <;> assumption
  have hl4 : ∀ x ∈ [b, c, a, a], x.ok := by intro x hx; simp at hx; rcases hx with rfl | rfl | rfl | rfl <;> assumption
  have hwr : IntKind.i64.wrap (a.far b - 1) = a.far b - 1 := by simp [IntKind.wrap, IntKind.bits, IntKind.signed]; omega
  have sm := m2.h.size
  refine wp_region_dep w1.heap.size 33 (by kernel_rfl) (by kernel_rfl) (by rfl) sm ?_
  simp only [List.take_succ_cons, List.take_zero, List.drop_succ_cons, List.drop_zero]
  iterate 3 (refine wpDep_plain (by rfl) (fun K hK => ?_); go_simp; (refine hK _ ?_; clear hK K))
  refine wpDep_plain (by rfl) (fun K hK => ?_); go_simp; refine ⟨_, fun n => callsTo_of (near_yes a b ha hb _ _ (by omega)), ?_⟩; (refine hK _ ?_; clear hK K)
  iterate 5 (refine wpDep_plain (by rfl) (fun K hK => ?_); go_simp; (refine hK _ ?_; clear hK K))
  refine wpDep_plain (by rfl) (fun K hK => ?_); go_simp; refine ⟨_, fun n => callsTo_of (near_no a b ha hb _ _ (by omega)), ?_⟩; (refine hK _ ?_; clear hK K)
  iterate 7 (refine wpDep_plain (by rfl) (fun K hK => ?_); go_simp; (refine hK _ ?_; clear hK K))
  refine wpDep_make (rowOf [b, c, a]) (by rfl) (by rfl) (rowOf_stays _) (by rfl) ?_ ?_
  · intro n
    go_simp
    exact ⟨(Below.refl _ _).alloc (Nat.le_refl _) _, rowOf3 b c a n.u⟩
  refine wpDep_use (t := 66) (φ := rowOf [b, c, a]) (by simp) (by rfl) (by simp [Act.put_size]) (by rfl) (.int .i64 (a.nearest [b, c, a])) ?_ ?_
  · rintro x n ⟨g, rfl, hrow⟩
    go_simp
    exact callsTo_of (nearest_row a ha [b, c, a] hl3 g 0 3 _ hrow (by simp))
  iterate 5 (refine wpDep_plain (by rfl) (fun K hK => ?_); go_simp; (refine hK _ ?_; clear hK K))
  refine wpDep_make (rowOf [b, c, a, a]) (by rfl) (by rfl) (rowOf_stays _) (by rfl) ?_ ?_
  · intro n
    go_simp
    exact ⟨(Below.refl _ _).alloc (Nat.le_refl _) _, rowOf4 b c a a n.u⟩
  refine wpDep_use (t := 73) (φ := rowOf [b, c, a, a]) (by simp) (by rfl) (by simp [Act.put_size]) (by rfl) (.int .i64 (a.nearest [b, c, a])) ?_ ?_
  · rintro x n ⟨g, rfl, hrow⟩
    go_simp
    have := nearest_row a ha [b, c, a, a] hl4 g 0 4 n.u hrow (by simp)
    rw [nearest_twice] at this
    exact callsTo_of this
  iterate 4 (refine wpDep_plain (by rfl) (fun K hK => ?_); go_simp; (refine hK _ ?_; clear hK K))
  refine wpDep_plain (by rfl) (fun K hK => ?_); go_simp; refine ⟨_, fun n => callsTo_of (nearest_nil a ha _), ?_⟩; (refine hK _ ?_; clear hK K)
  iterate 2 (refine wpDep_plain (by rfl) (fun K hK => ?_); go_simp; (refine hK _ ?_; clear hK K))
  refine wpDep_nil ?_
  intro f2 m3 _
  simp only [fillV]
  go_wp2
  go_ret
  exact ⟨rfl, hb1.trans ((m2.h.trans (m3.h.mono (Nat.le_refl _))).mono (by omega))⟩
end Go.Proofs.Ytcfollajmmlfnaa
