/- How far: both ways, and by a way round; rows of no colour. -/
import Derived.Test.YtcfollajmmlfnaaW13
namespace Go.Proofs.Ytcfollajmmlfnaa
open Go.RowKit

theorem far_four (a b : C4) : a.far b = (max a.r b.r - min a.r b.r) + ((max a.g b.g - min a.g b.g) + ((max a.b b.b - min a.b b.b) + (max a.a b.a - min a.a b.a))) := by
  unfold C4.far C4.sumD all4
  simp [C4.dist, C4.part]
theorem d_symm (x y : Int) : max y x - min y x = max x y - min x y := by omega
theorem d_round (x y z : Int) : max x z - min x z ≤ (max x y - min x y) + (max y z - min y z) := by omega
theorem d_self (x : Int) : max x x - min x x = 0 := by omega
theorem d_pos (x y : Int) : 0 ≤ max x y - min x y ∧ (x ≠ y → 0 < max x y - min x y) := by omega
theorem far_symm (a b : C4) : b.far a = a.far b := by
  rw [far_four, far_four, d_symm a.r, d_symm a.g, d_symm a.b, d_symm a.a]
theorem far_round (a b c : C4) : a.far c ≤ a.far b + b.far c := by
  rw [far_four, far_four, far_four]
  have h1 := d_round a.r b.r c.r
  have h2 := d_round a.g b.g c.g
  have h3 := d_round a.b b.b c.b
  have h4 := d_round a.a b.a c.a
  generalize max a.r c.r - min a.r c.r = x1 at *
  generalize max a.g c.g - min a.g c.g = x2 at *
  generalize max a.b c.b - min a.b c.b = x3 at *
  generalize max a.a c.a - min a.a c.a = x4 at *
  generalize max a.r b.r - min a.r b.r = y1 at *
  generalize max a.g b.g - min a.g b.g = y2 at *
  generalize max a.b b.b - min a.b b.b = y3 at *
  generalize max a.a b.a - min a.a b.a = y4 at *
  generalize max b.r c.r - min b.r c.r = z1 at *
  generalize max b.g c.g - min b.g c.g = z2 at *
  generalize max b.b c.b - min b.b c.b = z3 at *
  generalize max b.a c.a - min b.a c.a = z4 at *
  omega
theorem far_self (a : C4) : a.far a = 0 := by
  rw [far_four, d_self, d_self, d_self, d_self]; rfl
theorem far_apart (a b : C4) (h : a.same b = false) : 0 < a.far b := by
  rw [far_four]
  have hne : a.r ≠ b.r ∨ a.g ≠ b.g ∨ a.b ≠ b.b ∨ a.a ≠ b.a := by
    by_cases h1 : a.r = b.r
    · by_cases h2 : a.g = b.g
      · by_cases h3 : a.b = b.b
        · by_cases h4 : a.a = b.a
          · simp [C4.same, h1, h2, h3, h4] at h
          · exact .inr (.inr (.inr h4))
        · exact .inr (.inr (.inl h3))
      · exact .inr (.inl h2)
    · exact .inl h1
  obtain ⟨p1, q1⟩ := d_pos a.r b.r
  obtain ⟨p2, q2⟩ := d_pos a.g b.g
  obtain ⟨p3, q3⟩ := d_pos a.b b.b
  obtain ⟨p4, q4⟩ := d_pos a.a b.a
  generalize max a.r b.r - min a.r b.r = y1 at *
  generalize max a.g b.g - min a.g b.g = y2 at *
  generalize max a.b b.b - min a.b b.b = y3 at *
  generalize max a.a b.a - min a.a b.a = y4 at *
  rcases hne with e | e | e | e
  · have := q1 e; omega
  · have := q2 e; omega
  · have := q3 e; omega
  · have := q4 e; omega

theorem nearest_twice (a b c : C4) : a.nearest [b, c, a, a] = a.nearest [b, c, a] := by
  have h3 : (nearUpto a [b, c, a] 3) = nearStep a (nearUpto a [b, c, a] 2) 2 a := rfl
  have h4 : (nearUpto a [b, c, a, a] 4) = nearStep a (nearStep a (nearUpto a [b, c, a] 2) 2 a) 3 a := rfl
  show (nearUpto a [b, c, a, a] 4).1 = (nearUpto a [b, c, a] 3).1
  rw [h3, h4]
  generalize nearUpto a [b, c, a] 2 = s
  obtain ⟨i, t⟩ := s
  unfold nearStep
  rw [far_self]
  dsimp only
  by_cases h : 0 < t
  · rw [if_pos h]; simp
  · rw [if_neg h]; dsimp only; rw [if_neg h]

set_option maxHeartbeats 1000000 in
theorem nearest_nil (c : C4) (_hok : c.ok) (w : World) :
    Calls Try.prog 20 #[c.val, .slice none 0 0] w fun e w' => e = .returned (.int .i64 (-1)) ∧ Below w.heap.size w w' := by
  go_enter Try.func20, Try.ntmps20
  go_wp2
  go_loopw [5, 6, 7, 8, 9, 12] (fun p t _ _ _ i wr => i = .int .i64 0 ∧ p = .int .i64 (-1) ∧ Below (w.heap.size + 1) (w.alloc (.cells #[.int .u8 c.r, .int .u8 c.g, .int .u8 c.b, .int .u8 c.a] 26)) wr)
    (fun _ _ _ _ _ i _ => 0)
  case atStart => exact ⟨rfl, rfl, Below.refl _ _⟩
  case round =>
    obtain ⟨rfl, rfl, hB⟩ := hrel
    have hBb : Below w.heap.size w wr := ((Below.refl _ _).alloc (Nat.le_refl _) _).trans (hB.mono (by omega))
    go_wp2
    go_ret
    exact ⟨rfl, hBb⟩

set_option maxHeartbeats 1000000 in
theorem layers_nil (u : C4) (_hu : u.ok) (w : World) :
    Calls Try.prog 15 #[u.val, .slice none 0 0] w fun e w' => e = .returned u.val ∧ Below w.heap.size w w' := by
  go_enter Try.func15, Try.ntmps15
  go_wp2
  go_loopw [12, 7] (fun i p wr => i = .int .i64 0 ∧ Below (w.heap.size + 1 + 1) (((w.alloc (.cells #[.int .u8 u.r, .int .u8 u.g, .int .u8 u.b, .int .u8 u.a] 26)).alloc (.cells #[.int .u8 0, .int .u8 0, .int .u8 0, .int .u8 0] 26)).alloc (.cells #[.int .u8 u.r, .int .u8 u.g, .int .u8 u.b, .int .u8 u.a] 56)) wr ∧ colIn wr (w.heap.size + 1 + 1) u)
    (fun i _ _ => 0)
  case atStart =>
    refine ⟨rfl, Below.refl _ _, ?_⟩
    refine ⟨by simp, ⟨?_, ?_, ?_, ?_⟩, ?_, ?_, ?_, ?_⟩ <;> simp [go_sem]
  case round =>
    obtain ⟨rfl, hB, hC⟩ := hrel
    have hs : w.heap.size + 1 + 1 < wr.heap.size := hC.1
    have hBb : Below w.heap.size w wr := (((((Below.refl _ _).alloc (Nat.le_refl _) _).alloc (by simp) _).alloc (by simp; omega) _)).trans (hB.mono (by omega))
    obtain ⟨hb, ⟨h0, h1, h2, h3⟩, z0, z1, z2, z3⟩ := hC
    have e0 := hB.cell (p := ⟨w.heap.size + 1, 0, none⟩) (by dsimp only; omega)
    have e1 := hB.cell (p := ⟨w.heap.size + 1, 1, none⟩) (by dsimp only; omega)
    have e2 := hB.cell (p := ⟨w.heap.size + 1, 2, none⟩) (by dsimp only; omega)
    have e3 := hB.cell (p := ⟨w.heap.size + 1, 3, none⟩) (by dsimp only; omega)
    have f0 := hB.frozen (p := ⟨w.heap.size + 1, 0, none⟩) (by dsimp only; omega)
    have f1 := hB.frozen (p := ⟨w.heap.size + 1, 1, none⟩) (by dsimp only; omega)
    have f2 := hB.frozen (p := ⟨w.heap.size + 1, 2, none⟩) (by dsimp only; omega)
    have f3 := hB.frozen (p := ⟨w.heap.size + 1, 3, none⟩) (by dsimp only; omega)
    simp [go_sem] at e0 e1 e2 e3 f0 f1 f2 f3
    go_wp2
    refine bodyPost_ret (v := u.val) ?_ rfl ⟨rfl, ?_⟩
    · simp [results, Try.results15, go_sem, e0, e1, e2, e3]
    · refine Below.setCell (Below.setCell (Below.setCell (Below.setCell hBb ?_ _) ?_ _) ?_ _) ?_ _ <;> (dsimp only; omega)
end Go.Proofs.Ytcfollajmmlfnaa
