/- walks: Join, Meet -/
import Derived.Test.YtjpgabpicfcapaaV13
namespace Go.Proofs.Ytjpgabpicfcapaa
open Go.RowKit

set_option maxRecDepth 4000 in
set_option maxHeartbeats 2000000 in
theorem join_any (v : V) (l : List V) (a0 : Option Addr) (cap : Nat) (w : World) (hl : rowVec w a0 l) (hmax : l.length ≤ 9223372036854775807) :
    Calls Try.prog 20 #[vec v, .slice a0 l.length cap] w fun e w' => e = .returned (.tuple #[vec (joinR (fun x y : Int => max x y) v l).1, .int .i64 (joinR (fun x y : Int => max x y) v l).2]) ∧ Below w.heap.size w w' := by
  have hj := fun w' (h : Below w.heap.size w w') => joined_join v l a0 cap w' (rowV_below hl h) hmax
  generalize joinR (fun x y : Int => max x y) v l = R at *
  clear hl
  go_enter Try.func20, Try.ntmps20
  go_wp2_with fail
  refine (hj _ (((Below.refl _ _).alloc (Nat.le_refl _) _).alloc (by simp) _)).mono ?_
  clear hj
  rintro e w1 ⟨rfl, hB⟩
  have b0 := hB.size
  simp only [World.size_alloc] at b0
  have lc : w.heap.size + 1 < w1.heap.size := by omega
  have hb1 : Below w.heap.size w w1 := (((Below.refl _ _).alloc (Nat.le_refl _) _).alloc (by simp) _).trans (hB.mono (by simp <;> omega))
  have r0 := hB.cell (p := ⟨w.heap.size + 1, 0, none⟩) (by simp <;> omega)
  have f0 := hB.frozen (p := ⟨w.heap.size + 1, 0, none⟩) (by simp <;> omega)
  have r1 := hB.cell (p := ⟨w.heap.size + 1, 1, none⟩) (by simp <;> omega)
  have f1 := hB.frozen (p := ⟨w.heap.size + 1, 1, none⟩) (by simp <;> omega)
  have r2 := hB.cell (p := ⟨w.heap.size + 1, 2, none⟩) (by simp <;> omega)
  have f2 := hB.frozen (p := ⟨w.heap.size + 1, 2, none⟩) (by simp <;> omega)
  have r3 := hB.cell (p := ⟨w.heap.size + 1, 3, none⟩) (by simp <;> omega)
  have f3 := hB.frozen (p := ⟨w.heap.size + 1, 3, none⟩) (by simp <;> omega)
  have r4 := hB.cell (p := ⟨w.heap.size + 1, 4, none⟩) (by simp <;> omega)
  have f4 := hB.frozen (p := ⟨w.heap.size + 1, 4, none⟩) (by simp <;> omega)
  have r5 := hB.cell (p := ⟨w.heap.size + 1, 5, none⟩) (by simp <;> omega)
  have f5 := hB.frozen (p := ⟨w.heap.size + 1, 5, none⟩) (by simp <;> omega)
  have r6 := hB.cell (p := ⟨w.heap.size + 1, 6, none⟩) (by simp <;> omega)
  have f6 := hB.frozen (p := ⟨w.heap.size + 1, 6, none⟩) (by simp <;> omega)
  have r7 := hB.cell (p := ⟨w.heap.size + 1, 7, none⟩) (by simp <;> omega)
  have f7 := hB.frozen (p := ⟨w.heap.size + 1, 7, none⟩) (by simp <;> omega)
  have r8 := hB.cell (p := ⟨w.heap.size + 1, 8, none⟩) (by simp <;> omega)
  have f8 := hB.frozen (p := ⟨w.heap.size + 1, 8, none⟩) (by simp <;> omega)
  simp [go_sem] at r0 r1 r2 r3 r4 r5 r6 r7 r8 f0 f1 f2 f3 f4 f5 f6 f7 f8
  clear hB
  go_wp2
  refine ⟨rfl, .tuple #[vec R.1, .int .i64 R.2], ?_, rfl, (((((((((hb1.setCell (p := ⟨w.heap.size + 1, 0, none⟩) (by dsimp only; omega) _).setCell (p := ⟨w.heap.size + 1, 1, none⟩) (by dsimp only; omega) _).setCell (p := ⟨w.heap.size + 1, 2, none⟩) (by dsimp only; omega) _).setCell (p := ⟨w.heap.size + 1, 3, none⟩) (by dsimp only; omega) _).setCell (p := ⟨w.heap.size + 1, 4, none⟩) (by dsimp only; omega) _).setCell (p := ⟨w.heap.size + 1, 5, none⟩) (by dsimp only; omega) _).setCell (p := ⟨w.heap.size + 1, 6, none⟩) (by dsimp only; omega) _).setCell (p := ⟨w.heap.size + 1, 7, none⟩) (by dsimp only; omega) _).setCell (p := ⟨w.heap.size + 1, 8, none⟩) (by dsimp only; omega) _)⟩
  simp [results, Try.results20, go_sem, r0, r1, r2, r3, r4, r5, r6, r7, r8]

set_option maxRecDepth 4000 in
set_option maxHeartbeats 2000000 in
theorem meet_any (v : V) (l : List V) (a0 : Option Addr) (cap : Nat) (w : World) (hl : rowVec w a0 l) (hmax : l.length ≤ 9223372036854775807) :
    Calls Try.prog 21 #[vec v, .slice a0 l.length cap] w fun e w' => e = .returned (.tuple #[vec (joinR (fun x y : Int => min x y) v l).1, .int .i64 (joinR (fun x y : Int => min x y) v l).2]) ∧ Below w.heap.size w w' := by
  have hj := fun w' (h : Below w.heap.size w w') => joined_meet v l a0 cap w' (rowV_below hl h) hmax
  generalize joinR (fun x y : Int => min x y) v l = R at *
  clear hl
  go_enter Try.func21, Try.ntmps21
  go_wp2_with fail
  refine (hj _ (((Below.refl _ _).alloc (Nat.le_refl _) _).alloc (by simp) _)).mono ?_
  clear hj
  rintro e w1 ⟨rfl, hB⟩
  have b0 := hB.size
  simp only [World.size_alloc] at b0
  have lc : w.heap.size + 1 < w1.heap.size := by omega
  have hb1 : Below w.heap.size w w1 := (((Below.refl _ _).alloc (Nat.le_refl _) _).alloc (by simp) _).trans (hB.mono (by simp <;> omega))
  have r0 := hB.cell (p := ⟨w.heap.size + 1, 0, none⟩) (by simp <;> omega)
  have f0 := hB.frozen (p := ⟨w.heap.size + 1, 0, none⟩) (by simp <;> omega)
  have r1 := hB.cell (p := ⟨w.heap.size + 1, 1, none⟩) (by simp <;> omega)
  have f1 := hB.frozen (p := ⟨w.heap.size + 1, 1, none⟩) (by simp <;> omega)
  have r2 := hB.cell (p := ⟨w.heap.size + 1, 2, none⟩) (by simp <;> omega)
  have f2 := hB.frozen (p := ⟨w.heap.size + 1, 2, none⟩) (by simp <;> omega)
  have r3 := hB.cell (p := ⟨w.heap.size + 1, 3, none⟩) (by simp <;> omega)
  have f3 := hB.frozen (p := ⟨w.heap.size + 1, 3, none⟩) (by simp <;> omega)
  have r4 := hB.cell (p := ⟨w.heap.size + 1, 4, none⟩) (by simp <;> omega)
  have f4 := hB.frozen (p := ⟨w.heap.size + 1, 4, none⟩) (by simp <;> omega)
  have r5 := hB.cell (p := ⟨w.heap.size + 1, 5, none⟩) (by simp <;> omega)
  have f5 := hB.frozen (p := ⟨w.heap.size + 1, 5, none⟩) (by simp <;> omega)
  have r6 := hB.cell (p := ⟨w.heap.size + 1, 6, none⟩) (by simp <;> omega)
  have f6 := hB.frozen (p := ⟨w.heap.size + 1, 6, none⟩) (by simp <;> omega)
  have r7 := hB.cell (p := ⟨w.heap.size + 1, 7, none⟩) (by simp <;> omega)
  have f7 := hB.frozen (p := ⟨w.heap.size + 1, 7, none⟩) (by simp <;> omega)
  have r8 := hB.cell (p := ⟨w.heap.size + 1, 8, none⟩) (by simp <;> omega)
  have f8 := hB.frozen (p := ⟨w.heap.size + 1, 8, none⟩) (by simp <;> omega)
  simp [go_sem] at r0 r1 r2 r3 r4 r5 r6 r7 r8 f0 f1 f2 f3 f4 f5 f6 f7 f8
  clear hB
  go_wp2
  refine ⟨rfl, .tuple #[vec R.1, .int .i64 R.2], ?_, rfl, (((((((((hb1.setCell (p := ⟨w.heap.size + 1, 0, none⟩) (by dsimp only; omega) _).setCell (p := ⟨w.heap.size + 1, 1, none⟩) (by dsimp only; omega) _).setCell (p := ⟨w.heap.size + 1, 2, none⟩) (by dsimp only; omega) _).setCell (p := ⟨w.heap.size + 1, 3, none⟩) (by dsimp only; omega) _).setCell (p := ⟨w.heap.size + 1, 4, none⟩) (by dsimp only; omega) _).setCell (p := ⟨w.heap.size + 1, 5, none⟩) (by dsimp only; omega) _).setCell (p := ⟨w.heap.size + 1, 6, none⟩) (by dsimp only; omega) _).setCell (p := ⟨w.heap.size + 1, 7, none⟩) (by dsimp only; omega) _).setCell (p := ⟨w.heap.size + 1, 8, none⟩) (by dsimp only; omega) _)⟩
  simp [results, Try.results21, go_sem, r0, r1, r2, r3, r4, r5, r6, r7, r8]
end Go.Proofs.Ytjpgabpicfcapaa
