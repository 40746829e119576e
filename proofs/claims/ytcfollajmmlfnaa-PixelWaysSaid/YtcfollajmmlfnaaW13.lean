/- The layer does something: wakes. -/
import Derived.Test.YtcfollajmmlfnaaW12
namespace Go.Proofs.Ytcfollajmmlfnaa
open Go.RowKit

theorem byte_of {x : Int} (h0 : 0 ≤ x) (h1 : x ≤ 255) : Byte x := ⟨h0, h1⟩

theorem reads_a {e : Ending} (h : readsAs ⟨#[48, 49, 48, 50, 48, 51, 102, 102]⟩ e) : e = .returned (.tuple #[col 1 2 3 255, .int .i64 0]) := by
  have hw : wordUp ⟨#[48, 49, 48, 50, 48, 51, 102, 102]⟩ 8 = some 16909311 := by kernel_rfl
  have hs : (⟨#[48, 49, 48, 50, 48, 51, 102, 102]⟩ : ByteArray).size = 8 := rfl
  unfold readsAs at h
  rw [if_pos hs, hw] at h
  exact h
theorem reads_b {e : Ending} (h : readsAs ⟨#[48, 49, 103, 50, 48, 51, 48, 52]⟩ e) : e = .returned (.tuple #[col 0 0 0 0, .int .i64 130]) := by
  have hw : wordUp ⟨#[48, 49, 103, 50, 48, 51, 48, 52]⟩ 8 = none := by kernel_rfl
  have hs : (⟨#[48, 49, 103, 50, 48, 51, 48, 52]⟩ : ByteArray).size = 8 := rfl
  unfold readsAs at h
  rw [if_pos hs, hw] at h
  exact h
theorem over_a : col (coverF 128 0 10 200) (coverF 128 1 20 100) (coverF 128 2 30 50) (coverF 128 3 255 128) = col 105 60 40 255 := by kernel_rfl
theorem text_a : strOfNums (hexOf ⟨1, 2, 3, 255⟩ all4) = ⟨#[48, 49, 48, 50, 48, 51, 102, 102]⟩ := by kernel_rfl
theorem near_a : C4.nearest ⟨5, 5, 5, 5⟩ [⟨0, 0, 0, 0⟩, ⟨9, 9, 9, 9⟩] = 1 := by kernel_rfl

set_option maxHeartbeats 2000000 in
theorem wakes_any (w : World) :
    Calls Try.prog 9 #[] w fun e w' => e = .returned (.bool true) ∧ Below w.heap.size w w' := by
  go_enter Try.func9, Try.ntmps9
  go_wp2_with fail
  refine (over_any 10 20 30 255 200 100 50 128 _ ⟨by omega, by omega⟩ ⟨by omega, by omega⟩ ⟨by omega, by omega⟩ ⟨by omega, by omega⟩ ⟨by omega, by omega⟩ ⟨by omega, by omega⟩ ⟨by omega, by omega⟩ ⟨by omega, by omega⟩).mono ?_
  rintro e w1 ⟨rfl, hB1⟩
  rw [over_a]
  have s1 := hB1.size
  go_wp2_with fail
  refine (read_any _ _).mono ?_
  rintro e w2 ⟨he, hB2⟩
  obtain rfl := reads_a he
  clear he
  have s2 := hB2.size
  simp only [World.size_alloc] at s2
  have c0 : w2.cell? ⟨w1.heap.size, 0, none⟩ = some (.int .u8 105) := (hB2.cell (p := ⟨w1.heap.size, 0, none⟩) (by simp)).trans (by simp [go_sem])
  have c1 : w2.cell? ⟨w1.heap.size, 1, none⟩ = some (.int .u8 60) := (hB2.cell (p := ⟨w1.heap.size, 1, none⟩) (by simp)).trans (by simp [go_sem])
  have c2 : w2.cell? ⟨w1.heap.size, 2, none⟩ = some (.int .u8 40) := (hB2.cell (p := ⟨w1.heap.size, 2, none⟩) (by simp)).trans (by simp [go_sem])
  have c3 : w2.cell? ⟨w1.heap.size, 3, none⟩ = some (.int .u8 255) := (hB2.cell (p := ⟨w1.heap.size, 3, none⟩) (by simp)).trans (by simp [go_sem])
  have l1 : w1.heap.size < w2.heap.size := by omega
  have hb2 : Below w.heap.size w w2 := (hB1.alloc s1 _).trans (hB2.mono (by simp; omega))
  clear hB2 hB1
  go_wp2_with fail
  refine (read_any _ _).mono ?_
  rintro e w3 ⟨he, hB3⟩
  obtain rfl := reads_b he
  clear he
  have s3 := hB3.size
  simp only [World.size_alloc] at s3
  have c0 : w3.cell? ⟨w1.heap.size, 0, none⟩ = some (.int .u8 105) := (hB3.cell (p := ⟨w1.heap.size, 0, none⟩) (by simp; omega)).trans (by simp [go_sem, c0, l1])
  have c1 : w3.cell? ⟨w1.heap.size, 1, none⟩ = some (.int .u8 60) := (hB3.cell (p := ⟨w1.heap.size, 1, none⟩) (by simp; omega)).trans (by simp [go_sem, c1, l1])
  have c2 : w3.cell? ⟨w1.heap.size, 2, none⟩ = some (.int .u8 40) := (hB3.cell (p := ⟨w1.heap.size, 2, none⟩) (by simp; omega)).trans (by simp [go_sem, c2, l1])
  have c3 : w3.cell? ⟨w1.heap.size, 3, none⟩ = some (.int .u8 255) := (hB3.cell (p := ⟨w1.heap.size, 3, none⟩) (by simp; omega)).trans (by simp [go_sem, c3, l1])
  have d0 : w3.cell? ⟨w2.heap.size, 0, none⟩ = some (.int .u8 1) := (hB3.cell (p := ⟨w2.heap.size, 0, none⟩) (by simp)).trans (by simp [go_sem])
  have d1 : w3.cell? ⟨w2.heap.size, 1, none⟩ = some (.int .u8 2) := (hB3.cell (p := ⟨w2.heap.size, 1, none⟩) (by simp)).trans (by simp [go_sem])
  have d2 : w3.cell? ⟨w2.heap.size, 2, none⟩ = some (.int .u8 3) := (hB3.cell (p := ⟨w2.heap.size, 2, none⟩) (by simp)).trans (by simp [go_sem])
  have d3 : w3.cell? ⟨w2.heap.size, 3, none⟩ = some (.int .u8 255) := (hB3.cell (p := ⟨w2.heap.size, 3, none⟩) (by simp)).trans (by simp [go_sem])
  have l2 : w1.heap.size < w3.heap.size := by omega
  have l3 : w2.heap.size < w3.heap.size := by omega
  have hb3 : Below w.heap.size w w3 := (hb2.alloc (by omega) _).trans (hB3.mono (by simp; omega))
  clear hB3 hb2
  go_wp2_with fail
  refine (text_any ⟨1, 2, 3, 255⟩ ⟨⟨by decide, by decide⟩, ⟨by decide, by decide⟩, ⟨by decide, by decide⟩, ⟨by decide, by decide⟩⟩ _).mono ?_
  rintro e w4 ⟨rfl, hB4⟩
  rw [text_a]
  have s4 := hB4.size
  simp only [World.size_alloc] at s4
  have hb4 : Below w.heap.size w w4 := (hb3.alloc (by omega) _).trans (hB4.mono (by simp; omega))
  clear hB4 hb3 c0 c1 c2 c3 d0 d1 d2 d3
  go_wp2_with fail
  refine (pack_any _ ⟨1, 2, 3, 4⟩ ⟨⟨by decide, by decide⟩, ⟨by decide, by decide⟩, ⟨by decide, by decide⟩, ⟨by decide, by decide⟩⟩).mono ?_
  rintro e w5 ⟨rfl, hB5⟩
  rw [show C4.word ⟨1, 2, 3, 4⟩ = 16909060 from by kernel_rfl]
  go_wp2_with fail
  refine (far_any ⟨1, 2, 3, 4⟩ ⟨4, 3, 2, 1⟩ ⟨⟨by decide, by decide⟩, ⟨by decide, by decide⟩, ⟨by decide, by decide⟩, ⟨by decide, by decide⟩⟩ ⟨⟨by decide, by decide⟩, ⟨by decide, by decide⟩, ⟨by decide, by decide⟩, ⟨by decide, by decide⟩⟩ _).mono ?_
  rintro e w6 ⟨rfl, hB6⟩
  rw [show C4.far ⟨1, 2, 3, 4⟩ ⟨4, 3, 2, 1⟩ = 8 from by kernel_rfl]
  go_wp2_with fail
  refine (nearest_row ⟨5, 5, 5, 5⟩ ⟨⟨by decide, by decide⟩, ⟨by decide, by decide⟩, ⟨by decide, by decide⟩, ⟨by decide, by decide⟩⟩ [⟨0, 0, 0, 0⟩, ⟨9, 9, 9, 9⟩] ?_ w6.heap.size 0 2 _ ?_ (by decide)).mono ?_
  · intro x hx; simp at hx; rcases hx with rfl | rfl <;> exact ⟨⟨by decide, by decide⟩, ⟨by decide, by decide⟩, ⟨by decide, by decide⟩, ⟨by decide, by decide⟩⟩
  · refine ⟨by simp, ?_⟩
    intro k hk
    match k, hk with
    | 0, _ => exact ⟨by simp [go_sem], by simp [go_sem], by simp [go_sem], by simp [go_sem]⟩
    | 1, _ => exact ⟨by simp [go_sem], by simp [go_sem], by simp [go_sem], by simp [go_sem]⟩
  rintro e w7 ⟨rfl, hB7⟩
  rw [near_a]
  go_wp2
  go_ret
  have s5 := hB5.size
  have s6 := hB6.size
  refine ⟨rfl, (((hb4.trans (hB5.mono (by omega))).trans (hB6.mono (by omega))).alloc (by omega) _).trans (hB7.mono (by simp; omega))⟩
end Go.Proofs.Ytcfollajmmlfnaa
