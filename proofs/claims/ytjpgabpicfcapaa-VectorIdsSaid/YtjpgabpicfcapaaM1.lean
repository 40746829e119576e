/- The document's answers of layer 13: Right, Covers. -/
import Derived.Test.YtjpgabpicfcapaaVb
namespace Go.Proofs.Ytjpgabpicfcapaa
open Go.RowKit

set_option maxHeartbeats 1000000 in
theorem refRight_any (v : V) (hv : v.rng) (w : World) : Calls Try.prog 9 #[vec v] w fun e w' => e = .returned (.bool v.may) ∧ Below w.heap.size w w' := by
  have HV := Lib.hid hv
  clear hv
  have hix := index_vec
  go_enter Try.func9, Try.ntmps9
  go_wp2_with fail
  go_loop [3, 4, 6] (fun _ _ i => ∃ k : Nat, k ≤ 9 ∧ i = .int .i64 k ∧ ∀ j, j < k → v.badAt j = false) (fun _ _ i => 9 - (intOf i).toNat)
  case atStart => exact ⟨0, by omega, rfl, fun j hj => by omega⟩
  case round =>
    obtain ⟨k, hk, rfl, hall⟩ := hrel
    have HA := Lib.hid hall
    clear hall
    by_cases hlt : k < 9
    · have hix := fun w => index_vec w v k hlt
      have h0v := (HV.out k hlt).1
      by_cases h1 : 4611686018427387904 < v k
      · have HB := Lib.hid (may_not hlt (show v.badAt k = true by unfold V.badAt; simp [h1]))
        go_wp2
        go_ret
        exact ⟨by rw [HB.out]; rfl, (Below.refl _ _).alloc (Nat.le_refl _) _⟩
      · by_cases h0 : k = 0
        · have h0' : ((k : Int) == 0) = true := by simp; omega
          have H0 := Lib.hid h0
          clear h0
          by_cases h2 : 0 < v k
          · have HB := Lib.hid (may_not hlt (show v.badAt k = true by unfold V.badAt; rw [beq_iff_eq.2 H0.out]; simp [h2]))
            have hz : (v k == 0) = false := by simp; omega
            have hz' : (v k != 0) = true := by simp; omega
            go_wp2
            go_ret
            exact ⟨by rw [HB.out]; rfl, (Below.refl _ _).alloc (Nat.le_refl _) _⟩
          · have HB := Lib.hid (show v.badAt k = false by unfold V.badAt; simp; omega)
            have hz : (v k == 0) = true := by simp; omega
            have hz' : (v k != 0) = false := by simp; omega
            go_wp2
            go_round
            case rel => exact ⟨k + 1, by omega, by go_num, fun j hj => by
              by_cases e : j = k
              · subst e; exact HB.out
              · exact HA.out j (by omega)⟩
            case measure => simp [intOf]; omega
        · have h0' : ((k : Int) == 0) = false := by simp; omega
          have HB := Lib.hid (show v.badAt k = false by unfold V.badAt; simp; omega)
          go_wp2
          go_round
          case rel => exact ⟨k + 1, by omega, by go_num, fun j hj => by
            by_cases e : j = k
            · subst e; exact HB.out
            · exact HA.out j (by omega)⟩
          case measure => simp [intOf]; omega
    · obtain rfl : k = 9 := by omega
      have HM := Lib.hid (may_of HA.out)
      go_wp2
      go_ret
      exact ⟨by rw [HM.out]; rfl, (Below.refl _ _).alloc (Nat.le_refl _) _⟩

theorem covers_not {a b : V} (ra : a.rng) {k : Nat} (hk : k < 9) (h : a k < b k) : coversB a b = false := by
  rw [← Bool.not_eq_true, covers_iff]
  rintro ⟨_, hb, hc⟩
  by_cases e : k = 0
  · subst e
    have := ((may_spec b).1 hb).1
    have := (ra 0 (by omega)).1
    omega
  · have := hc k (by omega) (by omega)
    omega
theorem covers_all {a b : V} (h : ∀ k, k < 9 → b k ≤ a k) : coversB a b = (a.may && b.may) := by
  rw [Bool.eq_iff_iff, covers_iff, Bool.and_eq_true]
  exact ⟨fun ⟨h1, h2, _⟩ => ⟨h1, h2⟩, fun ⟨h1, h2⟩ => ⟨h1, h2, fun k _ k8 => h k (by omega)⟩⟩

set_option maxHeartbeats 1000000 in
theorem refCovers_any (a b : V) (ra : a.rng) (rb : b.rng) (w : World) : Calls Try.prog 26 #[vec a, vec b] w fun e w' => e = .returned (.bool (coversB a b)) ∧ Below w.heap.size w w' := by
  have RA := Lib.hid ra
  have RB := Lib.hid rb
  clear ra rb
  have ha0 : vecIn ((w.alloc (.cells (vecA a) 24)).alloc (.cells (vecA b) 24)) w.heap.size a := holds_alloc (vecIn_new w a) _
  have hb0 : vecIn ((w.alloc (.cells (vecA a) 24)).alloc (.cells (vecA b) 24)) (w.heap.size + 1) b := by
    have := vecIn_new (w.alloc (.cells (vecA a) 24)) b
    rwa [World.size_alloc] at this
  have HA0 := Lib.hid ha0
  have HB0 := Lib.hid hb0
  clear ha0 hb0
  go_enter Try.func26, Try.ntmps26
  go_wp2_with fail
  obtain ⟨W, hW⟩ : ∃ W, ((w.alloc (.cells (vecA a) 24)).alloc (.cells (vecA b) 24)) = W := ⟨_, rfl⟩
  have hB0 : Below w.heap.size w W := by rw [← hW]; exact ((Below.refl _ _).alloc (Nat.le_refl _) _).alloc (by simp) _
  have ha := HA0.out
  have hb := HB0.out
  clear HA0 HB0
  rw [hW] at ha hb
  try rw [hW]
  clear hW
  have HA := Lib.hid ha
  have HB := Lib.hid hb
  have HW := Lib.hid hB0
  clear ha hb hB0
  go_loop [5, 6, 8] (fun _ _ i => ∃ k : Nat, k ≤ 9 ∧ i = .int .i64 k ∧ ∀ j, j < k → b j ≤ a j) (fun _ _ i => 9 - (intOf i).toNat)
  case atStart => exact ⟨0, by omega, rfl, fun j hj => by omega⟩
  case round =>
    obtain ⟨k, hk, rfl, hall⟩ := hrel
    have HL := Lib.hid hall
    clear hall
    by_cases hlt : k < 9
    · have hix := fun w => index_vec w b k hlt
      have ck := vecIn.at HA.out k hlt
      by_cases h1 : a k < b k
      · have HC := Lib.hid (covers_not RA.out hlt h1)
        go_wp2
        go_ret
        exact ⟨by rw [HC.out]; rfl, HW.out⟩
      · go_wp2
        go_round
        case rel => exact ⟨k + 1, by omega, by go_num, fun j hj => by
          by_cases e : j = k
          · subst e; omega
          · exact HL.out j (by omega)⟩
        case measure => simp [intOf]; omega
    · obtain rfl : k = 9 := by omega
      have HC := Lib.hid (covers_all HL.out)
      obtain ⟨a0, a1, a2, a3, a4, a5, a6, a7, a8⟩ := vecIn.cells HA.out
      go_wp2_with fail
      refine (refRight_any a RA.out _).mono ?_
      rintro e w1 ⟨rfl, hB⟩
      clear a0 a1 a2 a3 a4 a5 a6 a7 a8
      have hb1 : vecIn w1 (w.heap.size + 1) b := holds_below HB.out hB HB.out.lt
      have HW1 := Lib.hid (HW.out.trans (hB.mono HW.out.size))
      obtain ⟨b0, b1, b2, b3, b4, b5, b6, b7, b8⟩ := hb1.cells
      clear hb1 hB
      cases hm : a.may with
      | false =>
        have HM := Lib.hid hm
        clear hm
        go_wp2_with fail
        go_ret
        exact ⟨by rw [HC.out, HM.out]; rfl, HW1.out⟩
      | true =>
        have HM := Lib.hid hm
        clear hm
        go_wp2_with fail
        refine (refRight_any b RB.out _).mono ?_
        rintro e w2 ⟨rfl, hB⟩
        clear b0 b1 b2 b3 b4 b5 b6 b7 b8
        go_wp2_with fail
        go_ret
        exact ⟨by rw [HC.out, HM.out]; rfl, HW1.out.trans (hB.mono HW1.out.size)⟩
end Go.Proofs.Ytjpgabpicfcapaa
