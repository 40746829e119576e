/- Words and texts of colours, and back: PixelBack, walked -/
import Derived.Test.YtcfollajmmlfnaaW15
namespace Go.Proofs.Ytcfollajmmlfnaa
open Go.RowKit

theorem hexVal_digit (d : Int) (h0 : 0 ≤ d) (h1 : d ≤ 15) : hexVal (hexDigit d) = some d := by
  unfold hexVal hexDigit
  by_cases h : d < 10
  · rw [if_pos h, if_pos (by omega)]; congr 1; omega
  · rw [if_neg h, if_neg (by omega), if_pos (by omega)]; congr 1; omega
theorem hexDigit_bd (d : Int) (h0 : 0 ≤ d) (h1 : d ≤ 15) : 48 ≤ hexDigit d ∧ hexDigit d ≤ 102 := by
  unfold hexDigit; split <;> omega
theorem hexDigit_val {r v : Int} (h : hexVal r = some v) : hexDigit v = r := by
  unfold hexVal at h
  split at h
  · obtain rfl := Option.some.inj h; unfold hexDigit; rw [if_pos (by omega)]; omega
  · split at h
    · obtain rfl := Option.some.inj h; unfold hexDigit; rw [if_neg (by omega)]; omega
    · cases h
theorem unword_word (c : C4) (hc : c.ok) : unword c.word = c := by
  obtain ⟨⟨a0, a1⟩, ⟨b0, b1⟩, ⟨c0, c1⟩, ⟨d0, d1⟩⟩ := hc
  obtain ⟨r, g, b, a⟩ := c
  dsimp only at *
  simp only [unword, C4.word, C4.mk.injEq]
  refine ⟨?_, ?_, ?_, ?_⟩ <;> omega
theorem word_unword (x : Int) (_h0 : 0 ≤ x) (_h1 : x ≤ 4294967295) : (unword x).word = x := by
  simp only [unword, C4.word]; omega
theorem wordUp_step {s : ByteArray} {k : Nat} {x y v : Int} (h : wordUp s k = some y) (hb : byteAt s k = some v) (hx : y * 16 + v = x) : wordUp s (k + 1) = some x := by
  unfold wordUp; rw [h, hb, ← hx]; rfl
theorem wordUp_back {s : ByteArray} {k : Nat} {x : Int} (h : wordUp s (k + 1) = some x) : ∃ y v, wordUp s k = some y ∧ byteAt s k = some v ∧ x = y * 16 + v := by
  unfold wordUp at h
  cases hy : wordUp s k with
  | none => rw [hy] at h; cases h
  | some y =>
    rw [hy] at h
    cases hv : byteAt s k with
    | none => rw [hv] at h; cases h
    | some v =>
      rw [hv] at h
      exact ⟨y, v, rfl, rfl, (Option.some.inj h).symm⟩
theorem u8_ofInt (x : Int) (h0 : 0 ≤ x) (h1 : x ≤ 255) : ((UInt8.ofNat x.toNat).toNat : Int) = x := by
  rw [UInt8.toNat_ofNat']; omega
theorem byteAt_digit (s : ByteArray) (k : Nat) (d : Int) (h0 : 0 ≤ d) (h1 : d ≤ 15) (hk : k < s.size) (he : s[k] = UInt8.ofNat (hexDigit d).toNat) : byteAt s k = some d := by
  have hb := hexDigit_bd d h0 h1
  unfold byteAt
  rw [dif_pos hk, he, u8_ofInt _ (by omega) (by omega), hexVal_digit d h0 h1]
/-- the text's digits are the word's -/
theorem text_word (c : C4) (hc : c.ok) : (strOfNums (hexOf c all4)).size = 8 ∧ wordUp (strOfNums (hexOf c all4)) 8 = some c.word := by
  obtain ⟨⟨a0, a1⟩, ⟨b0, b1⟩, ⟨c0, c1⟩, ⟨d0, d1⟩⟩ := hc
  have hs : (strOfNums (hexOf c all4)).size = 8 := rfl
  refine ⟨hs, ?_⟩
  have e0 := byteAt_digit (strOfNums (hexOf c all4)) 0 (c.r / 16) (by omega) (by omega) (by rw [hs]; omega) rfl
  have e1 := byteAt_digit (strOfNums (hexOf c all4)) 1 (c.r % 16) (by omega) (by omega) (by rw [hs]; omega) rfl
  have e2 := byteAt_digit (strOfNums (hexOf c all4)) 2 (c.g / 16) (by omega) (by omega) (by rw [hs]; omega) rfl
  have e3 := byteAt_digit (strOfNums (hexOf c all4)) 3 (c.g % 16) (by omega) (by omega) (by rw [hs]; omega) rfl
  have e4 := byteAt_digit (strOfNums (hexOf c all4)) 4 (c.b / 16) (by omega) (by omega) (by rw [hs]; omega) rfl
  have e5 := byteAt_digit (strOfNums (hexOf c all4)) 5 (c.b % 16) (by omega) (by omega) (by rw [hs]; omega) rfl
  have e6 := byteAt_digit (strOfNums (hexOf c all4)) 6 (c.a / 16) (by omega) (by omega) (by rw [hs]; omega) rfl
  have e7 := byteAt_digit (strOfNums (hexOf c all4)) 7 (c.a % 16) (by omega) (by omega) (by rw [hs]; omega) rfl
  generalize strOfNums (hexOf c all4) = s at *
  have w0 : wordUp s 0 = some 0 := rfl
  refine wordUp_step (wordUp_step (wordUp_step (wordUp_step (wordUp_step (wordUp_step (wordUp_step (wordUp_step w0 e0 rfl) e1 rfl) e2 rfl) e3 rfl) e4 rfl) e5 rfl) e6 rfl) e7 ?_
  unfold C4.word
  omega
/-- a text that has a word is the word's text -/
theorem word_text (s : ByteArray) (h8 : s.size = 8) (x : Int) (hx : wordUp s 8 = some x) : strOfNums (hexOf (unword x) all4) = s := by
  obtain ⟨x7, v7, hx7, e7, rfl⟩ := wordUp_back hx
  obtain ⟨x6, v6, hx6, e6, rfl⟩ := wordUp_back hx7
  obtain ⟨x5, v5, hx5, e5, rfl⟩ := wordUp_back hx6
  obtain ⟨x4, v4, hx4, e4, rfl⟩ := wordUp_back hx5
  obtain ⟨x3, v3, hx3, e3, rfl⟩ := wordUp_back hx4
  obtain ⟨x2, v2, hx2, e2, rfl⟩ := wordUp_back hx3
  obtain ⟨x1, v1, hx1, e1, rfl⟩ := wordUp_back hx2
  obtain ⟨x0, v0, hx0, e0, rfl⟩ := wordUp_back hx1
  obtain rfl := Option.some.inj hx0
  obtain ⟨⟨l⟩⟩ := s
  match l, h8 with
  | [b0, b1, b2, b3, b4, b5, b6, b7], _ =>
    have f0 : hexVal (b0.toNat : Int) = some v0 := e0
    have f1 : hexVal (b1.toNat : Int) = some v1 := e1
    have f2 : hexVal (b2.toNat : Int) = some v2 := e2
    have f3 : hexVal (b3.toNat : Int) = some v3 := e3
    have f4 : hexVal (b4.toNat : Int) = some v4 := e4
    have f5 : hexVal (b5.toNat : Int) = some v5 := e5
    have f6 : hexVal (b6.toNat : Int) = some v6 := e6
    have f7 : hexVal (b7.toNat : Int) = some v7 := e7
    clear e0 e1 e2 e3 e4 e5 e6 e7
    have d0 := hexVal_bd f0
    have d1 := hexVal_bd f1
    have d2 := hexVal_bd f2
    have d3 := hexVal_bd f3
    have d4 := hexVal_bd f4
    have d5 := hexVal_bd f5
    have d6 := hexVal_bd f6
    have d7 := hexVal_bd f7
    have key : ∀ (x : Int), x = (((((((0 * 16 + v0) * 16 + v1) * 16 + v2) * 16 + v3) * 16 + v4) * 16 + v5) * 16 + v6) * 16 + v7 → hexOf (unword x) all4 = [hexDigit v0, hexDigit v1, hexDigit v2, hexDigit v3, hexDigit v4, hexDigit v5, hexDigit v6, hexDigit v7] := by
      intro x hx
      simp only [hexOf, all4, unword, C4.part]
      rw [show x / 16777216 / 16 = v0 by omega, show x / 16777216 % 16 = v1 by omega, show x / 65536 % 256 / 16 = v2 by omega, show x / 65536 % 256 % 16 = v3 by omega,
        show x / 256 % 256 / 16 = v4 by omega, show x / 256 % 256 % 16 = v5 by omega, show x % 256 / 16 = v6 by omega, show x % 256 % 16 = v7 by omega]
    rw [key _ rfl, hexDigit_val f0, hexDigit_val f1, hexDigit_val f2, hexDigit_val f3, hexDigit_val f4, hexDigit_val f5, hexDigit_val f6, hexDigit_val f7]
    simp [strOfNums]

theorem reads_text (c : C4) (hc : c.ok) {e : Ending} (h : readsAs (strOfNums (hexOf c all4)) e) : e = .returned (.tuple #[c.val, .int .i64 0]) := by
  obtain ⟨h8, hw⟩ := text_word c hc
  unfold readsAs at h
  rw [if_pos h8, hw] at h
  dsimp only at h
  rw [unword_word c hc] at h
  exact h
theorem word_bd (c : C4) (hc : c.ok) : 0 ≤ c.word ∧ c.word ≤ 4294967295 := by
  obtain ⟨⟨a0, a1⟩, ⟨b0, b1⟩, ⟨c0, c1⟩, ⟨d0, d1⟩⟩ := hc
  unfold C4.word
  omega
theorem unword_ok (x : Int) (h0 : 0 ≤ x) (h1 : x ≤ 4294967295) : (unword x).ok := by
  refine ⟨⟨?_, ?_⟩, ⟨?_, ?_⟩, ⟨?_, ?_⟩, ⟨?_, ?_⟩⟩ <;> simp only [unword] <;> omega
theorem reads_ways (s : ByteArray) {e : Ending} (h : readsAs s e) : (∃ x, (unword x).ok ∧ strOfNums (hexOf (unword x) all4) = s ∧ e = .returned (.tuple #[(unword x).val, .int .i64 0])) ∨ e = .returned (.tuple #[col 0 0 0 0, .int .i64 130]) := by
  unfold readsAs at h
  by_cases h8 : s.size = 8
  · rw [if_pos h8] at h
    cases hx : wordUp s 8 with
    | none => rw [hx] at h; exact .inr h
    | some x =>
      rw [hx] at h
      have hb := wordUp_bd s 8 x hx
      exact .inl ⟨x, unword_ok x hb.1 (by have := hb.2; omega), word_text s h8 x hx, h⟩
  · rw [if_neg h8] at h; exact .inr h
theorem unpack_back (w : World) (c : C4) (hc : c.ok) :
    Calls Try.prog 25 #[.int .u32 c.word] w fun e w' => e = .returned c.val ∧ Below w.heap.size w w' := by
  have := unpack_any w c.word (word_bd c hc).1 (word_bd c hc).2
  rwa [unword_word c hc] at this
theorem pack_back (w : World) (x : Int) (h0 : 0 ≤ x) (h1 : x ≤ 4294967295) :
    Calls Try.prog 21 #[(unword x).val] w fun e w' => e = .returned (.int .u32 x) ∧ Below w.heap.size w w' := by
  have := pack_any w (unword x) (unword_ok x h0 h1)
  rwa [word_unword x h0 h1] at this
theorem same_self (c : C4) : c.same c = true := by simp [C4.same]

set_option maxHeartbeats 4000000 in
theorem back_any (c : C4) (hc : c.ok) (x : Int) (x0 : 0 ≤ x) (x1 : x ≤ 4294967295) (s : ByteArray) (w : World) :
    Calls Try.prog 8 #[c.val, .int .u32 x, .string s] w fun e w' => e = .returned (.bool true) ∧ Below w.heap.size w w' := by
  have hsame := same_self c
  have hrun := run_neq_col c c
  have hz : ∀ w : World, (binOp .eql 26 (col 0 0 0 0) (col 0 0 0 0)).run Try.prog w = .ok (.bool true) w := fun w => run_eql_col ⟨0, 0, 0, 0⟩ ⟨0, 0, 0, 0⟩ w
  go_enter Try.func8, Try.ntmps8
  go_wp2_with fail
  refine (wakes_any _).mono ?_
  rintro e w1 ⟨rfl, hB1⟩
  have s1 := hB1.size
  simp only [World.size_alloc] at s1
  have c0 : w1.cell? ⟨w.heap.size, 0, none⟩ = some (.int .u8 c.r) := (hB1.cell (p := ⟨w.heap.size, 0, none⟩) (by simp)).trans (by simp [go_sem])
  have c1 : w1.cell? ⟨w.heap.size, 1, none⟩ = some (.int .u8 c.g) := (hB1.cell (p := ⟨w.heap.size, 1, none⟩) (by simp)).trans (by simp [go_sem])
  have c2 : w1.cell? ⟨w.heap.size, 2, none⟩ = some (.int .u8 c.b) := (hB1.cell (p := ⟨w.heap.size, 2, none⟩) (by simp)).trans (by simp [go_sem])
  have c3 : w1.cell? ⟨w.heap.size, 3, none⟩ = some (.int .u8 c.a) := (hB1.cell (p := ⟨w.heap.size, 3, none⟩) (by simp)).trans (by simp [go_sem])
  have hb1 : Below w.heap.size w w1 := ((Below.refl _ _).alloc (Nat.le_refl _) _).trans (hB1.mono (by simp))
  clear hB1
  have l0 : w.heap.size < w1.heap.size := by omega
  go_wp2_with fail
  refine (text_any c hc _).mono ?_
  rintro e w2 ⟨rfl, hB2⟩
  go_wp2_with fail
  refine (read_any _ _).mono ?_
  rintro e w3 ⟨he, hB3⟩
  obtain rfl := reads_text c hc he
  clear he
  have s2 := hB2.size
  have s3 := hB3.size
  have hB := hB2.trans (hB3.mono s2)
  clear hB2 hB3
  have c0 := (hB.cell (p := ⟨w.heap.size, 0, none⟩) l0).trans c0
  have c1 := (hB.cell (p := ⟨w.heap.size, 1, none⟩) l0).trans c1
  have c2 := (hB.cell (p := ⟨w.heap.size, 2, none⟩) l0).trans c2
  have c3 := (hB.cell (p := ⟨w.heap.size, 3, none⟩) l0).trans c3
  have hb3 : Below w.heap.size w w3 := hb1.trans (hB.mono (by omega))
  have l1 : w.heap.size < w3.heap.size := by omega
  clear hB hb1
  have hn := @near_cell (w3.heap.size + 1)
  have l2 : w.heap.size < w3.heap.size + 1 := by omega
  go_wp2
  refine wp_region_dep (w3.heap.size + 1) 20 (by kernel_rfl) (by kernel_rfl) (by rfl) (by simp) ?_
  simp only [List.take_succ_cons, List.take_zero, List.drop_succ_cons, List.drop_zero]
  iterate 9 (refine wpDep_plain (by rfl) (fun K hK => ?_); go_simp; (refine hK _ ?_; clear hK K))
  refine wpDep_plain (by rfl) (fun K hK => ?_); go_simp; refine ⟨_, fun n => callsTo_of (pack_any _ c hc), ?_⟩; (refine hK _ ?_; clear hK K)
  refine wpDep_plain (by rfl) (fun K hK => ?_); go_simp; refine ⟨_, fun n => callsTo_of (unpack_back _ c hc), ?_⟩; (refine hK _ ?_; clear hK K)
  iterate 5 (refine wpDep_plain (by rfl) (fun K hK => ?_); go_simp; (refine hK _ ?_; clear hK K))
  refine wpDep_plain (by rfl) (fun K hK => ?_); go_simp; refine ⟨_, fun n => callsTo_of (unpack_any _ x x0 x1), ?_⟩; (refine hK _ ?_; clear hK K)
  refine wpDep_plain (by rfl) (fun K hK => ?_); go_simp; refine ⟨_, fun n => callsTo_of (pack_back _ x x0 x1), ?_⟩; (refine hK _ ?_; clear hK K)
  iterate 2 (refine wpDep_plain (by rfl) (fun K hK => ?_); go_simp; (refine hK _ ?_; clear hK K))
  refine wpDep_nil ?_
  intro f m _
  simp only [fillV]
  go_wp2_with fail
  refine (read_any _ _).mono ?_
  rintro e w4 ⟨he, hB4⟩
  have sm := m.h.size
  have s4 := hB4.size
  simp only [World.size_alloc] at sm
  have hb4 : Below w.heap.size w w4 := ((hb3.alloc (by omega) _).trans (m.h.mono (by omega))).trans (hB4.mono (by omega))
  clear hB4 hb3
  rcases reads_ways s he with ⟨y, hy, hs, rfl⟩ | rfl
  · clear he
    have HS := Lib.hid hs
    clear hs
    generalize unword y = d at *
    go_wp2_with fail
    refine (text_any d hy _).mono ?_
    rintro e w5 ⟨rfl, hB5⟩
    rw [HS.out]
    go_wp2
    go_ret
    exact ⟨rfl, (hb4.alloc (by omega) _).trans (hB5.mono (by simp; omega))⟩
  · clear he
    go_wp2
    go_ret
    exact ⟨rfl, hb4.alloc (by omega) _⟩
end Go.Proofs.Ytcfollajmmlfnaa
