/- The law PixelTexts of layer 3 holds: for every rows of colours, of words and of texts the call returns true, and the arguments read afterwards as they read before. No condition. -/
import Derived.Test.YtcfollajmmlfnaaRows
import Derived.Test.YtcfollajmmlfnaaLift
import Derived.Test.YtcfollajmmlfnaaSl
import Derived.Test.YtcfollajmmlfnaaTx
namespace Go.Proofs.Ytcfollajmmlfnaa
open Go.ChangeShapes Go.WideShapes Go.ChangeAt Go.RowKit Go.Joins Go.Deep

theorem fits_word : ∀ cs, fitsP [.int .u32] cs → ∃ x : Int, (0 ≤ x ∧ x ≤ 4294967295) ∧ cs = enW x
  | [v], h => by
    obtain ⟨⟨n, rfl, hw⟩, _⟩ := h
    exact ⟨n, by simpa [Lit.wf, IntKind.min, IntKind.max, IntKind.signed, IntKind.bits] using hw, rfl⟩
  | [], h => by cases h
  | _ :: _ :: _, h => by cases h.2
theorem fits_str : ∀ cs, fitsP [.str] cs → ∃ s : ByteArray, s.size ≤ maxLen ∧ cs = enS s
  | [v], h => by
    obtain ⟨⟨n, rfl, hw⟩, _⟩ := h
    exact ⟨n, hw, rfl⟩
  | [], h => by cases h
  | _ :: _ :: _, h => by cases h.2

theorem texts_walked : Walked 5 [24, 39, 40] := by
  intro H enc W base args ds p hA hval
  obtain ⟨v0, v1, v2, d0, d1, d2, p0, p1, p2, rfl, rfl, rfl, h0, h1, h2⟩ := trodAll_three hA
  obtain ⟨a0, len0, cap0, rfl⟩ := okWide_slice Try.underlying24 (hval 0 24 v0 rfl rfl)
  obtain ⟨a1, len1, cap1, rfl⟩ := okWide_slice Try.underlying39 (hval 1 39 v1 rfl rfl)
  obtain ⟨a2, len2, cap2, rfl⟩ := okWide_slice Try.underlying40 (hval 2 40 v2 rfl rfl)
  obtain ⟨cs, hr, hc0, hm0⟩ := open_cols h0
  obtain ⟨ws, hw, hwok, hc1, hm1, _⟩ := open_row 3 enW (fun x => 0 ≤ x ∧ x ≤ 4294967295) fits_word Try.underlying39 (show flatT Try.prog 3 41 = some [.int .u32] by kernel_rfl) (by kernel_rfl) (by decide) h1
  obtain ⟨ss, hs, _, hc2, hm2, _⟩ := open_row 3 enS (fun s => s.size ≤ maxLen) fits_str Try.underlying40 (show flatT Try.prog 3 9 = some [.str] by kernel_rfl) (by kernel_rfl) (by decide) h2
  obtain rfl : len0 = cs.length := hr.1
  obtain rfl : len1 = ws.length := hw.1
  obtain rfl : len2 = ss.length := hs.1
  exact textslaw_any cs a0 a1 a2 cap0 cap1 cap2 ws ss W hr hw hwok hs (by omega) (by omega) (by omega)

set_option maxRecDepth 100000 in
theorem texts_holds : Rows.PixelTextsSaid :=
  OpenClaim.holds_of_wide 5 Try.f5 rfl rfl rfl rfl rfl rfl rfl ⟨rfl, rfl, rfl, rfl, rfl⟩ rfl rfl rfl rfl rfl (by kernel_rfl) Try.func5 (by kernel_rfl)
    (of_decide_eq_true (by kernel_rfl)) (by unfold Func.isWrapper; rw [if_neg (of_decide_eq_false (by kernel_rfl))]; exact ⟨rfl, rfl⟩)
    (fun os started H enc _ => lift_law (s := Rows.pixelTextsSpec) (conds := Rows.pixelTextsRow.domain) started (by kernel_rfl) Try.func5
      (ChangeSpec.witness6 (enc := enc) (C := Try.checked) false ⟨#[], #[.slice none 0 0, .slice none 0 0, .slice none 0 0], []⟩ 8 (by kernel_rfl) (by kernel_rfl) (by kernel_rfl) (by kernel_rfl))
      [24, 39, 40] 4 (by rw [Try.params5]) (by kernel_rfl) Try.underlying4 (by kernel_rfl) rfl
      (fun ds h => by match ds, h with | [d0, d1, d2], _ => rfl) texts_walked)
end Go.Proofs.Ytcfollajmmlfnaa
