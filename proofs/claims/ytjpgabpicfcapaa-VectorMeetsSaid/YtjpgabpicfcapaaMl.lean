/- The law VectorMeets of layer 13 holds: for every vector, and row of vectors, the call returns true, and the arguments read afterwards as they read before. No condition. -/
import Derived.Test.YtjpgabpicfcapaaM5tb
import Derived.Test.YtjpgabpicfcapaaM5tf
import Derived.Test.YtjpgabpicfcapaaM5fb
import Derived.Test.YtjpgabpicfcapaaM5ff
import Derived.Test.YtjpgabpicfcapaaVl
namespace Go.Proofs.Ytjpgabpicfcapaa
open Go.ChangeShapes Go.WideShapes Go.ChangeAt Go.RowKit Go.Joins Go.Deep

theorem meets_any (v : V) (rv : v.rng) (x : List V) (hx : ∀ u ∈ x, u.rng) (n cap : Nat) (ax : Option Addr) (w : World) (hr : rowV w ax n 9 vecL x) (hcap : n ≤ cap) (hmx : cap ≤ maxLen) (hnil : ax = none → cap = 0) :
    Calls Try.prog 4 #[vec v, .slice ax n cap] w fun e w' => e = .returned (.bool true) ∧ Below w.heap.size w w' := by
  have hn : (x.take (min n 6)).length = min n 6 := by rw [List.length_take, ← hr.1]; omega
  have hr' : rowVec w ax (x.take (min n 6)) := by
    have := rowV_take hr (min n 6) (by omega)
    unfold rowVec
    rwa [hn]
  have hl : ∀ u ∈ x.take (min n 6), u.rng := fun u hu => hx u (List.mem_of_mem_take hu)
  have hl6 : (x.take (min n 6)).length ≤ 6 := by omega
  generalize x.take (min n 6) = l at *
  cases hok : (v.may && allMay l) with
  | true =>
    by_cases hbig : 6 < n
    · exact meets_true_big v rv l hl hl6 n hn ax cap hcap hmx hnil hok hbig w hr'
    · exact meets_true_few v rv l hl hl6 n hn ax cap hcap hmx hnil hok hbig w hr'
  | false =>
    by_cases hbig : 6 < n
    · exact meets_false_big v rv l hl hl6 n hn ax cap hcap hmx hnil hok hbig w hr'
    · exact meets_false_few v rv l hl hl6 n hn ax cap hcap hmx hnil hok hbig w hr'

theorem meets_walked : Walked 4 [24, 41] := by
  intro H enc W base args ds p hA hval
  obtain ⟨v0, v1, d0, d1, p0, p1, rfl, rfl, rfl, h0, h1⟩ := trodAll_two hA
  obtain ⟨a, ra, rfl⟩ := open_vec (hval 0 24 v0 rfl rfl) h0
  obtain ⟨a1, len1, cap1, rfl⟩ := okWide_slice Try.underlying41 (hval 1 41 v1 rfl rfl)
  obtain ⟨x, hx, hxok, hc1, hm1, hnil⟩ := open_row 3 vecL V.rng fits_vec Try.underlying41 (show flatT Try.prog 3 24 = some (List.replicate 9 (.int .u64)) by kernel_rfl) (by kernel_rfl) (by decide) h1
  exact meets_any a ra x hxok len1 cap1 a1 W hx hc1 hm1 hnil

set_option maxRecDepth 100000 in
theorem meets_holds : Rows.VectorMeetsSaid :=
  OpenClaim.holds_of_wide 4 Try.f4 rfl rfl rfl rfl rfl rfl rfl ⟨rfl, rfl, rfl, rfl, rfl⟩ rfl rfl rfl rfl rfl (by kernel_rfl) Try.func4 (by kernel_rfl)
    (of_decide_eq_true (by kernel_rfl)) (by unfold Func.isWrapper; rw [if_neg (of_decide_eq_false (by kernel_rfl))]; exact ⟨rfl, rfl⟩)
    (fun os started H enc _ => lift_law (s := Rows.vectorMeetsSpec) (conds := Rows.vectorMeetsRow.domain) started (by kernel_rfl) Try.func4
      (ChangeSpec.witness6 (enc := enc) (C := Try.checked) false ⟨#[], #[zeroV, .slice none 0 0], []⟩ 8 (by kernel_rfl) (by kernel_rfl) (by kernel_rfl) (by kernel_rfl))
      [24, 41] 4 (by rw [Try.params4]) (by kernel_rfl) Try.underlying4 (by kernel_rfl) rfl
      (fun ds h => by match ds, h with | [d0, d1], _ => rfl) meets_walked)
end Go.Proofs.Ytjpgabpicfcapaa
