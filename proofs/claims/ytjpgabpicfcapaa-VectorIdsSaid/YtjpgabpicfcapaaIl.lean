/- The law VectorIds of layer 13 holds: for every vector, and row of ids, the call returns true, and the arguments read afterwards as they read before. No condition. -/
import Derived.Test.YtjpgabpicfcapaaM12
import Derived.Test.YtjpgabpicfcapaaM13mb
import Derived.Test.YtjpgabpicfcapaaM13mf
import Derived.Test.YtjpgabpicfcapaaM13nb
import Derived.Test.YtjpgabpicfcapaaM13nf
import Derived.Test.YtjpgabpicfcapaaVl
namespace Go.Proofs.Ytjpgabpicfcapaa
open Go.ChangeShapes Go.WideShapes Go.ChangeAt Go.RowKit Go.Joins Go.Deep

theorem fits_id : ∀ cs, fitsP [.int .u64, .int .i64, .int .u64] cs → ∃ i : I3, True ∧ cs = enI i
  | [c0, c1, c2], h => by
    obtain ⟨h0, h1, h2, _⟩ := h
    obtain ⟨x0, rfl, _⟩ := h0
    obtain ⟨x1, rfl, _⟩ := h1
    obtain ⟨x2, rfl, _⟩ := h2
    exact ⟨⟨x0, x1, x2⟩, trivial, rfl⟩
  | [], h => by cases h
  | [_], h => by obtain ⟨_, h⟩ := h; cases h
  | [_, _], h => by obtain ⟨_, _, h⟩ := h; cases h
  | _ :: _ :: _ :: _ :: _, h => by obtain ⟨_, _, _, h⟩ := h; cases h

theorem ids_any (v : V) (rv : v.rng) (x : List I3) (n cap : Nat) (ax : Option Addr) (w : World) (hr : rowV w ax n 3 enI x) (hcap : n ≤ cap) (hmx : cap ≤ maxLen) (hnil : ax = none → cap = 0) :
    Calls Try.prog 3 #[vec v, .slice ax n cap] w fun e w' => e = .returned (.bool true) ∧ Below w.heap.size w w' := by
  have hn : (x.take (min n 12)).length = min n 12 := by rw [List.length_take, ← hr.1]; omega
  have hr' : rowV w ax (x.take (min n 12)).length 3 enI (x.take (min n 12)) := by
    have := rowV_take hr (min n 12) (by omega)
    rwa [hn]
  have hl : (x.take (min n 12)).length ≤ 12 := by omega
  generalize x.take (min n 12) = l at *
  have hrs := fun (a0 : Option Addr) (c : Nat) (W : World) (h : rowV W a0 l.length 3 enI l) (_ : a0 = none → c = 0) => refSorted_any l hl a0 c W h
  cases hok : v.may with
  | true =>
    by_cases hbig : 12 < n
    · exact ids_may_big v rv hok l hl n hn hbig ax cap hcap hmx hnil w hr' hrs
    · exact ids_may_few v rv hok l hl n hn hbig ax cap hcap hmx hnil w hr' hrs
  | false =>
    by_cases hbig : 12 < n
    · exact ids_no_big v rv hok l hl n hn hbig ax cap hcap hmx hnil w hr' hrs
    · exact ids_no_few v rv hok l hl n hn hbig ax cap hcap hmx hnil w hr' hrs

theorem ids_walked : Walked 3 [24, 25] := by
  intro H enc W base args ds p hA hval
  obtain ⟨v0, v1, d0, d1, p0, p1, rfl, rfl, rfl, h0, h1⟩ := trodAll_two hA
  obtain ⟨a, ra, rfl⟩ := open_vec (hval 0 24 v0 rfl rfl) h0
  obtain ⟨a1, len1, cap1, rfl⟩ := okWide_slice Try.underlying25 (hval 1 25 v1 rfl rfl)
  obtain ⟨x, hx, _, hc1, hm1, hnil⟩ := open_row 3 enI (fun _ => True) fits_id Try.underlying25 (show flatT Try.prog 3 29 = some [.int .u64, .int .i64, .int .u64] by kernel_rfl) (by kernel_rfl) (by decide) h1
  exact ids_any a ra x len1 cap1 a1 W hx hc1 hm1 hnil

set_option maxRecDepth 100000 in
theorem ids_holds : Rows.VectorIdsSaid :=
  OpenClaim.holds_of_wide 3 Try.f3 rfl rfl rfl rfl rfl rfl rfl ⟨rfl, rfl, rfl, rfl, rfl⟩ rfl rfl rfl rfl rfl (by kernel_rfl) Try.func3 (by kernel_rfl)
    (of_decide_eq_true (by kernel_rfl)) (by unfold Func.isWrapper; rw [if_neg (of_decide_eq_false (by kernel_rfl))]; exact ⟨rfl, rfl⟩)
    (fun os started H enc _ => lift_law (s := Rows.vectorIdsSpec) (conds := Rows.vectorIdsRow.domain) started (by kernel_rfl) Try.func3
      (ChangeSpec.witness6 (enc := enc) (C := Try.checked) false ⟨#[], #[zeroV, .slice none 0 0], []⟩ 8 (by kernel_rfl) (by kernel_rfl) (by kernel_rfl) (by kernel_rfl))
      [24, 25] 4 (by rw [Try.params3]) (by kernel_rfl) Try.underlying4 (by kernel_rfl) rfl
      (fun ds h => by match ds, h with | [d0, d1], _ => rfl) ids_walked)
end Go.Proofs.Ytjpgabpicfcapaa
