/- The law NetSends of layer 25 holds: for every two nets, and row of parcels the program answers true, and does not panic. No other condition. -/
import Derived.Test.YtgomklemldldiaaFi
import Derived.Test.YtgomklemldldiaaNs
import Derived.Test.YtgomklemldldiaaRows
import Derived.Test.YtgomklemldldiaaLs
namespace Go.Proofs.Ytgomklemldldiaa
set_option linter.unusedVariables false
set_option linter.unusedSimpArgs false
open Go.RowKit
open Go.ChangeShapes Go.WideShapes Go.ChangeAt Go.Joins Go.Deep

set_option maxRecDepth 20000 in
theorem nsends_walked : Walked 3 [25, 25, 22] := walked_of fun H enc W base args ds p hA hval => by
  obtain ⟨v0, v1, v2, d0, d1, d2, p0, p1, p2, rfl, rfl, rfl, h0, h1, h2⟩ := trodAll_three hA
  obtain ⟨a0, ok0, r0⟩ := open_agg (mk := fun a : List Par × Nat => [.slm 3 a.1.length (a.1.flatMap pD), .val (.int .u64 (a.2 : Int))]) (ok := fun a => ∀ p ∈ a.1, okP p) Try.underlying25 (opens_net) (hval 0 25 v0 rfl rfl) h0
  obtain ⟨a1, ok1, r1⟩ := open_agg (mk := fun a : List Par × Nat => [.slm 3 a.1.length (a.1.flatMap pD), .val (.int .u64 (a.2 : Int))]) (ok := fun a => ∀ p ∈ a.1, okP p) Try.underlying25 (opens_net) (hval 1 25 v1 rfl rfl) h1
  obtain ⟨s2, n2, c2, rfl⟩ := okWide_slice Try.underlying22 (hval 2 22 v2 rfl rfl)
  obtain ⟨a2, ok2, r2⟩ := open_any (mk := fun l : List Par => .slm 3 l.length (l.flatMap pD)) (ok := fun l => ∀ a ∈ l, okP a) (opens_rows opens_par Try.underlying22 (by kernel_rfl) (by decide) (fun _ => rfl) (fun _ => rfl)) rfl h2
  exact ⟨[.agg ((fun a : List Par × Nat => [.slm 3 a.1.length (a.1.flatMap pD), .val (.int .u64 (a.2 : Int))]) a0), .agg ((fun a : List Par × Nat => [.slm 3 a.1.length (a.1.flatMap pD), .val (.int .u64 (a.2 : Int))]) a1), (fun l : List Par => .slm 3 l.length (l.flatMap pD)) a2], (reps_cons r0 (reps_cons r1 (reps_cons r2 reps_nil))), sends_d a0.1 a0.2 a1.1 a1.2 a2 (fun p hp => (ok0 p hp).2) (fun p hp => (ok1 p hp).2)⟩
theorem nsends_holds : Rows.NetSendsSaid :=
  OpenClaim.holds_of_wide 3 Try.f3 rfl rfl rfl rfl rfl rfl rfl ⟨rfl, rfl, rfl, rfl, rfl⟩ rfl rfl rfl rfl rfl (by kernel_rfl) Try.func3 (by kernel_rfl)
    (of_decide_eq_true (by kernel_rfl)) (by unfold Func.isWrapper; rw [if_neg (of_decide_eq_false (by kernel_rfl))]; exact ⟨rfl, rfl⟩)
    (fun os started H enc _ => lift_law (s := Rows.netSendsSpec) (conds := Rows.netSendsRow.domain) started (by kernel_rfl) Try.func3
      (ChangeSpec.witness6 (enc := enc) (C := Try.checked) false ⟨#[], #[.agg #[.slice none 0 0, .int .u64 0], .agg #[.slice none 0 0, .int .u64 0], .slice none 0 0], []⟩ 8 (by kernel_rfl) (by kernel_rfl) (by kernel_rfl) (by kernel_rfl))
      [25, 25, 22] 4 (by rw [Try.params3]) (by kernel_rfl) Try.underlying4 (by kernel_rfl) rfl
      (fun ds h => by match ds, h with | [d0, d1, d2], _ => rfl) nsends_walked)

end Go.Proofs.Ytgomklemldldiaa
