/- The law PixelWays of layer 3 holds: for every three colours the call returns true, and the arguments read afterwards as they read before. No condition. -/
import Derived.Test.YtcfollajmmlfnaaRows
import Derived.Test.YtcfollajmmlfnaaW15
import Derived.ProofKit
import Derived.JoinedOf
import Derived.JoinedAt
import Derived.RowKit3
import Derived.Lib.SmallJoins
namespace Go.Proofs.Ytcfollajmmlfnaa
open Go.ChangeShapes Go.WideShapes Go.ChangeAt Go.RowKit Go.Joins

theorem own : ownKnob Try.prog.godebug = none := by kernel_rfl
theorem cellsCol : Try.prog.cellsOf 26 = 4 := by kernel_rfl

/-- a colour that was read, opened -/
theorem open_col {H : Type} {enc : TypeId × Value → H} {w : World} {base b0 : Nat} {r : Reach} {spare : Nat → Bool} {held : Bool} {v : Value} {d : DataW H} {p : List MemPlace}
    (hv : Value.okWide Try.prog w r b0 26 v) (h : DataW.Trod enc Try.prog w base spare held 26 v d p) :
    ∃ c : C4, c.ok ∧ v = c.val ∧ d = .agg [.lit (.int .u8 c.r), .lit (.int .u8 c.g), .lit (.int .u8 c.b), .lit (.int .u8 c.a)] ∧ p = [] := by
  obtain ⟨c0, c1, c2, c3, y0, y1, y2, y3, m, rfl, rfl, rfl, hy0, hy1, hy2, hy3⟩ := open_agg4 Try.underlying26 (by kernel_rfl) cellsCol hv h
  obtain ⟨a0, e0, rfl, w0⟩ := DataW.trod_int Try.underlying5 hy0
  obtain ⟨a1, e1, rfl, w1⟩ := DataW.trod_int Try.underlying5 hy1
  obtain ⟨a2, e2, rfl, w2⟩ := DataW.trod_int Try.underlying5 hy2
  obtain ⟨a3, e3, rfl, w3⟩ := DataW.trod_int Try.underlying5 hy3
  simp at e0 e1 e2 e3
  subst e0 e1 e2 e3
  have b0 : 0 ≤ a0 ∧ a0 ≤ 255 := by simpa [Lit.wf, IntKind.min, IntKind.max, IntKind.signed, IntKind.bits] using w0
  have b1 : 0 ≤ a1 ∧ a1 ≤ 255 := by simpa [Lit.wf, IntKind.min, IntKind.max, IntKind.signed, IntKind.bits] using w1
  have b2 : 0 ≤ a2 ∧ a2 ≤ 255 := by simpa [Lit.wf, IntKind.min, IntKind.max, IntKind.signed, IntKind.bits] using w2
  have b3 : 0 ≤ a3 ∧ a3 ≤ 255 := by simpa [Lit.wf, IntKind.min, IntKind.max, IntKind.signed, IntKind.bits] using w3
  exact ⟨⟨a0, a1, a2, a3⟩, ⟨b0, b1, b2, b3⟩, rfl, rfl, rfl⟩

theorem wf_byte {x : Int} (h : Byte x) : (Lit.int .u8 x).wf = true := by
  obtain ⟨h0, h1⟩ := h
  simp [Lit.wf, IntKind.min, IntKind.max, IntKind.signed, IntKind.bits]
  exact ⟨h0, h1⟩

/-- .. and shut -/
theorem shut_col {H : Type} (enc : TypeId × Value → H) (w : World) (base : Nat) (spare : Nat → Bool) (held : Bool) (c : C4) (hc : c.ok) :
    DataW.Trod enc Try.prog w base spare held 26 c.val (.agg [.lit (.int .u8 c.r), .lit (.int .u8 c.g), .lit (.int .u8 c.b), .lit (.int .u8 c.a)]) [] := by
  obtain ⟨b0, b1, b2, b3⟩ := hc
  have w0 := wf_byte b0
  have w1 := wf_byte b1
  have w2 := wf_byte b2
  have w3 := wf_byte b3
  exact shut_agg4 (y0 := (.lit (.int .u8 c.r), [])) (y1 := (.lit (.int .u8 c.g), [])) (y2 := (.lit (.int .u8 c.b), [])) (y3 := (.lit (.int .u8 c.a), [])) Try.underlying26 (by kernel_rfl) cellsCol
    ⟨1, by simp [DataW.trod, Try.underlying5, w0]⟩ ⟨1, by simp [DataW.trod, Try.underlying5, w1]⟩ ⟨1, by simp [DataW.trod, Try.underlying5, w2]⟩ ⟨1, by simp [DataW.trod, Try.underlying5, w3]⟩

set_option maxRecDepth 100000 in
theorem ways_lifted (os : Os) (started : os.Started) (H : Type) (enc : TypeId × Value → H) :
    ReturnsInHanded {} Try.checked os 7 .any (Rows.pixelWaysSpec.pre6 enc Try.prog Try.f7 Rows.pixelWaysRow.domain false) (Rows.pixelWaysSpec.post enc Try.prog Try.f7 false true false false) := by
  refine returnsInHanded_of_change (C := Try.checked) own started (by kernel_rfl) Try.func7
    (ChangeSpec.witness6 (enc := enc) (C := Try.checked) false ⟨#[], #[.agg #[.int .u8 0, .int .u8 0, .int .u8 0, .int .u8 0], .agg #[.int .u8 0, .int .u8 0, .int .u8 0, .int .u8 0], .agg #[.int .u8 0, .int .u8 0, .int .u8 0, .int .u8 0]], []⟩ 8 (by kernel_rfl) (by kernel_rfl) (by kernel_rfl) (by kernel_rfl)) ?_
  intro W base args ds gs before hval0 hW _ _
  have hval : ∀ (j : Nat) t v, Try.f7.params[j]? = some t → args[j]? = some v → Value.okWide Try.prog W .any base t v := hval0
  have hW' := hW
  obtain ⟨p, q, hA0, hV, rfl, _, _⟩ := hW
  have hA : DataW.TrodAll enc Try.prog W 0 (fun _ => true) true Try.f7.params.toList args.toList ds p := hA0
  rw [Try.params7] at hA hval
  obtain ⟨v0, v1, v2, d0, d1, d2, p0, p1, p2, rfl, rfl, rfl, h0, h1, h2⟩ := trodAll_three hA
  obtain ⟨rfl, rfl⟩ := trodVars_none hV
  obtain ⟨a, ha, rfl, rfl, rfl⟩ := open_col (hval 0 26 v0 rfl rfl) h0
  obtain ⟨b, hb, rfl, rfl, rfl⟩ := open_col (hval 1 26 v1 rfl rfl) h1
  obtain ⟨c, hc, rfl, rfl, rfl⟩ := open_col (hval 2 26 v2 rfl rfl) h2
  clear hA0 hval0
  simp only [List.append_nil] at hW'
  refine (ways_any a b c ha hb hc W).mono fun e W' ⟨he, hB⟩ => ?_
  subst he
  exact ⟨_, rfl, _, _, _, [], [], [], hW', trodAll_mk1 (shut_bool Try.underlying4 _), trodAll_mk3 (shut_col _ _ _ _ _ a ha) (shut_col _ _ _ _ _ b hb) (shut_col _ _ _ _ _ c hc), rfl, hB.frame _, fun h => by cases h⟩

theorem ways_holds : Rows.PixelWaysSaid :=
  OpenClaim.holds_of_wide 7 Try.f7 rfl rfl rfl rfl rfl rfl rfl ⟨rfl, rfl, rfl, rfl, rfl⟩ rfl rfl rfl rfl rfl (by kernel_rfl) Try.func7 (by kernel_rfl)
    (of_decide_eq_true (by kernel_rfl)) (by unfold Func.isWrapper; rw [if_neg (of_decide_eq_false (by kernel_rfl))]; exact ⟨rfl, rfl⟩)
    (fun os started H enc _ => ways_lifted os started H enc)
end Go.Proofs.Ytcfollajmmlfnaa
