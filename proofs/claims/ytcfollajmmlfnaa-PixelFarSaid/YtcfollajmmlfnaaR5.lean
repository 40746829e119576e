/- slices.Clone of a slice of colours -/
import Derived.Test.YtcfollajmmlfnaaR4
import Derived.Lib.SliceRun
namespace Go.Proofs.Ytcfollajmmlfnaa
open Go.RowKit

def flat : List C4 → List Value
  | [] => []
  | c :: l => .int .u8 c.r :: .int .u8 c.g :: .int .u8 c.b :: .int .u8 c.a :: flat l
theorem flat_len (l : List C4) : (flat l).length = l.length * 4 := by
  induction l with
  | nil => rfl
  | cons c l ih => simp [flat, ih]; omega
theorem flat_one (l : List C4) : ∀ u ∈ flat l, u.oneCell' = true := by
  induction l with
  | nil => intro u hu; cases hu
  | cons c l ih =>
    intro u hu
    simp only [flat, List.mem_cons] at hu
    rcases hu with rfl | rfl | rfl | rfl | hu
    · rfl
    · rfl
    · rfl
    · rfl
    · exact ih u hu
theorem flat_get (l : List C4) : ∀ (k : Nat) (h : k < l.length), (flat l)[k * 4]? = some (.int .u8 l[k].r) ∧ (flat l)[k * 4 + 1]? = some (.int .u8 l[k].g) ∧ (flat l)[k * 4 + 2]? = some (.int .u8 l[k].b) ∧ (flat l)[k * 4 + 3]? = some (.int .u8 l[k].a) := by
  induction l with
  | nil => intro k h; simp at h
  | cons c l ih =>
    intro k h
    cases k with
    | zero => exact ⟨rfl, rfl, rfl, rfl⟩
    | succ k =>
      have := ih k (by simpa using h)
      rw [show (k + 1) * 4 = k * 4 + 4 by omega]
      exact this
theorem flat_cells (w : World) (b : Nat) (l : List C4) : ∀ off, (∀ k (h : k < l.length), w.cell? ⟨b, off + k * 4, none⟩ = some (.int .u8 l[k].r) ∧ w.cell? ⟨b, off + k * 4 + 1, none⟩ = some (.int .u8 l[k].g) ∧ w.cell? ⟨b, off + k * 4 + 2, none⟩ = some (.int .u8 l[k].b) ∧ w.cell? ⟨b, off + k * 4 + 3, none⟩ = some (.int .u8 l[k].a)) →
    ∀ j u, (flat l)[j]? = some u → w.cell? ⟨b, off + j, none⟩ = some u := by
  induction l with
  | nil => intro off _ j u h; simp [flat] at h
  | cons c l ih =>
    intro off hc j u h
    obtain ⟨h0, h1, h2, h3⟩ := hc 0 (by simp)
    match j, h with
    | 0, h => obtain rfl := Option.some.inj h; exact h0
    | 1, h => obtain rfl := Option.some.inj h; exact h1
    | 2, h => obtain rfl := Option.some.inj h; exact h2
    | 3, h => obtain rfl := Option.some.inj h; exact h3
    | j + 4, h =>
      have := ih (off + 4) (fun k hk => by
        have := hc (k + 1) (by simpa using hk)
        rw [show off + (k + 1) * 4 = off + 4 + k * 4 by omega] at this
        exact this) j u h
      rw [show off + (j + 4) = off + 4 + j by omega]
      exact this
/-- a row of the call's own, as a slice of colours -/
theorem rowCols_of_own {w : World} {base g cap : Nat} {l : List C4} (hok : ∀ c ∈ l, c.ok) (h : w.ownsRow base 26 4 (.slice (some ⟨g, 0, none⟩) l.length cap) l.length (flat l)) : rowCols w (some ⟨g, 0, none⟩) l.length l := by
  refine ⟨rfl, hok, ?_⟩
  by_cases h0 : l = []
  · exact .inl h0
  · refine .inr ⟨g, 0, rfl, (h.lt g rfl).2, fun k hk => ?_⟩
    obtain ⟨f0, f1, f2, f3⟩ := flat_get l k hk
    have q : ∀ j, j < l.length * 4 → w.cell? ⟨g, 0 + j, none⟩ = (flat l)[j]? := fun j hj => by rw [Nat.zero_add]; exact h.cellAt j hj
    exact ⟨(q _ (by omega)).trans f0, (q (k * 4 + 1) (by omega)).trans f1, (q (k * 4 + 2) (by omega)).trans f2, (q (k * 4 + 3) (by omega)).trans f3⟩

theorem info_col : (Try.prog.info? 26).map (fun i => (i.zero, i.size, i.bytes)) = some (some (.agg #[.int .u8 0, .int .u8 0, .int .u8 0, .int .u8 0]), 4, 4) := by kernel_rfl

set_option maxHeartbeats 2000000 in
theorem clone_some (l : List C4) (ad : Addr) (c : Nat) (w : World) (h : rowCols w (some ad) l.length l) (hlen : l.length ≤ 1000000) :
    Calls Try.prog 14 #[.slice (some ad) l.length c] w fun e w' => ∃ g cap, e = .returned (.slice (some ⟨g, 0, none⟩) l.length cap) ∧ rowCols w' (some ⟨g, 0, none⟩) l.length l ∧ Below w.heap.size w w' := by
  obtain ⟨i0, hi, hz0, hz1, hz2⟩ := info_parts info_col
  have q24 : ∀ (w : World) (a : Option Addr) (n c n' c' : Nat), (binOp .eql 24 (.slice a n c) (.slice none n' c')).run Try.prog w = .ok (.bool a.isNone) w := fun w a n c n' c' => Lib.run_eql_slice_nil w _ _ a n c n' c' Try.underlying24
  have hok := h.2.1
  have hcl : ∀ j u, (flat l)[j]? = some u → w.cell? (ad.add j) = some u := by
    intro j u hj
    rcases h.2.2 with e | ⟨b, off, e, hb, hc⟩
    · subst e; simp [flat] at hj
    · obtain rfl := Option.some.inj e
      have := flat_cells w b l off hc j u hj
      have hpl : (⟨b, off, none⟩ : Addr).add j = ⟨b, off + j, none⟩ := by simp [Addr.add]
      rw [hpl]; exact this
  have HC := Lib.hid hcl
  clear hcl h
  go_enter Try.func14, Try.ntmps14
  go_wp2_with (at_builtin; refine wpList_append_own _ rfl _ _ 24 rfl w.heap.size 26 i0 (.agg #[.int .u8 0, .int .u8 0, .int .u8 0, .int .u8 0]) 4 4 Try.underlying24 hi hz0 hz1 hz2 rfl (by decide) _ _ _ rfl (World.ownsRow_made w #[] 0 (Nat.le_refl _) (Nat.zero_le _) rfl) ad l.length c (flat l) rfl ?qc1 ?qc2 ?qc3 ?qc4 ?qc5 ?qc6 ?_)
  case qc1 => exact flat_len l
  case qc2 =>
    intro j u hj
    exact Lib.cell?_alloc_some _ (HC.out j u hj)
  case qc3 => exact flat_one l
  case qc4 => unfold maxLen; omega
  case qc5 => omega
  case qc6 => simp
  intro v' w1 hown hgrow hnil
  have hne : v' ≠ .slice none 0 0 := hnil
  clear hnil
  rcases hown.2 with ⟨e, _⟩ | ⟨g, cap, cur, rfl, _⟩
  · exact absurd e hne
  have hrow := rowCols_of_own hok hown
  go_wp2
  go_ret
  exact ⟨g, cap, rfl, hrow, ((Below.refl _ w).alloc (Nat.le_refl _) _).grown hgrow (by simp) (by intro k hk; simp [Value.ownBlock] at hk; omega)⟩

theorem clone_none (w : World) :
    Calls Try.prog 14 #[.slice none 0 0] w fun e w' => e = .returned (.slice none 0 0) ∧ Below w.heap.size w w' := by
  have q24 : ∀ (w : World) (a : Option Addr) (n c n' c' : Nat), (binOp .eql 24 (.slice a n c) (.slice none n' c')).run Try.prog w = .ok (.bool a.isNone) w := fun w a n c n' c' => Lib.run_eql_slice_nil w _ _ a n c n' c' Try.underlying24
  go_enter Try.func14, Try.ntmps14
  go_wp2
  go_ret
  exact ⟨rfl, Below.refl _ _⟩

/-- whatever the slice: its clone is a slice of the same colours -/
theorem clone_any (l : List C4) (a0 : Option Addr) (c : Nat) (w : World) (h : rowCols w a0 l.length l) (hc : a0 = none → c = 0) (hlen : l.length ≤ 1000000) :
    Calls Try.prog 14 #[.slice a0 l.length c] w fun e w' => ∃ a1 cap, e = .returned (.slice a1 l.length cap) ∧ rowCols w' a1 l.length l ∧ Below w.heap.size w w' := by
  cases a0 with
  | none =>
    have hl : l = [] := by
      rcases h.2.2 with e | ⟨b, off, e, _⟩
      · exact e
      · cases e
    subst hl
    obtain rfl := hc rfl
    exact (clone_none w).mono fun e w' ⟨he, hb⟩ => ⟨none, 0, he, ⟨rfl, by simp, .inl rfl⟩, hb⟩
  | some ad => exact (clone_some l ad c w h hlen).mono fun e w' ⟨g, cap, he, hr, hb⟩ => ⟨_, cap, he, hr, hb⟩
end Go.Proofs.Ytcfollajmmlfnaa
