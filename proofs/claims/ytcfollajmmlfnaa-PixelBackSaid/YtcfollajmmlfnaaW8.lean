/- Far, Near, Nearest -/
import Derived.Test.YtcfollajmmlfnaaW7b
namespace Go.Proofs.Ytcfollajmmlfnaa
open Go.RowKit

theorem same_far (a b : C4) (h : a.same b = true) : a.far b = 0 := by
  simp only [C4.same, Bool.and_eq_true, beq_iff_eq] at h
  obtain ⟨h1, h2, h3, h4⟩ := h
  unfold C4.far C4.sumD all4 C4.dist
  simp [C4.part, h1, h2, h3, h4]

set_option maxHeartbeats 1000000 in
theorem farUpTo_eq (a b : C4) (most : Int) (w : World) (he : a.same b = true) :
    Calls Try.prog 37 #[a.val, b.val, .int .i64 most] w fun e w' => e = .returned (.tuple #[.int .i64 0, .bool (decide (0 ≤ most))]) ∧ Below w.heap.size w w' := by
  have hq := run_eql_col a b
  go_enter Try.func37, Try.ntmps37
  go_wp2_with fail
  go_step3
  go_wp2_with fail
  have hn := @near_cell (w.heap.size + 1 + 1 + 1)
  refine wp_region_dep (w.heap.size + 1 + 1 + 1) 4 (by kernel_rfl) (by kernel_rfl) (by rfl) (by simp) ?_
  simp only [List.take_succ_cons, List.take_zero, List.drop_succ_cons, List.drop_zero]
  repeat (refine wpDep_plain (by rfl) (fun K hK => ?_); go_simp; (refine hK _ ?_; clear hK K))
  refine wpDep_nil ?_
  intro f m _
  simp only [fillV]
  go_wp2
  rw [Exit.noGoto_ret]
  go_ret2
  refine ⟨rfl, ?_⟩
  exact ((((Below.refl _ _).alloc (Nat.le_refl _) _).alloc (by simp) _).alloc (by simp; omega) _).trans (m.h.mono (by omega))

theorem farUpTo_any (a b : C4) (ha : a.ok) (hb : b.ok) (most : Int) (w : World) :
    Calls Try.prog 37 #[a.val, b.val, .int .i64 most] w fun e w' => ∃ x, e = .returned (.tuple #[.int .i64 x, .bool (decide (a.far b ≤ most))]) ∧ (a.far b ≤ most → x = a.far b) ∧ Below w.heap.size w w' := by
  cases h : a.same b with
  | false => exact farUpTo_ne a b ha hb most w h
  | true =>
    have hf := same_far a b h
    refine (farUpTo_eq a b most w h).mono ?_
    rintro e w' ⟨rfl, hB⟩
    exact ⟨0, by rw [hf], fun _ => hf.symm, hB⟩

theorem far_bd (a b : C4) (ha : a.ok) (hb : b.ok) : 0 ≤ a.far b ∧ a.far b ≤ 1020 := by
  have := sumD_len a b ha hb all4
  unfold C4.far
  have h4 : all4.length = 4 := rfl
  omega

theorem far_any (a b : C4) (ha : a.ok) (hb : b.ok) (w : World) :
    Calls Try.prog 18 #[a.val, b.val] w fun e w' => e = .returned (.int .i64 (a.far b)) ∧ Below w.heap.size w w' := by
  have hbd := (far_bd a b ha hb).2
  go_enter Try.func18, Try.ntmps18
  go_wp2_with (go_at_call 37; refine (farUpTo_any a b ha hb _ _).mono ?_; rintro e w' ⟨x, rfl, hx, hB⟩; obtain rfl := hx hbd; clear hx)
  go_ret
  exact ⟨rfl, Below.trans (((Below.refl _ _).alloc (Nat.le_refl _) _).alloc (by simp) _) (hB.mono (by simp; omega))⟩

theorem near_any (a b : C4) (ha : a.ok) (hb : b.ok) (most : Int) (w : World) :
    Calls Try.prog 19 #[a.val, b.val, .int .i64 most] w fun e w' => e = .returned (.bool (decide (a.far b ≤ most))) ∧ Below w.heap.size w w' := by
  go_enter Try.func19, Try.ntmps19
  go_wp2_with (go_at_call 37; refine (farUpTo_any a b ha hb _ _).mono ?_; rintro e w' ⟨x, rfl, _, hB⟩)
  go_ret
  exact ⟨rfl, Below.trans (((Below.refl _ _).alloc (Nat.le_refl _) _).alloc (by simp) _) (hB.mono (by simp; omega))⟩

/-- place and least so far -/
def nearStep (c : C4) (s : Int × Int) (i : Nat) (x : C4) : Int × Int := if c.far x < s.2 then ((i : Int), c.far x) else s
def nearUpto (c : C4) (l : List C4) : Nat → Int × Int
  | 0 => (-1, 1021)
  | k + 1 => match l[k]? with | some x => nearStep c (nearUpto c l k) k x | none => nearUpto c l k
def C4.nearest (c : C4) (l : List C4) : Int := (nearUpto c l l.length).1

theorem nearUpto_bd (c : C4) (hc : c.ok) (l : List C4) (hl : ∀ x ∈ l, x.ok) (k : Nat) : -1 ≤ (nearUpto c l k).1 ∧ (nearUpto c l k).1 ≤ k ∧ 0 ≤ (nearUpto c l k).2 ∧ (nearUpto c l k).2 ≤ 1021 := by
  induction k with
  | zero => simp [nearUpto]
  | succ k ih =>
    unfold nearUpto
    cases h : l[k]? with
    | none => dsimp only; omega
    | some x =>
      have hb := far_bd c x hc (hl x (List.mem_of_getElem? h))
      dsimp only [nearStep]
      split <;> omega

set_option maxHeartbeats 1000000 in
theorem nearest_row (c : C4) (hok : c.ok) (l : List C4) (hl : ∀ x ∈ l, x.ok) (b off cap : Nat) (w : World) (hc : colsAt w b off l) (hlen : l.length ≤ 1000000) :
    Calls Try.prog 20 #[c.val, .slice (some ⟨b, off, none⟩) l.length cap] w fun e w' => e = .returned (.int .i64 (c.nearest l)) ∧ Below w.heap.size w w' := by
  go_enter Try.func20, Try.ntmps20
  go_wp2
  go_loopw [5, 6, 7, 8, 9, 12] (fun p t _ _ _ i wr => ∃ k : Nat, k ≤ l.length ∧ i = .int .i64 k ∧ p = .int .i64 (nearUpto c l k).1 ∧ t = .int .i64 (nearUpto c l k).2 ∧ Below (w.heap.size + 1) (w.alloc (.cells #[.int .u8 c.r, .int .u8 c.g, .int .u8 c.b, .int .u8 c.a] 26)) wr)
    (fun _ _ _ _ _ i _ => l.length - (intOf i).toNat)
  case atStart => exact ⟨0, Nat.zero_le _, rfl, rfl, rfl, Below.refl _ _⟩
  case round =>
    obtain ⟨k, hk, rfl, rfl, rfl, hB⟩ := hrel
    have hs : w.heap.size < wr.heap.size := by have := hB.size; simp at this; omega
    have hBb : Below w.heap.size w wr := ((Below.refl _ _).alloc (Nat.le_refl _) _).trans (hB.mono (by omega))
    have e0 := hB.cell (p := ⟨w.heap.size, 0, none⟩) (by dsimp only; omega)
    have e1 := hB.cell (p := ⟨w.heap.size, 1, none⟩) (by dsimp only; omega)
    have e2 := hB.cell (p := ⟨w.heap.size, 2, none⟩) (by dsimp only; omega)
    have e3 := hB.cell (p := ⟨w.heap.size, 3, none⟩) (by dsimp only; omega)
    simp [go_sem] at e0 e1 e2 e3
    by_cases hlt : k < l.length
    · obtain ⟨c0, c1, c2, c3⟩ := hc.2 k hlt
      have d0 := (hBb.cell (p := ⟨b, off + k * 4, none⟩) hc.1).trans c0
      have d1 := (hBb.cell (p := ⟨b, off + k * 4 + 1, none⟩) hc.1).trans c1
      have d2 := (hBb.cell (p := ⟨b, off + k * 4 + 2, none⟩) hc.1).trans c2
      have d3 := (hBb.cell (p := ⟨b, off + k * 4 + 3, none⟩) hc.1).trans c3
      clear c0 c1 c2 c3
      have hck := hl _ (List.getElem_mem hlt)
      have hst : nearUpto c l (k + 1) = nearStep c (nearUpto c l k) k l[k] := by
        conv => lhs; unfold nearUpto
        rw [List.getElem?_eq_getElem hlt]
      have hbd := nearUpto_bd c hok l hl k
      generalize l[k] = x at *
      generalize hnu : nearUpto c l k = s at *
      obtain ⟨s1, s2⟩ := s
      clear hnu
      have HS := Lib.hid hst
      clear hst hc
      dsimp only at hbd ⊢
      by_cases hcmp : c.far x < s2
      · have hr := far_bd c x hok hck
        go_wp2_with (go_at_call 18; refine (far_any c x hok hck _).mono ?_; rintro e w' ⟨rfl, hB2⟩)
        go_roundw
        case rel => exact ⟨k + 1, hlt, by go_num, by rw [HS.out]; simp [nearStep, hcmp], by rw [HS.out]; simp [nearStep, hcmp], (hB.alloc (by omega) _).trans (hB2.mono (by simp; omega))⟩
        case measure => simp [intOf]; omega
      · go_wp2_with (go_at_call 18; refine (far_any c x hok hck _).mono ?_; rintro e w' ⟨rfl, hB2⟩)
        go_roundw
        case rel => exact ⟨k + 1, hlt, by go_num, by rw [HS.out]; unfold nearStep; rw [if_neg (Int.not_lt.2 hcmp)], by rw [HS.out]; unfold nearStep; rw [if_neg (Int.not_lt.2 hcmp)], (hB.alloc (by omega) _).trans (hB2.mono (by simp; omega))⟩
        case measure => simp [intOf]; omega
    · obtain rfl : k = l.length := by omega
      go_wp2
      go_ret
      exact ⟨rfl, hBb⟩
end Go.Proofs.Ytcfollajmmlfnaa
