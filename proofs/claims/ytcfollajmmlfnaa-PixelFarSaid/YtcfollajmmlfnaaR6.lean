/- Nearest and Equal over a slice of colours that came in, or was made; what the least so far is -/
import Derived.Test.YtcfollajmmlfnaaR3
import Derived.Test.YtcfollajmmlfnaaR5
namespace Go.Proofs.Ytcfollajmmlfnaa
open Go.RowKit

theorem rowCols_take {w : World} {a0 : Option Addr} {xs : List C4} (h : rowCols w a0 xs.length xs) (n : Nat) (hn : n ≤ xs.length) : rowCols w a0 n (xs.take n) := by
  refine ⟨by rw [List.length_take]; omega, fun c hc => h.2.1 c (List.mem_of_mem_take hc), ?_⟩
  rcases h.2.2 with rfl | ⟨b, off, rfl, hb, hc⟩
  · exact .inl (by simp)
  · refine .inr ⟨b, off, rfl, hb, fun k hk => ?_⟩
    have hk' : k < xs.length := by rw [List.length_take] at hk; omega
    have := hc k hk'
    rwa [List.getElem_take]
theorem rowCols_below {w w' : World} {a0 : Option Addr} {n : Nat} {l : List C4} (h : rowCols w a0 n l) (hb : Below w.heap.size w w') : rowCols w' a0 n l := by
  refine ⟨h.1, h.2.1, ?_⟩
  rcases h.2.2 with e | ⟨b, off, e, hlt, hc⟩
  · exact .inl e
  · refine .inr ⟨b, off, e, Nat.lt_of_lt_of_le hlt hb.size, fun k hk => ?_⟩
    obtain ⟨h0, h1, h2, h3⟩ := hc k hk
    exact ⟨(hb.cell (p := ⟨b, _, none⟩) hlt).trans h0, (hb.cell (p := ⟨b, _, none⟩) hlt).trans h1, (hb.cell (p := ⟨b, _, none⟩) hlt).trans h2, (hb.cell (p := ⟨b, _, none⟩) hlt).trans h3⟩

/-- the least so far is one of them -/
theorem nearUpto_least (c : C4) (hc : c.ok) (l : List C4) (hl : ∀ x ∈ l, x.ok) (k : Nat) (hk : k ≤ l.length) :
    (k = 0 ∧ nearUpto c l k = (-1, 1021)) ∨ ∃ (p : Nat) (hp : p < l.length), p < k ∧ nearUpto c l k = ((p : Int), c.far l[p]) := by
  induction k with
  | zero => exact .inl ⟨rfl, rfl⟩
  | succ k ih =>
    right
    have hlt : k < l.length := hk
    have hst : nearUpto c l (k + 1) = nearStep c (nearUpto c l k) k l[k] := by
      conv => lhs; unfold nearUpto
      rw [List.getElem?_eq_getElem hlt]
    have hb := far_bd c l[k] hc (hl _ (List.getElem_mem hlt))
    rcases ih (by omega) with ⟨rfl, e⟩ | ⟨p, hp, hpk, e⟩
    · refine ⟨0, hlt, by omega, ?_⟩
      rw [hst, e]
      unfold nearStep
      rw [if_pos (by dsimp only; omega)]
    · rw [hst, e]
      unfold nearStep
      dsimp only
      by_cases h : c.far l[k] < c.far l[p]
      · rw [if_pos h]; exact ⟨k, hlt, by omega, rfl⟩
      · rw [if_neg h]; exact ⟨p, hp, by omega, rfl⟩

set_option maxHeartbeats 1000000 in
theorem nearest_cols (c : C4) (hok : c.ok) (l : List C4) (a0 : Option Addr) (cap : Nat) (w : World) (hr : rowCols w a0 l.length l) (hlen : l.length ≤ 1000000) :
    Calls Try.prog 20 #[c.val, .slice a0 l.length cap] w fun e w' => e = .returned (.int .i64 (c.nearest l)) ∧ Below w.heap.size w w' := by
  have hl := hr.2.1
  have hr := hr.2.2
  go_enter Try.func20, Try.ntmps20
  go_wp2
  go_loopw [5, 6, 7, 8, 9, 12] (fun p t _ _ _ i wr => ∃ k : Nat, k ≤ l.length ∧ i = .int .i64 k ∧ p = .int .i64 (nearUpto c l k).1 ∧ t = .int .i64 (nearUpto c l k).2 ∧ Below (w.heap.size + 1) (w.alloc (.cells #[.int .u8 c.r, .int .u8 c.g, .int .u8 c.b, .int .u8 c.a] 26)) wr)
    (fun _ _ _ _ _ i _ => l.length - (intOf i).toNat)
  case atStart => exact ⟨0, Nat.zero_le _, rfl, rfl, rfl, Below.refl _ _⟩
  case round =>
    obtain ⟨k, hk, rfl, rfl, rfl, hB⟩ := hrel
    have hs : w.heap.size < wr.heap.size := by have := hB.size; simp at this; omega
    have hBb : Below w.heap.size w wr := ((Below.refl _ _).alloc (Nat.le_refl _) _).trans (hB.mono (by omega))
    have e0 := hB.cell (p := ⟨w.heap.size, 0, none⟩) (by dsimp only; omega)
    have e1 := hB.cell (p := ⟨w.heap.size, 1, none⟩) (by dsimp only; omega)
    have e2 := hB.cell (p := ⟨w.heap.size, 2, none⟩) (by dsimp only; omega)
    have e3 := hB.cell (p := ⟨w.heap.size, 3, none⟩) (by dsimp only; omega)
    simp [go_sem] at e0 e1 e2 e3
    by_cases hlt : k < l.length
    · have hne : l ≠ [] := by intro e; subst e; simp at hlt
      obtain ⟨b, off, rfl, hc⟩ := hr.resolve_left hne
      clear hr hne
      obtain ⟨c0, c1, c2, c3⟩ := hc.2 k hlt
      have d0 := (hBb.cell (p := ⟨b, off + k * 4, none⟩) hc.1).trans c0
      have d1 := (hBb.cell (p := ⟨b, off + k * 4 + 1, none⟩) hc.1).trans c1
      have d2 := (hBb.cell (p := ⟨b, off + k * 4 + 2, none⟩) hc.1).trans c2
      have d3 := (hBb.cell (p := ⟨b, off + k * 4 + 3, none⟩) hc.1).trans c3
      clear c0 c1 c2 c3
      have hck := hl _ (List.getElem_mem hlt)
      have hst : nearUpto c l (k + 1) = nearStep c (nearUpto c l k) k l[k] := by
        conv => lhs; unfold nearUpto
        rw [List.getElem?_eq_getElem hlt]
      have hbd := nearUpto_bd c hok l hl k
      generalize l[k] = x at *
      generalize hnu : nearUpto c l k = s at *
      obtain ⟨s1, s2⟩ := s
      clear hnu
      have HS := Lib.hid hst
      clear hst hc
      dsimp only at hbd ⊢
      by_cases hcmp : c.far x < s2
      · have hr := far_bd c x hok hck
        go_wp2_with (go_at_call 18; refine (far_any c x hok hck _).mono ?_; rintro e w' ⟨rfl, hB2⟩)
        go_roundw
        case rel => exact ⟨k + 1, hlt, by go_num, by rw [HS.out]; simp [nearStep, hcmp], by rw [HS.out]; simp [nearStep, hcmp], (hB.alloc (by omega) _).trans (hB2.mono (by simp; omega))⟩
        case measure => simp [intOf]; omega
      · go_wp2_with (go_at_call 18; refine (far_any c x hok hck _).mono ?_; rintro e w' ⟨rfl, hB2⟩)
        go_roundw
        case rel => exact ⟨k + 1, hlt, by go_num, by rw [HS.out]; unfold nearStep; rw [if_neg (Int.not_lt.2 hcmp)], by rw [HS.out]; unfold nearStep; rw [if_neg (Int.not_lt.2 hcmp)], (hB.alloc (by omega) _).trans (hB2.mono (by simp; omega))⟩
        case measure => simp [intOf]; omega
    · obtain rfl : k = l.length := by omega
      go_wp2
      go_ret
      exact ⟨rfl, hBb⟩
end Go.Proofs.Ytcfollajmmlfnaa
