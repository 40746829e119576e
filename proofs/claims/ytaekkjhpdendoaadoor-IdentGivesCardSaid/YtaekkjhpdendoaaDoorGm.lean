/- what clocks have given so far -/
import Derived.Test.YtaekkjhpdendoaaDoorIi
namespace Go.Proofs.YtaekkjhpdendoaaDoor
set_option linter.unusedVariables false
set_option linter.unusedSimpArgs false
open Go.RowKit

structure T3 where
  s : Int
  b : Bool
  t : Int
def t3c (x : T3) : List Value := [.int .i64 x.s, .bool x.b, .int .u64 x.t]
def T3.rng (x : T3) : Prop := 0 ≤ x.t ∧ x.t ≤ 18446744073709551615
def zCs : List C3 := List.replicate 9 zC
def zIs : List I3 := List.replicate 9 zI
def csK : Nat → List C3
  | 0 => zCs
  | k + 1 => (csK k).set (k + 1) ⟨((k + 1 : Nat) : Int), 0, 0⟩
theorem csK_len : ∀ k, (csK k).length = 9
  | 0 => rfl
  | k + 1 => by rw [csK, List.length_set, csK_len k]
theorem u64_bd (s : Int) : 0 ≤ IntKind.u64.wrap s := by
  have h : IntKind.u64.wrap s = s % 18446744073709551616 := by simp [IntKind.wrap, IntKind.signed, IntKind.bits]
  rw [h]; omega
structure GInv (k : Nat) (cs : List C3) (ls : List I3) (m : List (I3 × Int)) : Prop where
  lc : cs.length = 9
  ll : ls.length = 9
  at_ : ∀ n : Nat, 1 ≤ n → n ≤ 8 → (cs.getD n zC).s = n ∧ (0 ≤ (cs.getD n zC).t ∧ (cs.getD n zC).t ≤ 1099511627776 + k) ∧ (0 ≤ (cs.getD n zC).q ∧ (cs.getD n zC).q ≤ k) ∧ (ls.getD n zI).q = (cs.getD n zC).q ∧ (ls.getD n zI).t ≤ (cs.getD n zC).t
  mp : ∀ i, 0 < getM i m → ∃ n : Nat, 1 ≤ n ∧ n ≤ 8 ∧ i.s = n ∧ i.t ≤ (cs.getD n zC).t
theorem dsetL {α : Type} {l : List α} {i j : Nat} {a z : α} (hi : i < l.length) : (l.set i a).getD j z = if i = j then a else l.getD j z := by
  rw [List.getD_eq_getElem?_getD, List.getElem?_set, List.getD_eq_getElem?_getD]
  by_cases e : i = j
  · subst e; simp [hi]
  · simp [e]
theorem ginv0 : GInv 0 (csK 8) zIs [] := by
  refine ⟨rfl, rfl, fun n h1 h2 => ?_, fun i h => ?_⟩
  · have : n = 1 ∨ n = 2 ∨ n = 3 ∨ n = 4 ∨ n = 5 ∨ n = 6 ∨ n = 7 ∨ n = 8 := by omega
    rcases this with rfl | rfl | rfl | rfl | rfl | rfl | rfl | rfl <;> exact ⟨rfl, ⟨by decide, by decide⟩, ⟨by decide, by decide⟩, rfl, by decide⟩
  · simp [getM] at h
theorem ginv_see {k n : Nat} {cs : List C3} {ls : List I3} {m : List (I3 × Int)} {t : Int} (h : GInv k cs ls m) (h1 : 1 ≤ n) (h8 : n ≤ 8) (ht : 0 ≤ t ∧ t < 1099511627776) : GInv (k + 1) (cs.set n ⟨(cs.getD n zC).s, max (cs.getD n zC).t t, (cs.getD n zC).q⟩) ls m := by
  have hl := h.lc
  refine ⟨by rw [List.length_set]; exact h.lc, h.ll, fun j hj1 hj8 => ?_, fun i hi => ?_⟩
  · rw [dsetL (by omega)]
    have hj := h.at_ j hj1 hj8
    by_cases e : n = j
    · subst e
      rw [if_pos rfl]
      dsimp only
      omega
    · rw [if_neg e]
      omega
  · obtain ⟨j, g1, g2, g3, g4⟩ := h.mp i hi
    refine ⟨j, g1, g2, g3, ?_⟩
    rw [dsetL (by omega)]
    by_cases e : n = j
    · subst e
      rw [if_pos rfl]
      dsimp only
      omega
    · rw [if_neg e]; exact g4
theorem ginv_next {k n : Nat} {cs : List C3} {ls : List I3} {m : List (I3 × Int)} (h : GInv k cs ls m) (h1 : 1 ≤ n) (h8 : n ≤ 8) : GInv (k + 1) (cs.set n (stepC (cs.getD n zC))) (ls.set n (stepI (cs.getD n zC))) (setM (stepI (cs.getD n zC)) 1 m) := by
  have hl := h.lc
  have hl2 := h.ll
  have hn := h.at_ n h1 h8
  refine ⟨by rw [List.length_set]; exact h.lc, by rw [List.length_set]; exact h.ll, fun j hj1 hj8 => ?_, fun i hi => ?_⟩
  · rw [dsetL (by omega), dsetL (by omega)]
    have hj := h.at_ j hj1 hj8
    by_cases e : n = j
    · subst e
      rw [if_pos rfl, if_pos rfl]
      simp only [stepC, stepI, true_and]
      omega
    · rw [if_neg e, if_neg e]
      omega
  · rw [getM_set] at hi
    by_cases e : i = stepI (cs.getD n zC)
    · refine ⟨n, h1, h8, by rw [e]; exact hn.1, ?_⟩
      rw [dsetL (by omega), if_pos rfl, e]
      exact Int.le_refl _
    · rw [if_neg e] at hi
      obtain ⟨j, g1, g2, g3, g4⟩ := h.mp i hi
      refine ⟨j, g1, g2, g3, ?_⟩
      rw [dsetL (by omega)]
      by_cases e2 : n = j
      · subst e2
        rw [if_pos rfl]
        simp only [stepC]
        omega
      · rw [if_neg e2]; exact g4
theorem fresh_id {k n : Nat} {cs : List C3} {ls : List I3} {m : List (I3 × Int)} (h : GInv k cs ls m) (h1 : 1 ≤ n) (h8 : n ≤ 8) : ¬ 0 < getM (stepI (cs.getD n zC)) m := by
  intro hi
  obtain ⟨j, g1, g2, g3, g4⟩ := h.mp _ hi
  have hn := h.at_ n h1 h8
  have : j = n := by
    simp only [stepI] at g3
    omega
  subst this
  simp only [stepI] at g4
  omega
theorem clk_ok {k n : Nat} {cs : List C3} {ls : List I3} {m : List (I3 × Int)} (h : GInv k cs ls m) (hk : k ≤ 60) (h1 : 1 ≤ n) (h8 : n ≤ 8) : clkR (cs.getD n zC) = true ∧ (cs.getD n zC).rng ∧ ((cs.getD n zC).t < 4611686018427387904 ∧ (cs.getD n zC).q < 4611686018427387904) := by
  have hn := h.at_ n h1 h8
  refine ⟨?_, ⟨by omega, by omega⟩, by omega, by omega⟩
  simp only [clkR, isSt, Bool.and_eq_true, decide_eq_true_eq]
  omega
theorem may_ok {k n : Nat} {cs : List C3} {ls : List I3} {m : List (I3 × Int)} (h : GInv k cs ls m) (hk : k ≤ 60) (h1 : 1 ≤ n) (h8 : n ≤ 8) : mayR (stepI (cs.getD n zC)) = true := by
  have hn := h.at_ n h1 h8
  simp only [mayR, isNum, isSt, Bool.and_eq_true, decide_eq_true_eq]
  simp only [stepI]
  omega
theorem less_t {a b : I3} (h : a.t < b.t) : lessC a b = true := by
  unfold lessC cmpR
  rw [eqI_no.2 (fun e => by rw [e] at h; omega)]
  simp [orL, cmpI, h]
theorem keyI : KeyT Tryd.prog 27 idc where
  row := ⟨_, Tryd.underlying27, rfl⟩
  eq a b w := by
    have e : eqT Tryd.prog 9 27 (idc a) (idc b) = some (eqI a b) := by kernel_rfl
    have := eqT_run (P := Tryd.prog) 9 9991 27 _ _ _ w e
    have h2 : eqI a b = decide (a = b) := by
      cases h : eqI a b
      · rw [decide_eq_false (eqI_no.1 h)]
      · rw [decide_eq_true (eqI_iff.1 h)]
    rw [row_val (k := 3) (by kernel_rfl), row_val (k := 3) (by kernel_rfl), h2] at this
    exact this
  chk b a w := by kernel_rfl
  bits a := by simp [Instr.sameBits, idc]
theorem newOk_d {n : Nat} (h : 1 ≤ n ∧ n ≤ 8) : DFun Tryd.prog 24 [.val (.int .i64 (n : Int))] [] (.tup [ckD ⟨(n : Int), 0, 0⟩, .val (.int .i64 0)]) [] := by
  have e : newC (n : Int) = (⟨(n : Int), 0, 0⟩, 0) := by
    unfold newC
    rw [if_pos (by simp only [isSt, Bool.and_eq_true, decide_eq_true_eq]; omega)]
  have h2 := new_d (n : Int)
  rw [e] at h2
  exact h2
theorem seeOk_d {c : C3} {t : Int} (h1 : clkR c = true) (h2 : t < 1099511627776) : DFun Tryd.prog 27 [ckD c, rowU [t]] [] (.tup [ckD ⟨c.s, max c.t t, c.q⟩, .val (.int .i64 0)]) [] := by
  have e : seeC c [t] = (⟨c.s, max c.t t, c.q⟩, 0) := by
    unfold seeC
    rw [if_pos h1, if_neg (by simp [over]; omega)]
    rfl
  have h3 := seeC_d c [t]
  rw [e] at h3
  exact h3
theorem nextOk_d {c : C3} (h1 : clkR c = true) (h2 : c.rng) (h3 : c.t < 4611686018427387904 ∧ c.q < 4611686018427387904) : DFun Tryd.prog 26 [ckD c] [] (.tup [ckD (stepC c), idD (stepI c), .val (.int .i64 0)]) [] := by
  have e : nextC c = (stepC c, stepI c, 0) := by
    unfold nextC
    rw [if_pos h1, if_neg (by simp [lateC]; omega)]
  have h4 := next_d c h2
  rw [e] at h4
  exact h4
theorem checkOk_d {i : I3} (h : mayR i = true) : DFun Tryd.prog 11 [idD i] [] (.val (.int .i64 0)) [] := by
  have h2 := check_d i
  rw [h] at h2
  exact h2
theorem or6 : ∀ A B C D E G : Bool, A = false → B = false → C = false → D = false → E = false → G = false → (((((A || B) || C) || D) || E) || G) = false := by decide
theorem bne_no {a b : Int} (h : a = b) : (a != b) = false := by rw [h]; simp

end Go.Proofs.YtaekkjhpdendoaaDoor
