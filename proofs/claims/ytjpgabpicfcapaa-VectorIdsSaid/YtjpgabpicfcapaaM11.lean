/- vector.Of; the document's order of ids; inserted from the left, or from the right, it is the same. -/
import Derived.Test.YtjpgabpicfcapaaM10
import Derived.Test.YtjpgabpicfcapaaM2
namespace Go.Proofs.Ytjpgabpicfcapaa
open Go.RowKit

theorem rng_zero : V.zero.rng := fun _ _ => by show (0 : Int) ≤ 0 ∧ (0 : Int) ≤ 18446744073709551615; decide
set_option maxHeartbeats 1000000 in
theorem of_any (l : List I3) (hn : l.length ≤ 19) (a0 : Option Addr) (cap : Nat) (w : World) (hr : rowV w a0 l.length 3 enI l) (hnil : a0 = none → cap = 0) :
    Calls Try.prog 16 #[.slice a0 l.length cap] w fun e w' => e = .returned (.tuple #[vec (withR V.zero (sortR l)).1, .int .i64 (withR V.zero (sortR l)).2]) ∧ Below w.heap.size w w' := by
  have HR := Lib.hid (rowV_below hr ((Below.refl _ w).alloc (Nat.le_refl _) (.cells (vecA V.zero) 24)))
  clear hr
  have hs := fun W h => identSorted_any l hn a0 cap W h hnil
  have HS := Lib.hid hs
  have hw := fun (a1 : Option Addr) (c1 : Nat) (W : World) (h : rowV W a1 l.length 3 enI (sortR l)) => with_any V.zero rng_zero (sortR l) a1 c1 W (by rw [sortR_len]; exact h) (by rw [sortR_len]; omega)
  simp only [sortR_len] at hw
  generalize withR V.zero (sortR l) = R at *
  have HW := Lib.hid hw
  clear hs hw
  go_enter Try.func16, Try.ntmps16
  go_wp2_with fail
  refine (HS.out _ HR.out).mono ?_
  rintro e w1 ⟨a1, c1, rfl, hr1, hB⟩
  have B1 := Lib.hid (((Below.refl _ w).alloc (Nat.le_refl _) _).trans (hB.mono (by simp)))
  have Z1 := Lib.hid (show vecIn w1 w.heap.size V.zero from holds_below (vecIn_new w V.zero) hB (by simp))
  have R1 := Lib.hid hr1
  clear hB hr1
  go_wp2_with fail
  refine (HW.out _ _ _ R1.out).mono ?_
  rintro e w2 ⟨rfl, hB⟩
  have B2 := Lib.hid (B1.out.trans (hB.mono B1.out.size))
  have Z2 := Lib.hid (show vecIn w2 w.heap.size V.zero from holds_below Z1.out hB Z1.out.lt)
  clear hB B1 Z1
  obtain ⟨z0, z1, z2, z3, z4, z5, z6, z7, z8⟩ := vecIn.cells Z2.out
  have f0 := vecIn.free Z2.out 0 (by omega)
  have f1 := vecIn.free Z2.out 1 (by omega)
  have f2 := vecIn.free Z2.out 2 (by omega)
  have f3 := vecIn.free Z2.out 3 (by omega)
  have f4 := vecIn.free Z2.out 4 (by omega)
  have f5 := vecIn.free Z2.out 5 (by omega)
  have f6 := vecIn.free Z2.out 6 (by omega)
  have f7 := vecIn.free Z2.out 7 (by omega)
  have f8 := vecIn.free Z2.out 8 (by omega)
  go_wp2_with fail
  clear z0 z1 z2 z3 z4 z5 z6 z7 z8 f0 f1 f2 f3 f4 f5 f6 f7 f8
  refine ⟨rfl, .tuple #[vec R.1, .int .i64 R.2], ?_, rfl, ?_⟩
  · obtain ⟨m0, m1, m2, m3, m4, m5, m6, m7, m8⟩ := vecIn.cells (vecIn_put9 Z2.out R.1)
    simp [results, Try.results16, go_sem, m0, m1, m2, m3, m4, m5, m6, m7, m8]
  · exact ((((((((B2.out.setCell (p := ⟨w.heap.size, 0, none⟩) (Nat.le_refl _) _).setCell (p := ⟨w.heap.size, 1, none⟩) (Nat.le_refl _) _).setCell (p := ⟨w.heap.size, 2, none⟩) (Nat.le_refl _) _).setCell (p := ⟨w.heap.size, 3, none⟩) (Nat.le_refl _) _).setCell (p := ⟨w.heap.size, 4, none⟩) (Nat.le_refl _) _).setCell (p := ⟨w.heap.size, 5, none⟩) (Nat.le_refl _) _).setCell (p := ⟨w.heap.size, 6, none⟩) (Nat.le_refl _) _).setCell (p := ⟨w.heap.size, 7, none⟩) (Nat.le_refl _) _).setCell (p := ⟨w.heap.size, 8, none⟩) (Nat.le_refl _) _

theorem lt_case1 {a b : I3} (h : a.t ≠ b.t) : ltId a b = decide (a.t < b.t) := by
  rw [Bool.eq_iff_iff, ltId_iff, decide_eq_true_eq]; omega
theorem lt_case2 {a b : I3} (h : a.t = b.t) (h2 : a.s ≠ b.s) : ltId a b = decide (a.s < b.s) := by
  rw [Bool.eq_iff_iff, ltId_iff, decide_eq_true_eq]; omega
theorem lt_case3 {a b : I3} (h : a.t = b.t) (h2 : a.s = b.s) : ltId a b = decide (a.q < b.q) := by
  rw [Bool.eq_iff_iff, ltId_iff, decide_eq_true_eq]; omega
theorem refLess_any (a b : I3) (w : World) : Calls Try.prog 41 #[a.val, b.val] w fun e w' => e = .returned (.bool (ltId a b)) ∧ Below w.heap.size w w' := by
  by_cases h1 : a.t = b.t
  · by_cases h2 : a.s = b.s
    · have H := Lib.hid (lt_case3 h1 h2)
      have n1 : (a.t != b.t) = false := by simp [h1]
      have n2 : (a.s != b.s) = false := by simp [h2]
      clear h1 h2
      go_enter Try.func41, Try.ntmps41
      go_wp2
      go_ret
      exact ⟨by rw [H.out]; rfl, ((Below.refl _ _).alloc (Nat.le_refl _) _).alloc (by simp) _⟩
    · have H := Lib.hid (lt_case2 h1 h2)
      have n1 : (a.t != b.t) = false := by simp [h1]
      have n2 : (a.s != b.s) = true := by simp [h2]
      clear h1 h2
      go_enter Try.func41, Try.ntmps41
      go_wp2
      go_ret
      exact ⟨by rw [H.out]; rfl, ((Below.refl _ _).alloc (Nat.le_refl _) _).alloc (by simp) _⟩
  · have H := Lib.hid (lt_case1 h1)
    have n1 : (a.t != b.t) = true := by simp [h1]
    clear h1
    go_enter Try.func41, Try.ntmps41
    go_wp2
    go_ret
    exact ⟨by rw [H.out]; rfl, ((Below.refl _ _).alloc (Nat.le_refl _) _).alloc (by simp) _⟩

/-- inserted from the left -/
def placeL (P : List I3) (x : I3) : Nat := (P.takeWhile fun y => !ltId x y).length
def insL (P : List I3) (x : I3) : List I3 := P.take (placeL P x) ++ x :: P.drop (placeL P x)
def upI' (P : List I3) : Prop := P.Pairwise fun a b => ltId b a = false
theorem insL_eq (P : List I3) (x : I3) : insL P x = (P.takeWhile fun y => !ltId x y) ++ x :: (P.dropWhile fun y => !ltId x y) := by
  have e : P = (P.takeWhile fun y => !ltId x y) ++ (P.dropWhile fun y => !ltId x y) := (List.takeWhile_append_dropWhile ..).symm
  have h : ∀ A B : List I3, P = A ++ B → P.take A.length = A ∧ P.drop A.length = B := by
    intro A B h; subst h; simp
  obtain ⟨h1, h2⟩ := h _ _ e
  unfold insL placeL
  rw [h1, h2]
theorem all_behind {P : List I3} (h : upI' P) (x : I3) : ∀ y ∈ P.dropWhile (fun y => !ltId x y), ltId x y = true := by
  induction P with
  | nil => intro y hy; cases hy
  | cons a P ih =>
    intro y hy
    obtain ⟨h1, h2⟩ := List.pairwise_cons.1 h
    rw [List.dropWhile_cons] at hy
    split at hy
    · exact ih h2 y hy
    · rename_i hn
      have ha : ltId x a = true := by simpa using hn
      rcases List.mem_cons.1 hy with rfl | hy
      · exact ha
      · exact lt_le ha (h1 y hy)
theorem insL_insR {P : List I3} (h : upI' P) (x : I3) : insL P x = insR P x := by
  rw [insL_eq]
  have hb := all_behind h x
  have ha : ∀ y ∈ P.takeWhile (fun y => !ltId x y), ltId x y = false := fun y hy => by
    have := List.all_eq_true.1 (List.all_takeWhile (p := fun y => !ltId x y) (l := P)) y hy
    simpa using this
  have e : P = (P.takeWhile fun y => !ltId x y) ++ (P.dropWhile fun y => !ltId x y) := (List.takeWhile_append_dropWhile ..).symm
  generalize P.takeWhile (fun y => !ltId x y) = A at *
  generalize P.dropWhile (fun y => !ltId x y) = B at *
  subst e
  have r1 : ∀ (n : Nat) (B : List I3), B.length = n → (∀ y ∈ B, ltId x y = true) → insR (A ++ B) x = A ++ x :: B := by
    intro n
    induction n with
    | zero =>
      intro B hn _
      obtain rfl := List.eq_nil_of_length_eq_zero hn
      rw [List.append_nil]
      rcases List.eq_nil_or_concat A with e | ⟨A', y, e⟩
      · subst e; rfl
      · subst e
        rw [List.concat_eq_append] at ha ⊢
        rw [insR_stop _ _ _ (ha y (by simp))]
    | succ n ih =>
      intro B hn hB
      rcases List.eq_nil_or_concat B with e | ⟨B', y, e⟩
      · subst e; simp at hn
      · subst e
        rw [List.concat_eq_append] at hn hB ⊢
        rw [← List.append_assoc, insR_go _ _ _ (hB y (by simp)), ih B' (by simpa using hn) (fun z hz => hB z (by simp [hz]))]
        simp
  exact (r1 _ B rfl hb).symm
theorem insL_up {P : List I3} (h : upI' P) (x : I3) : upI' (insL P x) := by
  have hb := all_behind h x
  rw [insL_eq]
  have ha : ∀ y ∈ P.takeWhile (fun y => !ltId x y), ltId x y = false := fun y hy => by
    have := List.all_eq_true.1 (List.all_takeWhile (p := fun y => !ltId x y) (l := P)) y hy
    simpa using this
  have e : P = (P.takeWhile fun y => !ltId x y) ++ (P.dropWhile fun y => !ltId x y) := (List.takeWhile_append_dropWhile ..).symm
  generalize P.takeWhile (fun y => !ltId x y) = A at *
  generalize P.dropWhile (fun y => !ltId x y) = B at *
  subst e
  unfold upI' at *
  rw [List.pairwise_append] at *
  obtain ⟨h1, h2, h3⟩ := h
  refine ⟨h1, List.pairwise_cons.2 ⟨fun b hb' => lt_asymm' (hb b hb'), h2⟩, fun a ha' b hb' => ?_⟩
  rcases List.mem_cons.1 hb' with rfl | hb'
  · exact ha a ha'
  · exact h3 a ha' b hb'
theorem sortR_up (l : List I3) : upI' (sortR l) := by
  have : ∀ (l P : List I3), upI' P → upI' (l.foldl insR P) := by
    intro l
    induction l with
    | nil => intro P h; exact h
    | cons x l ih => intro P h; exact ih _ (by rw [← insL_insR h]; exact insL_up h x)
  exact this l [] List.Pairwise.nil
end Go.Proofs.Ytjpgabpicfcapaa
