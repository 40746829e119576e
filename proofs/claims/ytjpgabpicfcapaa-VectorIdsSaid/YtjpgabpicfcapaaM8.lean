/- Ids in one order, and how they are sorted: inserted from the right, and from the left. -/
import Derived.Test.YtjpgabpicfcapaaM7
namespace Go.Proofs.Ytjpgabpicfcapaa
open Go.RowKit

theorem cmpI_neg {a b : Int} : cmpI a b < 0 ↔ a < b := by
  unfold cmpI; by_cases h1 : a < b
  · rw [if_pos h1]; omega
  · rw [if_neg h1]; by_cases h2 : b < a
    · rw [if_pos h2]; omega
    · rw [if_neg h2]; omega
theorem cmpI_zero {a b : Int} : cmpI a b = 0 ↔ a = b := by
  unfold cmpI; by_cases h1 : a < b
  · rw [if_pos h1]; omega
  · rw [if_neg h1]; by_cases h2 : b < a
    · rw [if_pos h2]; omega
    · rw [if_neg h2]; omega
theorem orL3 (x y z : Int) : orL [x, y, z] = if x = 0 then (if y = 0 then (if z = 0 then 0 else z) else y) else x := by simp [orL]
theorem ltId_iff (a b : I3) : ltId a b = true ↔ a.t < b.t ∨ (a.t = b.t ∧ (a.s < b.s ∨ (a.s = b.s ∧ a.q < b.q))) := by
  unfold ltId cmpId
  rw [decide_eq_true_eq, orL3]
  by_cases h1 : cmpI a.t b.t = 0
  · rw [if_pos h1]
    have e1 := cmpI_zero.1 h1
    by_cases h2 : cmpI a.s b.s = 0
    · rw [if_pos h2]
      have e2 := cmpI_zero.1 h2
      by_cases h3 : cmpI a.q b.q = 0
      · rw [if_pos h3]
        have e3 := cmpI_zero.1 h3
        omega
      · rw [if_neg h3]
        have := cmpI_neg (a := a.q) (b := b.q)
        omega
    · rw [if_neg h2]
      have h5 := cmpI_neg (a := a.s) (b := b.s)
      have : a.s ≠ b.s := fun e => h2 (cmpI_zero.2 e)
      omega
  · rw [if_neg h1]
    have h5 := cmpI_neg (a := a.t) (b := b.t)
    have : a.t ≠ b.t := fun e => h1 (cmpI_zero.2 e)
    omega
theorem lt_le {x a b : I3} (h : ltId x a = true) (hab : ltId b a = false) : ltId x b = true := by
  rw [ltId_iff] at *
  have : ¬ (b.t < a.t ∨ (b.t = a.t ∧ (b.s < a.s ∨ (b.s = a.s ∧ b.q < a.q)))) := fun h' => by rw [(ltId_iff b a).2 h'] at hab; cases hab
  omega
theorem lt_asymm' {x a : I3} (h : ltId x a = true) : ltId a x = false := by
  rw [← Bool.not_eq_true]
  intro h'
  rw [ltId_iff] at *
  omega
theorem cf_lt (a b : I3) : decide (cfI a b < 0) = ltId a b := by
  unfold cfI
  cases ltId a b <;> cases ltId b a <;> rfl

/-- inserted from the right -/
def insR : List I3 → I3 → List I3
  | P, x => ((P.reverse.dropWhile fun y => ltId x y).reverse) ++ x :: (P.reverse.takeWhile fun y => ltId x y).reverse
theorem insR_nil (x : I3) : insR [] x = [x] := rfl
theorem insR_go (P : List I3) (y x : I3) (h : ltId x y = true) : insR (P ++ [y]) x = insR P x ++ [y] := by
  unfold insR; simp [h]
theorem insR_stop (P : List I3) (y x : I3) (h : ltId x y = false) : insR (P ++ [y]) x = P ++ [y] ++ [x] := by
  unfold insR; simp [h]
def sortR (l : List I3) : List I3 := l.foldl insR []
theorem sortR_snoc (l : List I3) (k : Nat) (h : k < l.length) : sortR (l.take (k + 1)) = insR (sortR (l.take k)) l[k] := by
  unfold sortR
  rw [List.take_succ_eq_append_getElem h, List.foldl_append]; rfl
theorem insR_len (P : List I3) (x : I3) : (insR P x).length = P.length + 1 := by
  unfold insR
  simp only [List.length_append, List.length_cons, List.length_reverse]
  have := congrArg List.length (List.takeWhile_append_dropWhile (p := fun y => ltId x y) (l := P.reverse))
  simp only [List.length_append, List.length_reverse] at this
  omega
theorem sortR_len (l : List I3) : (sortR l).length = l.length := by
  have : ∀ (l P : List I3), (l.foldl insR P).length = P.length + l.length := by
    intro l
    induction l with
    | nil => intro P; simp
    | cons x l ih => intro P; rw [List.foldl_cons, ih, insR_len, List.length_cons]; omega
  unfold sortR; rw [this]; simp

/-- a row of ids in a block of its own, that may be written -/
def ids (W : World) (g : Nat) (l : List I3) : Prop := g < W.heap.size ∧ ∀ k (h : k < l.length),
  W.cell? ⟨g, k * 3, none⟩ = some (.int .u64 (l[k]).t) ∧ W.cell? ⟨g, k * 3 + 1, none⟩ = some (.int .i64 (l[k]).s) ∧ W.cell? ⟨g, k * 3 + 2, none⟩ = some (.int .u64 (l[k]).q) ∧
  W.frozen? ⟨g, k * 3, none⟩ = false ∧ W.frozen? ⟨g, k * 3 + 1, none⟩ = false ∧ W.frozen? ⟨g, k * 3 + 2, none⟩ = false
theorem ids_below {W W' : World} {g : Nat} {l : List I3} {B : Nat} (h : ids W g l) (hb : Below B W W') (hg : g < B) : ids W' g l :=
  ⟨Nat.lt_of_lt_of_le h.1 hb.size, fun k hk => by
    obtain ⟨h1, h2, h3, h4, h5, h6⟩ := h.2 k hk
    exact ⟨(hb.cell (p := ⟨g, _, none⟩) hg).trans h1, (hb.cell (p := ⟨g, _, none⟩) hg).trans h2, (hb.cell (p := ⟨g, _, none⟩) hg).trans h3, (hb.frozen (p := ⟨g, _, none⟩) hg).trans h4, (hb.frozen (p := ⟨g, _, none⟩) hg).trans h5, (hb.frozen (p := ⟨g, _, none⟩) hg).trans h6⟩⟩
theorem ids_row {W : World} {g : Nat} {l : List I3} (h : ids W g l) : rowV W (some ⟨g, 0, none⟩) l.length 3 enI l := by
  refine ⟨rfl, .inr ⟨g, 0, rfl, h.1, fun k hk j hj => ?_⟩⟩
  obtain ⟨h1, h2, h3, _⟩ := h.2 k hk
  rw [Nat.zero_add]
  match j, hj with
  | 0, _ => exact h1
  | 1, _ => exact h2
  | 2, _ => exact h3
abbrev set3 (W : World) (g k : Nat) (x : I3) : World := ((W.setCell ⟨g, k * 3, none⟩ (.int .u64 x.t)).setCell ⟨g, k * 3 + 1, none⟩ (.int .i64 x.s)).setCell ⟨g, k * 3 + 2, none⟩ (.int .u64 x.q)
theorem ids_set {W : World} {g : Nat} {l : List I3} (h : ids W g l) (k : Nat) (_ : k < l.length) (x : I3) : ids (set3 W g k x) g (l.set k x) := by
  refine ⟨by simpa using h.1, fun j hj => ?_⟩
  simp only [List.length_set] at hj
  obtain ⟨h1, h2, h3, h4, h5, h6⟩ := h.2 j hj
  refine ⟨?_, ?_, ?_, by simp only [World.frozen?_setCell]; exact h4, by simp only [World.frozen?_setCell]; exact h5, by simp only [World.frozen?_setCell]; exact h6⟩
  all_goals
    by_cases e : k = j
    · subst e
      simp [go_sem, h1, h2, h3]
    · have n0 : ¬ k * 3 = j * 3 := by omega
      have n1 : ¬ k * 3 + 1 = j * 3 := by omega
      have n2 : ¬ k * 3 + 2 = j * 3 := by omega
      have n3 : ¬ k * 3 = j * 3 + 1 := by omega
      have n4 : ¬ k * 3 + 1 = j * 3 + 1 := by omega
      have n5 : ¬ k * 3 + 2 = j * 3 + 1 := by omega
      have n6 : ¬ k * 3 = j * 3 + 2 := by omega
      have n7 : ¬ k * 3 + 1 = j * 3 + 2 := by omega
      have n8 : ¬ k * 3 + 2 = j * 3 + 2 := by omega
      rw [World.cell?_setCell_other _ _ _ _ (by simp <;> omega), World.cell?_setCell_other _ _ _ _ (by simp <;> omega), World.cell?_setCell_other _ _ _ _ (by simp <;> omega), List.getElem_set_ne e]
      assumption
theorem keep_set3 {g B : Nat} {w W : World} (h : Wild.Keep (fun k => k = g) B w W) (k : Nat) (x : I3) : Wild.Keep (fun k => k = g) B w (set3 W g k x) :=
  ⟨h.os, h.tape, h.output, by simpa using h.size, fun i hi hm => by
    rw [← h.block i hi hm]
    unfold set3
    rw [Below.heap_setCell _ _ _ _ (fun e => hm e), Below.heap_setCell _ _ _ _ (fun e => hm e), Below.heap_setCell _ _ _ _ (fun e => hm e)]⟩
end Go.Proofs.Ytjpgabpicfcapaa
