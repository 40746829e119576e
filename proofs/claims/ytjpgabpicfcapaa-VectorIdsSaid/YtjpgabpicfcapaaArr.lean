/- A block that holds a row of cells and may be written: what it holds stays, while other memory turns; a store sets one cell. No condition. -/
import Derived.Test.YtjpgabpicfcapaaNear
namespace Go.Proofs.Ytjpgabpicfcapaa
open Go.RowKit

/-- block b holds these cells, from its head on, and may be written -/
def holds (w : World) (b : Nat) (l : List Value) : Prop := b < w.heap.size ∧ ∀ j (h : j < l.length), w.cell? ⟨b, j, none⟩ = some l[j] ∧ w.frozen? ⟨b, j, none⟩ = false

theorem holds.lt {w : World} {b : Nat} {l : List Value} (h : holds w b l) : b < w.heap.size := h.1
theorem holds.cell {w : World} {b : Nat} {l : List Value} (h : holds w b l) (j : Nat) (hj : j < l.length) : w.cell? ⟨b, j, none⟩ = some l[j] := (h.2 j hj).1
theorem holds.free {w : World} {b : Nat} {l : List Value} (h : holds w b l) (j : Nat) (hj : j < l.length) : w.frozen? ⟨b, j, none⟩ = false := (h.2 j hj).2
theorem holds_below {B : Nat} {w w' : World} {b : Nat} {l : List Value} (h : holds w b l) (hb : Below B w w') (hlt : b < B) : holds w' b l :=
  ⟨Nat.lt_of_lt_of_le h.1 hb.size, fun j hj => ⟨(hb.cell (p := ⟨b, j, none⟩) hlt).trans (h.2 j hj).1, (hb.frozen (p := ⟨b, j, none⟩) hlt).trans (h.2 j hj).2⟩⟩
theorem holds_set {w : World} {b : Nat} {l : List Value} (h : holds w b l) (j : Nat) (hj : j < l.length) (v : Value) : holds (w.setCell ⟨b, j, none⟩ v) b (l.set j v) := by
  refine ⟨by simpa using h.1, fun k hk => ?_⟩
  simp only [List.length_set] at hk
  refine ⟨?_, by rw [World.frozen?_setCell]; exact (h.2 k hk).2⟩
  by_cases e : j = k
  · subst e
    rw [World.cell?_setCell_same _ _ _ (h.2 j hj).1]
    simp
  · rw [World.cell?_setCell_other _ _ _ _ (by intro q; simp at q), (h.2 k hk).1, List.getElem_set_ne e]
theorem holds_other {w : World} {b c j : Nat} {l : List Value} (h : holds w b l) (hne : c ≠ b) (v : Value) : holds (w.setCell ⟨c, j, none⟩ v) b l :=
  ⟨by simpa using h.1, fun k hk => ⟨by rw [World.cell?_setCell_other _ _ _ _ (by intro q; exact hne (by simpa using congrArg Addr.block q)), (h.2 k hk).1], by rw [World.frozen?_setCell]; exact (h.2 k hk).2⟩⟩
theorem holds_alloc {w : World} {b : Nat} {l : List Value} (h : holds w b l) (o : Obj) : holds (w.alloc o) b l :=
  holds_below h ((Below.refl w.heap.size w).alloc (Nat.le_refl _) o) h.1
theorem holds_new (w : World) (c : Array Value) (t : TypeId) : holds (w.alloc (.cells c t)) w.heap.size c.toList := by
  refine ⟨by simp, fun j hj => ⟨?_, ?_⟩⟩
  · rw [World.cell?_alloc_at _ _ _ _ rfl]
    simp at hj
    simp [hj]
  · exact World.frozen?_alloc_at _ _ _ _ rfl
theorem holds_alike {w w' : World} {b : Nat} {l : List Value} (h : holds w b l) (e : w'.heap = w.heap) : holds w' b l := by
  have hc : ∀ a, w'.cell? a = w.cell? a := fun a => by simp only [World.cell?, e]
  have hf : ∀ a, w'.frozen? a = w.frozen? a := fun a => by simp only [World.frozen?, e]
  exact ⟨by rw [e]; exact h.1, fun j hj => ⟨by rw [hc]; exact (h.2 j hj).1, by rw [hf]; exact (h.2 j hj).2⟩⟩
end Go.Proofs.Ytjpgabpicfcapaa
