/- flips, turns, counts: how they stand to each other -/
import Derived.Test.YthagnobjbpmneaaIt
namespace Go.Proofs.Ythagnobjbpmneaa
set_option linter.unusedVariables false
set_option linter.unusedSimpArgs false
open Go.RowKit


theorem get_set {t : TL} {i j : Nat} {c : C4} (hi : i < 64) : (t.set i c).get j = if i = j then c else t.get j := by
  unfold TL.get TL.set
  rw [List.getD_eq_getElem?_getD, List.getElem?_set, List.getD_eq_getElem?_getD]
  by_cases e : i = j
  · subst e; simp [t.h, hi]
  · simp [e]
theorem TL.ext_get {t u : TL} (h : ∀ j, j < 64 → t.get j = u.get j) : t = u := by
  apply TL.ext
  apply List.ext_getElem (by rw [t.h, u.h])
  intro j h1 h2
  have := h j (by rw [← t.h]; exact h1)
  unfold TL.get at this
  rwa [getD_at h1, getD_at h2] at this
theorem mv_get {t o : TL} {to : P2 → P2} {g : Nat → Nat} (h : ∀ k : Nat, k < 64 → onP (to ⟨(k : Int) % 8, (k : Int) / 8⟩) = true ∧ ixP (to ⟨(k : Int) % 8, (k : Int) / 8⟩) = g k) (hinj : ∀ a b, a < 64 → b < 64 → g a = g b → a = b) :
    ∀ n, n ≤ 64 → ∀ j, j < n → (mvT t to o n).get (g j) = t.get j
  | 0, _, j, hj => by omega
  | n + 1, hn, j, hj => by
    obtain ⟨h1, h2⟩ := h n (by omega)
    have h3 := (ixP_eq h1).2
    rw [mvT, putT, if_pos h1, get_set h3, h2]
    by_cases e : g n = g j
    · rw [if_pos e, hinj n j (by omega) (by omega) e]
    · rw [if_neg e]
      have : j ≠ n := fun q => e (by rw [q])
      exact mv_get h hinj n (by omega) j (by omega)
def gF (j : Nat) : Nat := 8 * (j / 8) + (7 - j % 8)
def gT (j : Nat) : Nat := 8 * (j % 8) + (7 - j / 8)
theorem flip_get (t : TL) {j : Nat} (hj : j < 64) : (flipT t).get (gF j) = t.get j :=
  mv_get (g := gF) (fun k hk => ⟨by rw [onP_iff]; simp only [flipP]; omega, by unfold ixP gF; simp only [flipP]; omega⟩) (fun a b ha hb e => by unfold gF at e; omega) 64 (by omega) j hj
theorem turn_get (t : TL) {j : Nat} (hj : j < 64) : (turnT t).get (gT j) = t.get j :=
  mv_get (g := gT) (fun k hk => ⟨by rw [onP_iff]; simp only [turnP]; omega, by unfold ixP gT; simp only [turnP]; omega⟩) (fun a b ha hb e => by unfold gT at e; omega) 64 (by omega) j hj
theorem gF_lt {j : Nat} (_ : j < 64) : gF j < 64 := by unfold gF; omega
theorem gT_lt {j : Nat} (_ : j < 64) : gT j < 64 := by unfold gT; omega
theorem gF2 {j : Nat} (h : j < 64) : gF (gF j) = j := by unfold gF; omega
theorem gT2 {j : Nat} (h : j < 64) : gT (gT j) = 63 - j := by unfold gT; omega
theorem gFT {j : Nat} (h : j < 64) : gF (gT j) = 8 * (j % 8) + j / 8 := by unfold gF gT; omega
theorem gTF {j : Nat} (h : j < 64) : gT (gF j) = 63 - (8 * (j % 8) + j / 8) := by unfold gF gT; omega
theorem flip2 (t : TL) : flipT (flipT t) = t := TL.ext_get fun j hj => by
  have h1 := flip_get (flipT t) (gF_lt hj)
  rwa [gF2 hj, flip_get t hj] at h1
theorem turn2_get (t : TL) {j : Nat} (hj : j < 64) : (turnT (turnT t)).get (63 - j) = t.get j := by
  have h1 := turn_get (turnT t) (gT_lt hj)
  rwa [gT2 hj, turn_get t hj] at h1
theorem turn_4 (t : TL) : turnT (turnT (turnT (turnT t))) = t := TL.ext_get fun j hj => by
  have h1 := turn2_get (turnT (turnT t)) (show 63 - j < 64 by omega)
  rwa [turn2_get t hj, show 63 - (63 - j) = j by omega] at h1
theorem flip_turn (t : TL) : flipT (turnT t) = turnT (turnT (turnT (flipT t))) := TL.ext_get fun i hi => by
  obtain ⟨j, hj, rfl⟩ : ∃ j, j < 64 ∧ 8 * (j % 8) + j / 8 = i := ⟨8 * (i % 8) + i / 8, by omega, by omega⟩
  have h1 := flip_get (turnT t) (gT_lt hj)
  rw [gFT hj, turn_get t hj] at h1
  have h2 := turn2_get (turnT (flipT t)) (gT_lt (gF_lt hj))
  have e := turn_get (flipT t) (gF_lt hj)
  rw [e, flip_get t hj, gTF hj, show 63 - (63 - (8 * (j % 8) + j / 8)) = 8 * (j % 8) + j / 8 by omega] at h2
  rw [h1, h2]
theorem turns_add (m : Nat) : ∀ (n : Nat) (t : TL), turnsT m (turnsT n t) = turnsT (m + n) t
  | 0, _ => rfl
  | n + 1, t => by rw [turnsT, turnsT_in, turns_add m n t, ← Nat.add_assoc, turnsT]
theorem turns_back (q : Int) (t : TL) : turnsT (qN (-q)) (turnsT (qN q) t) = t := by
  have h1 := qN_eq q
  have h2 := qN_eq (-q)
  have h3 : (-q).tmod 4 = -(q.tmod 4) := Int.neg_tmod ..
  rw [turns_add]
  have h4 : qN (-q) + qN q = 0 ∨ qN (-q) + qN q = 4 := by omega
  rcases h4 with h4 | h4
  · rw [h4]; rfl
  · rw [h4]; exact turn_4 t
theorem flip_turns (q : Int) (t : TL) : flipT (turnsT (qN q) t) = turnsT (qN (-q)) (flipT t) := by
  have h1 := qN_eq q
  have h2 := qN_eq (-q)
  have h3 : (-q).tmod 4 = -(q.tmod 4) := Int.neg_tmod ..
  have h4 : (qN q = 0 ∧ qN (-q) = 0) ∨ (qN q = 1 ∧ qN (-q) = 3) ∨ (qN q = 2 ∧ qN (-q) = 2) ∨ (qN q = 3 ∧ qN (-q) = 1) := by omega
  rcases h4 with ⟨e1, e2⟩ | ⟨e1, e2⟩ | ⟨e1, e2⟩ | ⟨e1, e2⟩ <;> rw [e1, e2]
  · rfl
  · exact flip_turn t
  · show flipT (turnT (turnT t)) = turnT (turnT (flipT t))
    rw [flip_turn, flip_turn, turn_4]
  · show flipT (turnT (turnT (turnT t))) = turnT (flipT t)
    rw [flip_turn, flip_turn, flip_turn, turn_4, turn_4]
theorem qN_4 : qN 4 = 0 := by decide
theorem l_range (t : TL) : t.l = (List.range 64).map t.get := by
  apply List.ext_getElem (by rw [t.h]; simp)
  intro j h1 h2
  simp [TL.get, h1]
theorem perm_of {t u : TL} {g : Nat → Nat} (h : ∀ j, j < 64 → u.get j = t.get (g j)) (hg : ((List.range 64).map g).isPerm (List.range 64) = true) : u.l.Perm t.l := by
  rw [l_range u, l_range t]
  have e : (List.range 64).map u.get = ((List.range 64).map g).map t.get := by
    rw [List.map_map]
    exact List.map_congr_left fun j hj => h j (by simpa using hj)
  rw [e]
  exact (List.isPerm_iff.1 hg).map _
theorem flip_perm (t : TL) : (flipT t).l.Perm t.l := perm_of (g := gF) (fun j hj => by
  have := flip_get t (gF_lt hj)
  rwa [gF2 hj] at this) (by decide)
theorem turn_perm (t : TL) : (turnT t).l.Perm t.l := perm_of (g := fun i => 63 - gT i) (fun j hj => by
  have hl : 63 - gT j < 64 := by omega
  have := turn_get t hl
  rwa [show gT (63 - gT j) = j by unfold gT; omega] at this) (by decide)
theorem turns_perm : ∀ (n : Nat) (t : TL), (turnsT n t).l.Perm t.l
  | 0, _ => List.Perm.refl _
  | n + 1, t => (turn_perm _).trans (turns_perm n t)
theorem cnt_count (c : C4) : ∀ (l : List C4) (i : Nat), cnt (fun _ x => decide (x = c)) l i = (l.count c : Int)
  | [], _ => rfl
  | a :: l, i => by
    rw [cnt, cnt_count c l, List.count_cons]
    by_cases e : a = c
    · simp [e]; omega
    · simp [e]
theorem count_eq (t : TL) (c : C4) : countT t c = (t.l.count c : Int) := cnt_count c _ _
theorem count_perm {t u : TL} (h : t.l.Perm u.l) (c : C4) : countT t c = countT u c := by rw [count_eq, count_eq, h.count_eq]
theorem count_pos {t : TL} {c : C4} (h : c ∈ colsL t.l) : 1 ≤ countT t c := by
  rw [count_eq]
  have := List.count_pos_iff.2 (cols_mem.1 h)
  omega
theorem cols_nd_go : ∀ (l s : List C4), s.Nodup → (l.foldl (fun s c => if c ∈ s then s else s ++ [c]) s).Nodup
  | [], s, h => h
  | a :: l, s, h => by
    rw [List.foldl_cons]
    refine cols_nd_go l _ ?_
    split
    · exact h
    · rename_i hn
      exact List.nodup_append.2 ⟨h, by simp, fun x hx y hy e => by simp at hy; subst hy; subst e; exact hn hx⟩
theorem cols_nd (l : List C4) : (colsL l).Nodup := cols_nd_go l [] List.nodup_nil
theorem cols_perm {l m : List C4} (h : l.Perm m) : (colsL l).length = (colsL m).length :=
  ((List.perm_ext_iff_of_nodup (cols_nd l) (cols_nd m)).2 fun c => by rw [cols_mem, cols_mem, h.mem_iff]).length_eq

end Go.Proofs.Ythagnobjbpmneaa
