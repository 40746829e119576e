/- What one vector lacks of another one, as values: filled with it, stretch by stretch, it comes to what both join to. -/
import Derived.Test.YtjpgabpicfcapaaVb
namespace Go.Proofs.Ytjpgabpicfcapaa
open Go.RowKit

def filled (a b : V) (P : List S3) : V := fun j => if P.any (fun x => x.s.toNat == j) then b j else a j
def sumS (l : List S3) : Int := (l.map fun x => x.t - x.f + 1).sum
/-- a stretch of what a lacks of b -/
def OfAB (a b : V) (x : S3) : Prop := ∃ k : Nat, 1 ≤ k ∧ k ≤ 8 ∧ a k < b k ∧ x = ⟨k, a k + 1, b k⟩
theorem mem_lackL {a b : V} {L : List S8} {x : S3} (h : x ∈ lackL a b L) : OfAB a b x := by
  unfold lackL at h
  obtain ⟨y, _, hx⟩ := List.mem_flatMap.1 h
  unfold lackOne at hx
  split at hx
  · rename_i hlt
    rw [List.mem_singleton.1 hx]
    exact ⟨y.nat, y.bd.1, y.bd.2, hlt, rfl⟩
  · cases hx
theorem lack_mem {a b : V} {L : List S8} {y : S8} (hy : y ∈ L) (h : a y.nat < b y.nat) : (⟨y.nat, a y.nat + 1, b y.nat⟩ : S3) ∈ lackL a b L := by
  unfold lackL
  exact List.mem_flatMap.2 ⟨y, hy, by unfold lackOne; rw [if_pos h]; simp⟩
theorem S8.nat_inj {x y : S8} (h : x.nat = y.nat) : x = y := by cases x <;> cases y <;> first | rfl | cases h
theorem lack_apart (a b : V) : ∀ L : List S8, L.Nodup → (lackL a b L).Pairwise (fun x y => x.s ≠ y.s)
  | [], _ => List.Pairwise.nil
  | x :: L, h => by
    have e : lackL a b (x :: L) = lackOne a b x ++ lackL a b L := by unfold lackL; rw [List.flatMap_cons]
    obtain ⟨h1, h2⟩ := List.nodup_cons.1 h
    rw [e, List.pairwise_append]
    refine ⟨by unfold lackOne; split <;> simp, lack_apart a b L h2, fun u hu v hv hne => ?_⟩
    unfold lackL at hv
    obtain ⟨y, hy, hv⟩ := List.mem_flatMap.1 hv
    unfold lackOne at hu hv
    split at hu
    · split at hv
      · rw [List.mem_singleton.1 hu, List.mem_singleton.1 hv] at hne
        have : x.nat = y.nat := by have h : (x.nat : Int) = y.nat := hne; omega
        have := S8.nat_inj this
        subst this
        exact h1 hy
      · cases hv
    · cases hu
theorem all8_nodup : all8.Nodup := by unfold all8; simp
theorem lack_apart' {a b : V} {l : List S3} (hl : l = lackL a b all8) {i j : Nat} (hi : i < j) (hj : j < l.length) : (l[i]).s ≠ (l[j]).s := by
  subst hl
  exact List.pairwise_iff_getElem.1 (lack_apart a b all8 all8_nodup) i j (by omega) hj hi

theorem filled_nil (a b : V) : filled a b [] = a := by funext j; simp [filled]
theorem take_snoc' {α : Type} (l : List α) (k : Nat) (h : k < l.length) : l.take (k + 1) = l.take k ++ [l[k]] := by
  rw [List.take_succ_eq_append_getElem h]
theorem filled_start {a b : V} {l : List S3} (hl : l = lackL a b all8) {k : Nat} (hk : k < l.length) : (filled a b (l.take k)).set (l[k]).s.toNat ((l[k]).f - 1) = filled a b (l.take k) := by
  obtain ⟨s, s1, s8, hlt, hx⟩ := mem_lackL (by rw [← hl]; exact List.getElem_mem hk : l[k] ∈ lackL a b all8)
  funext j
  unfold V.set
  by_cases e : j = (l[k]).s.toNat
  · rw [if_pos e]
    unfold filled
    rw [if_neg]
    · rw [hx] at e ⊢
      obtain rfl : j = s := by simpa using e
      show a j + 1 - 1 = a j
      omega
    · intro hany
      obtain ⟨x, hm, hs⟩ := List.any_eq_true.1 hany
      obtain ⟨i, hi, rfl⟩ := List.getElem_of_mem hm
      simp only [List.length_take] at hi
      rw [List.getElem_take] at hs
      have h1 := lack_apart' hl (i := i) (j := k) (by omega) hk
      obtain ⟨s', t1, t8, _, hx'⟩ := mem_lackL (by rw [← hl]; exact List.getElem_mem (by omega) : l[i] ∈ lackL a b all8)
      rw [hx, hx'] at h1
      rw [hx] at e
      rw [hx'] at hs
      simp at hs e h1
      omega
  · rw [if_neg e]
theorem filled_next {a b : V} {l : List S3} (hl : l = lackL a b all8) {k : Nat} (hk : k < l.length) : (filled a b (l.take k)).set (l[k]).s.toNat (l[k]).t = filled a b (l.take (k + 1)) := by
  obtain ⟨s, s1, s8, hlt, hx⟩ := mem_lackL (by rw [← hl]; exact List.getElem_mem hk : l[k] ∈ lackL a b all8)
  funext j
  rw [take_snoc' l k hk]
  unfold V.set filled
  rw [List.any_append]
  by_cases e : j = (l[k]).s.toNat
  · rw [if_pos e, if_pos (by simp [e])]
    rw [hx] at e ⊢
    subst e
    rfl
  · rw [if_neg e]
    have : ([l[k]].any fun x => x.s.toNat == j) = false := by simp; exact fun h => e h.symm
    rw [this, Bool.or_false]
theorem filled_may {a b : V} (ha : a.may = true) (hb : b.may = true) (P : List S3) (hP : ∀ x ∈ P, OfAB a b x) : (filled a b P).may = true := by
  rw [may_spec] at *
  refine ⟨?_, fun k hk => ?_⟩
  · unfold filled
    rw [if_neg]
    · exact ha.1
    · intro hany
      obtain ⟨x, hm, hs⟩ := List.any_eq_true.1 hany
      obtain ⟨s, s1, _, _, rfl⟩ := hP x hm
      simp at hs; omega
  · unfold filled
    split
    · exact hb.2 k hk
    · exact ha.2 k hk
theorem filled_rng {a b : V} (ra : a.rng) (rb : b.rng) (P : List S3) : (filled a b P).rng := fun k hk => by
  unfold filled
  split
  · exact rb k hk
  · exact ra k hk
theorem filled_all {a b : V} {l : List S3} (hl : l = lackL a b all8) : ∀ k, k < 9 → filled a b l k = joinV a b k := by
  intro k hk
  unfold filled
  by_cases e : k = 0
  · subst e
    unfold joinV; rw [come_zero, if_neg]
    intro hany
    obtain ⟨x, hm, hs⟩ := List.any_eq_true.1 hany
    obtain ⟨s, s1, _, _, rfl⟩ := mem_lackL (by rw [← hl]; exact hm : x ∈ lackL a b all8)
    simp at hs; omega
  · unfold joinV; rw [come_at _ a b k (by omega) (by omega)]
    by_cases hlt : a k < b k
    · rw [if_pos]
      · omega
      · obtain ⟨y, hy, rfl⟩ := mem_all8 (k := k) (by omega) (by omega)
        exact List.any_eq_true.2 ⟨_, by rw [hl]; exact lack_mem hy hlt, by simp⟩
    · rw [if_neg]
      · omega
      · intro hany
        obtain ⟨x, hm, hs⟩ := List.any_eq_true.1 hany
        obtain ⟨s, s1, _, h2, rfl⟩ := mem_lackL (by rw [← hl]; exact hm : x ∈ lackL a b all8)
        simp at hs; subst hs; omega

theorem many_ge : ∀ (l : List S3) (m : Int), (∀ x ∈ l, x.f ≤ x.t) → m ≤ 4611686018427387904 → m ≤ manyS m l
  | [], m, _, _ => Int.le_refl m
  | x :: l, m, h, hm => by
    have h0 := h x (List.mem_cons_self ..)
    have := many_ge l (min (m + x.t - x.f + 1) 4611686018427387904) (fun y hy => h y (List.mem_cons_of_mem _ hy)) (by omega)
    show m ≤ manyS (min (m + x.t - x.f + 1) 4611686018427387904) l
    omega
theorem many_pos {l : List S3} (h : ∀ x ∈ l, x.f ≤ x.t) (hne : l ≠ []) : 1 ≤ manyS 0 l := by
  cases l with
  | nil => exact absurd rfl hne
  | cons x l =>
    have h0 := h x (List.mem_cons_self ..)
    have := many_ge l (min (0 + x.t - x.f + 1) 4611686018427387904) (fun y hy => h y (List.mem_cons_of_mem _ hy)) (by omega)
    show 1 ≤ manyS (min (0 + x.t - x.f + 1) 4611686018427387904) l
    omega
theorem many_few : ∀ (l : List S3) (m : Int), (∀ x ∈ l, x.f ≤ x.t) → 0 ≤ m → m ≤ 60 → manyS m l ≤ 60 → manyS m l = m + sumS l
  | [], m, _, _, _, _ => by show m = m + 0; omega
  | x :: l, m, h, h0, hm, hle => by
    have hx := h x (List.mem_cons_self ..)
    have hr : ∀ y ∈ l, y.f ≤ y.t := fun y hy => h y (List.mem_cons_of_mem _ hy)
    have hle' : manyS (min (m + x.t - x.f + 1) 4611686018427387904) l ≤ 60 := hle
    have h1 := many_ge l (min (m + x.t - x.f + 1) 4611686018427387904) hr (by omega)
    have h2 := many_few l (min (m + x.t - x.f + 1) 4611686018427387904) hr (by omega) (by omega) hle'
    show manyS (min (m + x.t - x.f + 1) 4611686018427387904) l = m + sumS (x :: l)
    have h3 : sumS (x :: l) = (x.t - x.f + 1) + sumS l := by simp [sumS]
    omega
theorem sum_take_le {l : List S3} (h : ∀ x ∈ l, x.f ≤ x.t) (k : Nat) (hk : k < l.length) : sumS (l.take k) + ((l[k]).t - (l[k]).f + 1) = sumS (l.take (k + 1)) ∧ 0 ≤ sumS (l.take k) ∧ sumS (l.take (k + 1)) ≤ sumS l := by
  have pos : ∀ P : List S3, (∀ x ∈ P, x.f ≤ x.t) → 0 ≤ sumS P := by
    intro P
    induction P with
    | nil => intro _; exact Int.le_refl 0
    | cons x P ih =>
      intro hP
      have h1 := hP x (List.mem_cons_self ..)
      have h2 := ih fun y hy => hP y (List.mem_cons_of_mem _ hy)
      have h3 : sumS (x :: P) = (x.t - x.f + 1) + sumS P := by simp [sumS]
      omega
  have app : ∀ P Q : List S3, sumS (P ++ Q) = sumS P + sumS Q := fun P Q => by simp [sumS]
  refine ⟨?_, pos _ fun x hx => h x (List.mem_of_mem_take hx), ?_⟩
  · rw [take_snoc' l k hk, app]; simp [sumS]
  · have e : sumS l = sumS (l.take (k + 1)) + sumS (l.drop (k + 1)) := by rw [← app, List.take_append_drop]
    have := pos (l.drop (k + 1)) fun x hx => h x (List.mem_of_mem_drop hx)
    omega
theorem lack_none {a b : V} (ha : a.may = true) (hb : b.may = true) : coversB a b = ((lacksL a b).length == 0) := by
  have e : lacksL a b = lackL a b all8 := by unfold lacksL; rw [if_pos (by rw [ha, hb]; rfl)]
  rw [e, Bool.eq_iff_iff, covers_iff, beq_iff_eq]
  constructor
  · rintro ⟨_, _, h⟩
    rw [List.length_eq_zero_iff]
    rw [List.eq_nil_iff_forall_not_mem]
    intro x hx
    obtain ⟨k, k1, k8, hlt, _⟩ := mem_lackL hx
    have := h k k1 k8
    omega
  · intro h
    refine ⟨ha, hb, fun k k1 k8 => ?_⟩
    rw [List.length_eq_zero_iff] at h
    obtain ⟨y, hy, rfl⟩ := mem_all8 k1 k8
    refine Int.not_lt.1 fun hlt => ?_
    have := lack_mem (L := all8) hy hlt
    rw [h] at this; cases this
theorem many_none {a b : V} (ra : a.rng) : (manyS 0 (lacksL a b) == 0) = ((lacksL a b).length == 0) := by
  have hok := lacks_ok a b ra
  rw [Bool.eq_iff_iff, beq_iff_eq, beq_iff_eq, List.length_eq_zero_iff]
  constructor
  · intro h
    refine Classical.byContradiction fun hne => ?_
    have := many_pos (fun x hx => (hok x hx).2.1) hne
    omega
  · intro h; rw [h]; rfl

/-- one id of a stretch -/
structure Step (a b : V) (s : Nat) (q : Int) (at' : V) : Prop where
  may : at'.may = true
  rng : at'.rng
  no : hasB at' ⟨9, s, q⟩ = false
  next : nextB at' ⟨9, s, q⟩ = true
  there : hasB b ⟨9, s, q⟩ = true
  withs : withR at' [⟨9, s, q⟩] = (at'.set s q, 0)
  may' : (at'.set s q).may = true
  rng' : (at'.set s q).rng
  has : hasB (at'.set s q) ⟨9, s, q⟩ = true
  covers : coversB (at'.set s q) at' = true
theorem set_may {v : V} (h : v.may = true) {s : Nat} (s1 : 1 ≤ s) {q : Int} (hq : q ≤ 4611686018427387904) : (v.set s q).may = true := by
  rw [may_spec] at *
  unfold V.set
  refine ⟨by rw [if_neg (by omega)]; exact h.1, fun k hk => ?_⟩
  split
  · exact hq
  · exact h.2 k hk
theorem set_rng {v : V} (h : v.rng) {s : Nat} {q : Int} (h0 : 0 ≤ q) (hq : q ≤ 4611686018427387904) : (v.set s q).rng := fun k hk => by
  unfold V.set
  split
  · omega
  · exact h k hk
theorem step_of {a b : V} (hb : b.may = true) {v : V} (hv : v.may = true) (rv : v.rng) {s : Nat} (s1 : 1 ≤ s) (s8 : s ≤ 8) {q : Int} (hq : v s = q - 1) (hqb : q ≤ b s) : Step a b s q v := by
  have q1 : 1 ≤ q := by have := (rv s (by omega)).1; omega
  have qm : q ≤ 4611686018427387904 := by have := may_le hb s (by omega); omega
  have hi : (⟨9, (s : Int), q⟩ : I3).may = true := by
    unfold I3.may isNum isSt
    simp; omega
  have e : ((s : Int)).toNat = s := by simp
  have hno : hasB v ⟨9, s, q⟩ = false := by
    unfold hasB
    rw [hv, hi]
    simp [hq]
    omega
  have hnx : nextB v ⟨9, s, q⟩ = true := by
    unfold nextB
    rw [hv, hi]
    simp [hq]
  have hadd : addE v ⟨9, s, q⟩ = 0 := by unfold addE; rw [hi, hno, hnx]
  have hset : v.add ⟨9, s, q⟩ = v.set s q := by
    unfold V.add
    show v.set ((s : Int)).toNat (v ((s : Int)).toNat + 1) = _
    rw [e, hq]; congr 1; omega
  have m' := set_may hv s1 qm
  refine ⟨hv, rv, hno, hnx, ?_, ?_, m', set_rng rv (by omega) qm, ?_, ?_⟩
  · unfold hasB
    rw [hb, hi]
    simp [hqb]
  · unfold withR
    rw [hv]
    unfold withS
    rw [if_pos hadd, hset]
    rfl
  · unfold hasB
    rw [m', hi]
    simp [V.set]
  · rw [covers_iff]
    refine ⟨m', hv, fun k k1 k8 => ?_⟩
    unfold V.set
    split
    · rename_i h; subst h; omega
    · exact Int.le_refl _
theorem set_set (v : V) (s : Nat) (x y : Int) : (v.set s x).set s y = v.set s y := by
  funext j; unfold V.set; split <;> rfl
end Go.Proofs.Ytjpgabpicfcapaa
