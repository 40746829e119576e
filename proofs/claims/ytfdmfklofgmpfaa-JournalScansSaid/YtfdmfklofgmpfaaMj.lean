/- records: what bytes begin with -/
import Derived.Test.YtfdmfklofgmpfaaOc
import Derived.Test.YtfdmfklofgmpfaaKj
namespace Go.Proofs.Ytfdmfklofgmpfaa
set_option linter.unusedVariables false
set_option linter.unusedSimpArgs false
open Go.RowKit

def num4 (l : List Nat) : Nat := Oct.valD (l.take 4)
def errJ (l : List Nat) : Int :=
  if l.length < 4 then 110 else if 65536 < num4 l then 3 else if l.length < num4 l + 8 then 110
  else if four (moreC 0 (l.take (num4 l + 4))) = (l.take (num4 l + 8)).drop (num4 l + 4) then 0 else 120
def heldJ (l : List Nat) : List Nat := (l.take (num4 l + 4)).drop 4
theorem err_ok {l : List Nat} (h : errJ l = 0) : 4 ≤ l.length ∧ num4 l ≤ 65536 ∧ num4 l + 8 ≤ l.length ∧ four (moreC 0 (l.take (num4 l + 4))) = (l.take (num4 l + 8)).drop (num4 l + 4) := by
  unfold errJ at h
  split at h
  · cases h
  · split at h
    · cases h
    · split at h
      · cases h
      · split at h
        · rename_i h1 h2 h3 h4; exact ⟨by omega, by omega, by omega, h4⟩
        · cases h
theorem err_of {l : List Nat} (h1 : 4 ≤ l.length) (h2 : num4 l ≤ 65536) (h3 : num4 l + 8 ≤ l.length) (h4 : four (moreC 0 (l.take (num4 l + 4))) = (l.take (num4 l + 8)).drop (num4 l + 4)) : errJ l = 0 := by
  unfold errJ; rw [if_neg (by omega), if_neg (by omega), if_neg (by omega), if_pos h4]
theorem err_s {l : List Nat} (h : l.length < 4) : errJ l = 110 := by unfold errJ; rw [if_pos h]
theorem err_l {l : List Nat} (h : 4 ≤ l.length) (h2 : 65536 < num4 l) : errJ l = 3 := by unfold errJ; rw [if_neg (by omega), if_pos h2]
theorem err_t {l : List Nat} (h : 4 ≤ l.length) (h2 : num4 l ≤ 65536) (h3 : l.length < num4 l + 8) : errJ l = 110 := by unfold errJ; rw [if_neg (by omega), if_neg (by omega), if_pos h3]
theorem err_x {l : List Nat} (h : 4 ≤ l.length) (h2 : num4 l ≤ 65536) (h3 : num4 l + 8 ≤ l.length) (h4 : ¬ four (moreC 0 (l.take (num4 l + 4))) = (l.take (num4 l + 8)).drop (num4 l + 4)) : errJ l = 120 := by
  unfold errJ; rw [if_neg (by omega), if_neg (by omega), if_neg (by omega), if_neg h4]
theorem held_len {l : List Nat} (h : errJ l = 0) : (heldJ l).length = num4 l := by
  obtain ⟨h1, h2, h3, h4⟩ := err_ok h
  unfold heldJ; rw [List.length_drop, List.length_take]; omega
theorem held_n {l : List Nat} (h : isN l) : isN (heldJ l) := fun x hx => h x (List.mem_of_mem_take (List.mem_of_mem_drop hx))
def recsF : Nat → List Nat → List (List Nat)
  | 0, _ => []
  | n + 1, l => if errJ l = 0 then heldJ l :: recsF n (l.drop (num4 l + 8)) else []
theorem recsF_eq : ∀ (n m : Nat) (l : List Nat), l.length < n → l.length < m → recsF n l = recsF m l
  | 0, _, l, h, _ => by omega
  | n + 1, 0, l, _, h => by omega
  | n + 1, m + 1, l, hn, hm => by
    rw [recsF, recsF]
    by_cases h : errJ l = 0
    · obtain ⟨h1, h2, h3, h4⟩ := err_ok h
      have e := recsF_eq n m (l.drop (num4 l + 8)) (by rw [List.length_drop]; omega) (by rw [List.length_drop]; omega)
      rw [if_pos h, if_pos h, e]
    · rw [if_neg h, if_neg h]
def recs (l : List Nat) : List (List Nat) := recsF (l.length + 1) l
theorem recs_cons {l : List Nat} (h : errJ l = 0) : recs l = heldJ l :: recs (l.drop (num4 l + 8)) := by
  obtain ⟨h1, h2, h3, h4⟩ := err_ok h
  unfold recs
  rw [recsF, if_pos h]
  rw [recsF_eq l.length ((l.drop (num4 l + 8)).length + 1) _ (by rw [List.length_drop]; omega) (by omega)]
theorem recs_nil {l : List Nat} (h : errJ l ≠ 0) : recs l = [] := by
  unfold recs; rw [recsF, if_neg h]
def offJ : List (List Nat) → Nat
  | [] => 0
  | r :: rs => r.length + 8 + offJ rs
theorem offJ_app : ∀ a b : List (List Nat), offJ (a ++ b) = offJ a + offJ b
  | [], b => by simp [offJ]
  | x :: a, b => by rw [List.cons_append, offJ, offJ, offJ_app a b]; omega
theorem off_succ {R : List (List Nat)} {k : Nat} (h : k < R.length) : offJ (R.take (k + 1)) = offJ (R.take k) + R[k].length + 8 := by
  rw [List.take_succ_eq_append_getElem h, offJ_app]
  simp [offJ]; omega
theorem recs_at : ∀ (n : Nat) (l : List Nat) (k : Nat), l.length < n → ∀ hk : k < (recs l).length, errJ (l.drop (offJ ((recs l).take k))) = 0 ∧ heldJ (l.drop (offJ ((recs l).take k))) = (recs l)[k] ∧ num4 (l.drop (offJ ((recs l).take k))) = (recs l)[k].length
  | 0, l, k, h, _ => by omega
  | n + 1, l, k, h, hk => by
    by_cases e : errJ l = 0
    · have hr := recs_cons e
      obtain ⟨h1, h2, h3, h4⟩ := err_ok e
      cases k with
      | zero =>
        have q : (recs l)[0] = heldJ l := by simp [hr]
        refine ⟨by simpa [offJ] using e, by rw [q]; simp [offJ], by rw [q, held_len e]; simp [offJ]⟩
      | succ k =>
        have hk2 : k < (recs (l.drop (num4 l + 8))).length := by rw [hr] at hk; simpa using hk
        have ih := recs_at n (l.drop (num4 l + 8)) k (by rw [List.length_drop]; omega) hk2
        have q : (recs l)[k + 1] = (recs (l.drop (num4 l + 8)))[k] := by simp [hr]
        have q2 : l.drop (offJ ((recs l).take (k + 1))) = (l.drop (num4 l + 8)).drop (offJ ((recs (l.drop (num4 l + 8))).take k)) := by
          rw [hr, List.take_succ_cons, offJ, held_len e, List.drop_drop]
        rw [q, q2]
        exact ih
    · rw [recs_nil e] at hk; simp at hk
theorem recs_end : ∀ (n : Nat) (l : List Nat), l.length < n → errJ (l.drop (offJ (recs l))) ≠ 0 ∧ offJ (recs l) ≤ l.length
  | 0, l, h => by omega
  | n + 1, l, h => by
    by_cases e : errJ l = 0
    · obtain ⟨h1, h2, h3, h4⟩ := err_ok e
      have ih := recs_end n (l.drop (num4 l + 8)) (by rw [List.length_drop]; omega)
      rw [recs_cons e, offJ, held_len e, ← List.drop_drop]
      rw [List.length_drop] at ih
      exact ⟨ih.1, by omega⟩
    · rw [recs_nil e]; exact ⟨by simpa [offJ] using e, Nat.zero_le _⟩
def restJ (l : List Nat) (k : Nat) : List Nat := l.drop (offJ ((recs l).take k))
theorem rest_zero (l : List Nat) : restJ l 0 = l := rfl
theorem rest_at {l : List Nat} {k : Nat} (h : k < (recs l).length) : errJ (restJ l k) = 0 ∧ heldJ (restJ l k) = (recs l)[k] ∧ num4 (restJ l k) = (recs l)[k].length := recs_at (l.length + 1) l k (by omega) h
theorem rest_succ {l : List Nat} {k : Nat} (h : k < (recs l).length) : (restJ l k).drop ((recs l)[k].length + 8) = restJ l (k + 1) := by
  unfold restJ; rw [List.drop_drop, off_succ h]; congr 1
theorem rest_end (l : List Nat) : errJ (restJ l (recs l).length) ≠ 0 ∧ offJ (recs l) ≤ l.length := by
  have := recs_end (l.length + 1) l (by omega)
  unfold restJ; rw [List.take_length]; exact this
theorem off_le (l : List Nat) (k : Nat) : offJ ((recs l).take k) ≤ l.length := by
  have h := (rest_end l).2
  have e : offJ (recs l) = offJ ((recs l).take k) + offJ ((recs l).drop k) := by rw [← offJ_app, List.take_append_drop]
  omega
theorem recs_n {l : List Nat} (h : isN l) : ∀ r ∈ recs l, isN r := fun r hr => by
  obtain ⟨k, hk, rfl⟩ := List.getElem_of_mem hr
  rw [← (rest_at hk).2.1]
  exact held_n fun x hx => h x (List.mem_of_mem_drop hx)
theorem recs_le (l : List Nat) : ∀ r ∈ recs l, r.length ≤ 65536 := fun r hr => by
  obtain ⟨k, hk, rfl⟩ := List.getElem_of_mem hr
  rw [← (rest_at hk).2.2]
  exact (err_ok (rest_at hk).1).2.1
theorem off_ge (R : List (List Nat)) : 8 * R.length ≤ offJ R := by
  induction R with
  | nil => simp
  | cons r R ih => rw [List.length_cons, offJ]; omega
def recJ (r : List Nat) : List Nat := sealC (Oct.digs r.length 4 ++ r)
theorem recJ_len (r : List Nat) : (recJ r).length = r.length + 8 := by
  unfold recJ; rw [sealC_len, List.length_append, Oct.digs_len]; omega
theorem recJ_n {r : List Nat} (h : isN r) : isN (recJ r) := seal_lt fun x hx => (List.mem_append.1 hx).elim (fun hx => Oct.digs_lt _ _ x hx) (h x)
theorem num4_app {r : List Nat} (t : List Nat) (h : r.length ≤ 65536) : num4 (recJ r ++ t) = r.length := by
  have e : (recJ r ++ t).take 4 = Oct.digs r.length 4 := by
    unfold recJ sealC
    rw [List.append_assoc, List.append_assoc]
    have := List.take_left (l₁ := Oct.digs r.length 4) (l₂ := r ++ (four (moreC 0 (Oct.digs r.length 4 ++ r)) ++ t))
    rw [Oct.digs_len] at this
    exact this
  unfold num4
  rw [e, Oct.valD_digs]
  exact Nat.mod_eq_of_lt (by omega)
theorem rec_first {r : List Nat} (t : List Nat) (h : r.length ≤ 65536) : errJ (recJ r ++ t) = 0 ∧ heldJ (recJ r ++ t) = r := by
  have hn := num4_app t h
  have hl := recJ_len r
  have hb : (Oct.digs r.length 4 ++ r).length = r.length + 4 := by rw [List.length_append, Oct.digs_len]; omega
  have e8 : (recJ r ++ t).take (r.length + 8) = recJ r := by rw [← hl, List.take_left]
  have e4 : (recJ r ++ t).take (r.length + 4) = Oct.digs r.length 4 ++ r := by
    rw [List.take_append_of_le_length (by omega)]
    have := List.take_left (l₁ := Oct.digs r.length 4 ++ r) (l₂ := four (moreC 0 (Oct.digs r.length 4 ++ r)))
    rw [hb] at this
    exact this
  refine ⟨err_of (by rw [List.length_append]; omega) (by omega) (by rw [List.length_append]; omega) ?_, ?_⟩
  · rw [hn, e4, e8]
    have := List.drop_left (l₁ := Oct.digs r.length 4 ++ r) (l₂ := four (moreC 0 (Oct.digs r.length 4 ++ r)))
    rw [hb] at this
    exact this.symm
  · unfold heldJ
    rw [hn, e4]
    have := List.drop_left (l₁ := Oct.digs r.length 4) (l₂ := r)
    rw [Oct.digs_len] at this
    exact this
theorem recs_rec {r : List Nat} (t : List Nat) (h : r.length ≤ 65536) : recs (recJ r ++ t) = r :: recs t := by
  obtain ⟨h1, h2⟩ := rec_first t h
  rw [recs_cons h1, h2, num4_app t h, ← recJ_len r, List.drop_left]
def joinJ (rows : List (List Nat)) : List Nat := (rows.map recJ).flatten
theorem joinJ_cons (r : List Nat) (rows : List (List Nat)) : joinJ (r :: rows) = recJ r ++ joinJ rows := rfl
theorem joinJ_len : ∀ rows : List (List Nat), (joinJ rows).length = offJ rows
  | [] => rfl
  | r :: rows => by rw [joinJ_cons, List.length_append, recJ_len, offJ, joinJ_len rows]
theorem joinJ_app (a b : List (List Nat)) : joinJ (a ++ b) = joinJ a ++ joinJ b := by unfold joinJ; rw [List.map_append, List.flatten_append]
theorem joinJ_n {rows : List (List Nat)} (h : ∀ r ∈ rows, isN r) : isN (joinJ rows) := fun x hx => by
  obtain ⟨p, hp, hx⟩ := List.mem_flatten.1 hx
  obtain ⟨r, hr, rfl⟩ := List.mem_map.1 hp
  exact recJ_n (h r hr) x hx
theorem recs_app : ∀ {rows : List (List Nat)} (t : List Nat), (∀ r ∈ rows, r.length ≤ 65536) → recs (joinJ rows ++ t) = rows ++ recs t
  | [], t, _ => rfl
  | r :: rows, t, h => by
    rw [joinJ_cons, List.append_assoc, recs_rec _ (h r (by simp)), recs_app t fun x hx => h x (by simp [hx])]
    rfl
theorem recs_join {rows : List (List Nat)} (h : ∀ r ∈ rows, r.length ≤ 65536) : recs (joinJ rows) = rows := by
  have := recs_app [] h
  rw [List.append_nil] at this
  rw [this, recs_nil (by rw [err_s (by simp)]; decide), List.append_nil]
def whole : List (List Nat) → Nat → Nat
  | [], _ => 0
  | r :: rows, c => if r.length + 8 ≤ c then whole rows (c - (r.length + 8)) + 1 else 0
theorem err_torn {r : List Nat} (t : List Nat) {c : Nat} (h : r.length ≤ 65536) (hc : c < r.length + 8) : errJ ((recJ r ++ t).take c) = 110 := by
  have hl : ((recJ r ++ t).take c).length = c := by rw [List.length_take, List.length_append, recJ_len]; omega
  by_cases h4 : c < 4
  · exact err_s (by omega)
  · have hn : num4 ((recJ r ++ t).take c) = r.length := by
      have := num4_app t h
      unfold num4 at this ⊢
      rw [List.take_take, Nat.min_eq_left (by omega)]
      exact this
    exact err_t (by omega) (by omega) (by omega)
theorem torn : ∀ {rows : List (List Nat)} {c : Nat}, (∀ r ∈ rows, r.length ≤ 65536) → c ≤ (joinJ rows).length →
    whole rows c ≤ rows.length ∧ recs ((joinJ rows).take c) = rows.take (whole rows c) ∧ offJ (rows.take (whole rows c)) ≤ c ∧ (offJ (rows.take (whole rows c)) ≠ c → errJ (((joinJ rows).take c).drop (offJ (rows.take (whole rows c)))) = 110)
  | [], c, _, hc => by
    have : c = 0 := by simpa [joinJ] using hc
    subst this
    refine ⟨Nat.le_refl _, by rw [List.take_zero, recs_nil (by rw [err_s (by simp)]; decide)]; rfl, Nat.le_refl _, fun h => absurd rfl h⟩
  | r :: rows, c, h, hc => by
    have hr := h r (by simp)
    unfold whole
    split
    · rename_i h1
      have e : (joinJ (r :: rows)).take c = recJ r ++ (joinJ rows).take (c - (r.length + 8)) := by
        rw [joinJ_cons, List.take_append, recJ_len, List.take_of_length_le (by rw [recJ_len]; exact h1)]
      have hc2 : c - (r.length + 8) ≤ (joinJ rows).length := by rw [joinJ_cons, List.length_append, recJ_len] at hc; omega
      obtain ⟨a1, a2, a3, a4⟩ := torn (rows := rows) (fun x hx => h x (by simp [hx])) hc2
      rw [List.take_succ_cons, offJ, e, recs_rec _ hr, a2]
      refine ⟨by simpa using a1, rfl, by omega, fun hne => ?_⟩
      have ed : (recJ r ++ (joinJ rows).take (c - (r.length + 8))).drop (r.length + 8) = (joinJ rows).take (c - (r.length + 8)) := by rw [← recJ_len r, List.drop_left]
      rw [← List.drop_drop, ed]
      exact a4 (by omega)
    · rename_i h1
      have ee : errJ ((joinJ (r :: rows)).take c) = 110 := by rw [joinJ_cons]; exact err_torn _ hr (by omega)
      refine ⟨Nat.zero_le _, by rw [recs_nil (by rw [ee]; decide)]; rfl, Nat.zero_le _, fun _ => by rw [List.take_zero, offJ, List.drop_zero]; exact ee⟩
theorem spoilt_err {r t : List Nat} {mask bit : Nat} (hr : isN r) (h : r.length ≤ 65536) (hb : bit < 8 * (recJ r).length) (hm : mask < 2 ^ 32) (h0 : ¬ ∀ k, k < (recJ r).length → ((mask <<< bit) >>> (8 * k)) % 256 = 0) (h4 : (spl (mask <<< bit) (recJ r)).take 4 = (recJ r).take 4) :
    errJ (spl (mask <<< bit) (recJ r) ++ t) ≠ 0 := by
  have hl : (spl (mask <<< bit) (recJ r)).length = r.length + 8 := by rw [spl_len, recJ_len]
  have hn : num4 (spl (mask <<< bit) (recJ r) ++ t) = r.length := by
    have := num4_app t h
    unfold num4 at this ⊢
    rw [List.take_append_of_le_length (by omega), h4]
    rw [List.take_append_of_le_length (by rw [recJ_len]; omega)] at this
    exact this
  rw [err_x (by rw [List.length_append]; omega) (by omega) (by rw [List.length_append]; omega)]
  · decide
  · rw [hn, List.take_append_of_le_length (by omega), List.take_append_of_le_length (by omega)]
    have hbn := burst_no (l := Oct.digs r.length 4 ++ r) (mask := mask) (bit := bit) (fun x hx => (List.mem_append.1 hx).elim (fun hx => Oct.digs_lt _ _ x hx) (hr x)) hb hm h0
    rw [show spl (mask <<< bit) (sealC (Oct.digs r.length 4 ++ r)) = spl (mask <<< bit) (recJ r) from rfl, hl] at hbn
    rw [List.take_of_length_le (i := r.length + 8) (by omega)]
    exact hbn

end Go.Proofs.Ytfdmfklofgmpfaa
