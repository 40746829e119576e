/- runs of equals, and their bytes; a tile told; a tile as bytes; a reader: the bytes that stand next; a tile that is read; a tile that is read, whole; tiles and sizes that are read; tiles that are read, one behind the other; tiles that are read, all; canvases that are read; canvases as bytes; canvases and patches, whole; A variable that holds one value with an address, then numbers, then another value with an address: its numbers told as one list; wakes; octet: readers; Numbers, ids, colours, as bytes; Ids, places, colours, stamps, as bytes; Operations, as bytes, kind by kind; Operations, as bytes; Rows of operations, and vectors, as bytes; What the laws of codes ask; Vectors, as bytes. No condition. -/
import Derived.Test.YtofklkbfkoliiaaGreatV4
import Derived.Test.YtofklkbfkoliiaaGreatRows
set_option maxRecDepth 4000
set_option maxHeartbeats 1000000
open List renaming getElem?_eq_some_iff → qbq, getElem?_eq_getElem → qbr, length_append → qbz, cons_append → qbD, nil_append → qbF, replicate → qbH, getElem?_append_left → qbI, flatMap_cons → qbJ, length_replicate → qbN, getElem?_append_right → qbO, take_succ_eq_append_getElem → qbP, length_take → qbS, take_of_length_le → qbT, eq_nil_of_length_eq_zero → qbU, getD_eq_getElem?_getD → qbV, length_cons → qbW, append_assoc → qbY, length_drop → qbZ, mem_cons_self → qb1, getElem?_eq_none → qb2, mem_cons_of_mem → qb4, mem_of_getElem? → qb7, getElem_mem → qb9, length_nil → qce, take_length → qch, append_nil → qci
open Nat renaming zero_add → qbs, reduceAdd → qbt, le_of_ble_eq_true → qbA, le_trans → qbK, le_refl → qbM, lt_of_succ_le → qb0, zero_le → qb3, mul_le_mul_right → qb6, succ_mul → qcg
open Bool renaming and_eq_true → qbu, or_eq_false_iff → qbv, not_eq_true' → qbx, not_eq_false' → qby, or_eq_true → qbE
open Option.some renaming inj → qbw
open Go.IntWalk renaming i64_in → qbB
open Int renaming not_lt → qbQ, not_le → qbR, toNat_natCast → qcb
namespace Go.Proofs.YtofklkbfkoliiaaGreat
set_option linter.unusedVariables false
set_option linter.unusedSimpArgs false
open Go.RowKit
def kP : List C4 → List (Nat × C4)
 | [] => []
 | c :: l => match kP l with
  | [] => [(1, c)]
  | (n, d) :: r => if c = d then (n + 1, d) :: r else (1, c) :: (n, d) :: r
def kZ (rs : List (Nat × C4)) : List C4 := rs.flatMap fun r => qbH r.1 r.2
def vT : List (Nat × C4) → Prop
 | [] => True
 | [r] => 1 ≤ r.1
 | r :: q :: rs => 1 ≤ r.1 ∧ r.2 ≠ q.2 ∧ vT (q :: rs)
theorem vK {r : Nat × C4} {rs : List (Nat × C4)} (h : vT (r :: rs)) : vT rs := by
 cases rs with
 | nil => trivial
 | cons q rs => exact h.2.2
theorem gH : ∀ {rs : List (Nat × C4)}, vT rs → ∀ r ∈ rs, 1 ≤ r.1
 | [], _, r, hr => by simp at hr
 | [a], h, r, hr => by obtain rfl := List.mem_singleton.1 hr; exact h
 | a :: b :: rs, h, r, hr => by
  rcases List.mem_cons.1 hr with rfl | hr
  ·exact h.1
  ·exact gH h.2.2 r hr
theorem jP : ∀ l : List C4, kZ (kP l) = l
 | [] => rfl
 | c :: l => by
  have ih := jP l
  rw [kP]
  cases hr : kP l with
  | nil =>
   rw [hr] at ih
   simp only [kZ, List.flatMap_nil] at ih
   subst ih
   rfl
  | cons a r =>
   obtain ⟨n, d⟩ := a
   rw [hr] at ih
   simp only
   split
   ·rename_i e
    subst e
    rw [← ih]
    simp only [kZ, qbJ, List.replicate_succ, qbD]
   ·rw [← ih]
    simp only [kZ, qbJ, List.replicate_succ, List.replicate_zero, qbD, qbF]
theorem yL : ∀ l : List C4, vT (kP l)
 | [] => trivial
 | c :: l => by
  have ih := yL l
  rw [kP]
  cases hr : kP l with
  | nil => exact qbM 1
  | cons a r =>
   obtain ⟨n, d⟩ := a
   rw [hr] at ih
   simp only
   split
   ·cases r with
    | nil => exact Nat.le_add_left 1 n
    | cons b r => exact ⟨Nat.le_add_left 1 n, ih.2.1, ih.2.2⟩
   ·rename_i e
    exact ⟨qbM 1, e, ih⟩
theorem G2 (c : C4) (rs : List (Nat × C4)) : ∀ n : Nat, vT ((n + 1, c) :: rs) → kP (kZ rs) = rs → kP (qbH (n + 1) c ++ kZ rs) = (n + 1, c) :: rs
 | 0, h, hr => by
  rw [List.replicate_succ, List.replicate_zero, qbD, qbF, kP, hr]
  cases rs with
  | nil => rfl
  | cons q rs =>
   obtain ⟨m, d⟩ := q
   simp only
   rw [if_neg h.2.1]
 | n + 1, h, hr => by
  have hg : vT ((n + 1, c) :: rs) := by
   cases rs with
   | nil => exact Nat.le_add_left 1 n
   | cons q rs => exact ⟨Nat.le_add_left 1 n, h.2.1, h.2.2⟩
  rw [List.replicate_succ, qbD, kP, G2 c rs n hg hr]
  exact if_pos rfl
theorem K3 : ∀ rs : List (Nat × C4), vT rs → kP (kZ rs) = rs
 | [], _ => rfl
 | (n, c) :: rs, h => by
  have hr := K3 rs (vK h)
  have hn : 1 ≤ n := gH h (n, c) (qb1 ..)
  obtain ⟨m, rfl⟩ : ∃ m, n = m + 1 := ⟨n - 1, by omega⟩
  have e : kZ ((m + 1, c) :: rs) = qbH (m + 1) c ++ kZ rs := by unfold kZ; rw [qbJ]
  rw [e]
  exact G2 c rs m h hr
def G3 (r : Nat × C4) : List Int := [(r.1 : Int), r.2.r, r.2.g, r.2.b, r.2.a]
def ji (rs : List (Nat × C4)) : List Int := rs.flatMap G3
theorem zW (rs : List (Nat × C4)) : (ji rs).length = rs.length * 5 := by
 induction rs with
 | nil => rfl
 | cons r rs ih =>
  unfold ji at *
  rw [qbJ, qbz, ih, qbW]
  show 5 + rs.length * 5 = _
  omega
def yo (acc : List C4) (n : Int) (c : C4) : Bool := decide (1 ≤ n) && decide (n ≤ 64 - (acc.length : Int)) && !decide (acc.getLast? = some c)
def rdG : Nat → List C4 → List Int → Option (List C4 × List Int)
 | 0, _, _ => none
 | f + 1, acc, n :: r :: g :: b :: a :: rest => if yo acc n ⟨r, g, b, a⟩ = true then (if acc.length + n.toNat = 64 then some (acc ++ qbH n.toNat ⟨r, g, b, a⟩, rest) else rdG f (acc ++ qbH n.toNat ⟨r, g, b, a⟩) rest) else none
 | _ + 1, _, _ => none
theorem Q6 : ∀ (f : Nat) (acc : List C4) (b : List Int) (l : List C4) (rest : List Int), rdG f acc b = some (l, rest) → acc.length < 64 →
  ∃ rs : List (Nat × C4), rs ≠ [] ∧ l = acc ++ kZ rs ∧ b = ji rs ++ rest ∧ vT rs ∧ l.length = 64 ∧ ∀ r ∈ rs.head?, acc.getLast? ≠ some r.2
 | 0, acc, b, l, rest, h, _ => by cases h
 | f + 1, acc, [], l, rest, h, _ => by cases h
 | f + 1, acc, [_], l, rest, h, _ => by cases h
 | f + 1, acc, [_, _], l, rest, h, _ => by cases h
 | f + 1, acc, [_, _, _], l, rest, h, _ => by cases h
 | f + 1, acc, [_, _, _, _], l, rest, h, _ => by cases h
 | f + 1, acc, n :: r :: g :: b :: a :: bs, l, rest, h, hl => by
  rw [rdG] at h
  by_cases hm : yo acc n ⟨r, g, b, a⟩ = true
  ·rw [if_pos hm] at h
   unfold yo at hm
   simp only [qbu, decide_eq_true_eq, qbx, decide_eq_false_iff_not] at hm
   obtain ⟨⟨h1, h2⟩, h3⟩ := hm
   obtain ⟨m, hm⟩ : ∃ m : Nat, n = (m : Int) := ⟨n.toNat, by omega⟩
   subst hm
   rw [qcb] at h
   have he : G3 (m, ⟨r, g, b, a⟩) = [(m : Int), r, g, b, a] := rfl
   by_cases h64 : acc.length + m = 64
   ·rw [if_pos h64] at h
    obtain ⟨e1, e2⟩ := Prod.mk.inj (qbw h)
    subst e1 e2
    refine ⟨[(m, ⟨r, g, b, a⟩)], by simp, by simp [kZ], rfl, by show 1 ≤ m; omega, by rw [qbz, qbN]; exact h64, fun q hq => ?_⟩
    obtain rfl := qbw hq
    exact h3
   ·rw [if_neg h64] at h
    obtain ⟨rs, g0, g1, g2, g3, g4, g5⟩ := Q6 f _ bs l rest h (by rw [qbz, qbN]; omega)
    refine ⟨(m, ⟨r, g, b, a⟩) :: rs, by simp, ?_, ?_, ?_, g4, fun q hq => ?_⟩
    ·rw [g1, qbY]; simp [kZ]
    ·rw [g2]; rfl
    ·cases rs with
     | nil => exact absurd rfl g0
     | cons q rs =>
      refine ⟨by show 1 ≤ m; omega, fun e => ?_, g3⟩
      refine g5 q rfl ?_
      rw [List.getLast?_append, List.getLast?_replicate, if_neg (by omega)]
      simp only [Option.some_or]
      exact congrArg some e
    ·obtain rfl := qbw hq
     exact h3
  ·rw [if_neg hm] at h; cases h
theorem G4 : ∀ (rs : List (Nat × C4)) (f : Nat) (acc : List C4) (rest : List Int), rs ≠ [] → vT rs → (acc ++ kZ rs).length = 64 → (∀ r ∈ rs.head?, acc.getLast? ≠ some r.2) → rs.length ≤ f → rdG f acc (ji rs ++ rest) = some (acc ++ kZ rs, rest)
 | [], _, _, _, h, _, _, _, _ => absurd rfl h
 | (m, c) :: rs, 0, _, _, _, _, _, _, h => by simp at h
 | (m, c) :: rs, f + 1, acc, rest, _, hg, hl, hh, hf => by
  have h1 : 1 ≤ m := gH hg (m, c) (qb1 ..)
  have efl : kZ ((m, c) :: rs) = qbH m c ++ kZ rs := by unfold kZ; rw [qbJ]
  have eb : ji ((m, c) :: rs) ++ rest = (m : Int) :: c.r :: c.g :: c.b :: c.a :: (ji rs ++ rest) := by unfold ji; rw [qbJ]; rfl
  rw [efl, qbz, qbz, qbN] at hl
  rw [eb, rdG, efl]
  have hm : yo acc (m : Int) ⟨c.r, c.g, c.b, c.a⟩ = true := by
   unfold yo
   simp only [qbu, decide_eq_true_eq, qbx, decide_eq_false_iff_not]
   exact ⟨⟨by omega, by omega⟩, hh _ rfl⟩
  rw [if_pos hm, qcb]
  cases rs with
  | nil =>
   have e0 : (kZ ([] : List (Nat × C4))).length = 0 := rfl
   rw [if_pos (by omega)]
   simp [kZ, ji]
  | cons q rs =>
   have hq : 1 ≤ q.1 := gH (vK hg) q (qb1 ..)
   have e0 : (kZ (q :: rs)).length = q.1 + (kZ rs).length := by unfold kZ; rw [qbJ, qbz, qbN]
   rw [if_neg (by omega), ← qbY]
   refine G4 (q :: rs) f (acc ++ qbH m c) rest (by simp) (vK hg) (by rw [qbz, qbz, qbN]; omega) (fun r hr => ?_) (by simpa using hf)
   obtain rfl := qbw hr
   rw [List.getLast?_append, List.getLast?_replicate, if_neg (by omega)]
   simp only [Option.some_or]
   exact fun e => hg.2.1 (qbw e)
theorem uW : ∀ l : List C4, (kP l).length ≤ l.length
 | [] => qbM 0
 | c :: l => by
  have ih := uW l
  rw [kP]
  cases hr : kP l with
  | nil => exact Nat.le_add_left 1 _
  | cons a r =>
   obtain ⟨n, d⟩ := a
   rw [hr] at ih
   simp only
   split
   ·rw [qbW] at ih ⊢; rw [qbW]; omega
   ·rw [qbW] at ih ⊢; rw [qbW, qbW]; omega
theorem uX {f : Nat} (hf : 64 ≤ f) {b : List Int} {l : List C4} {rest : List Int} : rdG f [] b = some (l, rest) ↔ l.length = 64 ∧ b = ji (kP l) ++ rest := by
 constructor
 ·intro h
  obtain ⟨rs, _, h1, h2, h3, h4, _⟩ := Q6 f [] b l rest h (by decide)
  rw [qbF] at h1
  have e : kP l = rs := by rw [h1]; exact K3 rs h3
  exact ⟨h4, by rw [e]; exact h2⟩
 ·rintro ⟨h1, h2⟩
  have hl := uW l
  have hne : kP l ≠ [] := fun e => by
   have := jP l
   rw [e] at this
   rw [← this] at h1
   exact absurd h1 (by decide)
  have := G4 (kP l) f [] rest hne (yL l) (by rw [qbF, jP]; exact h1) (fun r _ => by simp) (by omega)
  rw [qbF, jP] at this
  rw [h2]
  exact this
def gI (t : TL) : List Int := ji (kP t.l)
def rdT (b : List Int) : Option (TL × List Int) := match h : rdG 64 [] b with
 | some x => some (⟨x.1, ((uX (qbM 64)).1 (h.trans (by rfl) : rdG 64 [] b = some (x.1, x.2))).1⟩, x.2)
 | none => none
theorem rdT_iff {b : List Int} {t : TL} {rest : List Int} : rdT b = some (t, rest) ↔ b = gI t ++ rest := by
 unfold rdT gI
 constructor
 ·intro h
  split at h
  ·rename_i x hx
   have hx : rdG 64 [] b = some (x.1, x.2) := hx
   obtain ⟨e1, e2⟩ := Prod.mk.inj (qbw h)
   subst e1 e2
   exact ((uX (qbM 64)).1 hx).2
  ·cases h
 ·intro h
  have hx : rdG 64 [] b = some (t.l, rest) := (uX (qbM 64)).2 ⟨t.h, h⟩
  split
  ·rename_i x hy
   rw [hx] at hy
   obtain rfl := qbw hy
   rfl
  ·rename_i hy
   rw [hx] at hy
   cases hy
theorem xC (t : TL) : ∃ n : Nat, 1 ≤ n ∧ ∃ bs, gI t = (n : Int) :: bs := by
 unfold gI
 have hg := yL t.l
 cases hr : kP t.l with
 | nil =>
  have := jP t.l
  rw [hr] at this
  have h := t.h
  rw [← this] at h
  exact absurd h (by decide)
 | cons r rs =>
  rw [hr] at hg
  refine ⟨r.1, gH hg r (qb1 ..), [r.2.r, r.2.g, r.2.b, r.2.a] ++ ji rs, ?_⟩
  unfold ji
  rw [qbJ]
  rfl
def qW (kn : List TL → TL) : List TL → List TL → List Int
 | _, [] => []
 | acc, t :: ts => (if t = kn acc then [0] else gI t) ++ qW kn (acc ++ [t]) ts
def Km (kn : List TL → TL) : Nat → List TL → List Int → Option (List TL × List Int)
 | 0, acc, b => some (acc, b)
 | n + 1, acc, b => if b.head? = some 0 then Km kn n (acc ++ [kn acc]) (b.drop 1) else match rdT b with
  | some x => if x.1 = kn acc then none else Km kn n (acc ++ [x.1]) x.2
  | none => none
theorem xl (kn : List TL → TL) : ∀ (ts acc : List TL) (more : List Int), Km kn ts.length acc (qW kn acc ts ++ more) = some (acc ++ ts, more)
 | [], acc, more => by rw [qci]; rfl
 | t :: ts, acc, more => by
  have ih := xl kn ts (acc ++ [t]) more
  rw [qbY] at ih
  rw [qbW, Km, qW, qbY]
  by_cases e : t = kn acc
  ·rw [if_pos e]
   have hz : (([0] : List Int) ++ (qW kn (acc ++ [t]) ts ++ more)).head? = some 0 := rfl
   rw [if_pos hz, ← e]
   exact ih
  ·rw [if_neg e]
   obtain ⟨n, hn, cs, he⟩ := xC t
   have h0 : ¬ (gI t ++ (qW kn (acc ++ [t]) ts ++ more)).head? = some (0 : Int) := by
    rw [he]
    intro h
    have := qbw (show some (n : Int) = some (0 : Int) from h)
    omega
   rw [if_neg h0, rdT_iff.2 rfl]
   simp only
   rw [if_neg e]
   exact ih
theorem zX (kn : List TL → TL) : ∀ (n : Nat) (acc : List TL) (b : List Int) (l : List TL) (rest : List Int), Km kn n acc b = some (l, rest) → ∃ ts : List TL, ts.length = n ∧ l = acc ++ ts ∧ b = qW kn acc ts ++ rest
 | 0, acc, b, l, rest, h => by
  obtain ⟨e1, e2⟩ := Prod.mk.inj (qbw h)
  subst e1 e2
  exact ⟨[], rfl, (qci _).symm, rfl⟩
 | n + 1, acc, b, l, rest, h => by
  rw [Km] at h
  split at h
  ·rename_i h0
   obtain ⟨ts, g1, g2, g3⟩ := zX kn n _ _ l rest h
   refine ⟨kn acc :: ts, by rw [qbW, g1], by rw [g2, qbY]; rfl, ?_⟩
   rw [qW, if_pos rfl, qbY, ← g3]
   cases b with
   | nil => cases h0
   | cons x bs =>
    obtain rfl := qbw h0
    rfl
  ·split at h
   ·rename_i x hx
    split at h
    ·cases h
    ·rename_i hne
     obtain ⟨ts, g1, g2, g3⟩ := zX kn n _ _ l rest h
     refine ⟨x.1 :: ts, by rw [qbW, g1], by rw [g2, qbY]; rfl, ?_⟩
     rw [qW, if_neg hne, qbY, ← g3]
     exact rdT_iff.1 (show rdT b = some (x.1, x.2) from hx)
   ·cases h
theorem rdTs_iff {kn : List TL → TL} {n : Nat} {acc l : List TL} {b rest : List Int} : Km kn n acc b = some (l, rest) ↔ ∃ ts : List TL, ts.length = n ∧ l = acc ++ ts ∧ b = qW kn acc ts ++ rest := by
 constructor
 ·exact zX kn n acc b l rest
 ·rintro ⟨ts, rfl, rfl, rfl⟩
  exact xl kn ts acc rest
def kz (acc : List TL) : TL := acc.getLastD zT
def kK (w h : Int) (ts : List TL) : List Int := w :: h :: qW kz [] ts
def yp (rs : List (Nat × C4)) (i : Nat) : Nat := (kZ (rs.take i)).length
theorem K4 (a b : List (Nat × C4)) : kZ (a ++ b) = kZ a ++ kZ b := by unfold kZ; rw [List.flatMap_append]
theorem Wc (r : Nat × C4) : kZ [r] = qbH r.1 r.2 := by simp [kZ]
theorem Wd (rs : List (Nat × C4)) : yp rs 0 = 0 := rfl
theorem G5 {rs : List (Nat × C4)} {i : Nat} (hi : i < rs.length) : yp rs (i + 1) = yp rs i + rs[i].1 := by
 unfold yp
 rw [qbP hi, K4, qbz, Wc, qbN]
theorem G6 (rs : List (Nat × C4)) : yp rs rs.length = (kZ rs).length := by unfold yp; rw [qch]
theorem zY {rs : List (Nat × C4)} {i : Nat} (hi : i < rs.length) : kZ rs = kZ (rs.take i) ++ (qbH rs[i].1 rs[i].2 ++ kZ (rs.drop (i + 1))) := by
 conv => lhs; rw [← List.take_append_drop i rs, List.drop_eq_getElem_cons hi]
 rw [K4]
 congr 1
theorem Q7 {rs : List (Nat × C4)} {i : Nat} (hi : i < rs.length) : yp rs i + rs[i].1 ≤ (kZ rs).length := by
 have h1 := congrArg List.length (zY hi)
 rw [qbz, qbz, qbN] at h1
 unfold yp
 omega
theorem G7 {rs : List (Nat × C4)} {i m : Nat} (hi : i < rs.length) (hm : m < rs[i].1) : (kZ rs)[yp rs i + m]? = some rs[i].2 := by
 rw [zY hi]
 unfold yp
 rw [qbO (by omega), Nat.add_sub_cancel_left, qbI (by rw [qbN]; exact hm), List.getElem?_replicate, if_pos hm]
theorem We {rs : List (Nat × C4)} (hg : vT rs) {i : Nat} (hi : i < rs.length) : (kZ rs)[yp rs i + rs[i].1]? ≠ some rs[i].2 := by
 rw [← G5 hi]
 by_cases h : i + 1 < rs.length
 ·have hp : 1 ≤ rs[i + 1].1 := gH hg _ (qb9 h)
  have := G7 h (m := 0) (by omega)
  rw [Nat.add_zero] at this
  rw [this]
  have key : ∀ (l : List (Nat × C4)) (hl : vT l) (j : Nat) (hj : j + 1 < l.length), l[j].2 ≠ l[j + 1].2 := by
   intro l
   induction l with
   | nil => intro _ j hj; simp at hj
   | cons a l ih =>
    intro hl j hj
    cases j with
    | zero =>
     cases l with
     | nil => simp at hj
     | cons b l => exact hl.2.1
    | succ j => exact ih (vK hl) j (by simpa using hj)
  exact fun e => key rs hg i h (qbw e).symm
 ·have e : i + 1 = rs.length := by omega
  rw [e, G6, qb2 (qbM _)]
  exact fun h => by cases h
theorem UY (t : TL) : yp (kP t.l) (kP t.l).length = 64 := by rw [G6, jP, t.h]
theorem Q8 {t : TL} {i : Nat} (hi : i < (kP t.l).length) : 1 ≤ (kP t.l)[i].1 ∧ yp (kP t.l) i + (kP t.l)[i].1 ≤ 64 := by
 refine ⟨gH (yL t.l) _ (qb9 hi), ?_⟩
 have := Q7 hi
 rw [jP, t.h] at this
 exact this
theorem Q9 {t : TL} {i m : Nat} (hi : i < (kP t.l).length) (hm : m < (kP t.l)[i].1) : t.get (yp (kP t.l) i + m) = (kP t.l)[i].2 := by
 have := G7 hi hm
 rw [jP] at this
 unfold TL.get
 rw [qbV, this]
 rfl
theorem UZ {t : TL} {i : Nat} (hi : i < (kP t.l).length) (h64 : yp (kP t.l) i + (kP t.l)[i].1 < 64) : t.get (yp (kP t.l) i + (kP t.l)[i].1) ≠ (kP t.l)[i].2 := by
 have := We (yL t.l) hi
 rw [jP] at this
 unfold TL.get
 rw [qbV, qbr (by rw [t.h]; exact h64)]
 rw [qbr (by rw [t.h]; exact h64)] at this
 exact fun e => this (congrArg some e)
theorem Qb : ji [] = [] := rfl
def Wf (acc : List C4) : List C4 := acc ++ qbH (64 - acc.length) zC4
def jn (acc : List C4) : TL := if h : acc.length ≤ 64 then ⟨Wf acc, by unfold Wf; rw [qbz, qbN]; omega⟩ else zT
theorem zZ {acc : List C4} (h : acc.length ≤ 64) : (jn acc).l = Wf acc := by unfold jn; rw [dif_pos h]
theorem G8 : jn [] = zT := TL.ext (by rw [zZ (by decide)]; rfl)
theorem U0 {acc : List C4} {c : C4} (h : acc.length < 64) : (jn acc).set acc.length c = jn (acc ++ [c]) := TL.ext (by
 show ((jn acc).l).set acc.length c = _
 rw [zZ (by omega), zZ (by simp; omega)]
 unfold Wf
 rw [List.set_append_right _ _ (qbM _), Nat.sub_self, qbz, show 64 - acc.length = (64 - (acc.length + [c].length)) + 1 by simp; omega, List.replicate_succ, zaf, qbY]
 rfl)
theorem G9 {acc : List C4} {c : C4} {k : Nat} (h : acc.length + k < 64) : (jn (acc ++ qbH k c)).set (acc.length + k) c = jn (acc ++ qbH (k + 1) c) := by
 have hl : (acc ++ qbH k c).length = acc.length + k := by simp
 have := U0 (acc := acc ++ qbH k c) (c := c) (by omega)
 rw [hl] at this
 rw [this, qbY, List.replicate_succ']
theorem U1 {acc : List C4} {c : C4} (h0 : 0 < acc.length) (h : acc.length ≤ 64) : (jn acc).get (acc.length - 1) = c ↔ acc.getLast? = some c := by
 unfold TL.get
 rw [zZ h]
 unfold Wf
 rw [qbV, qbI (by omega), List.getLast?_eq_getElem?, qbr (by omega)]
 simp
theorem Wg {l : List C4} (h : l.length = 64) : jn l = ⟨l, h⟩ := TL.ext (by rw [zZ (by omega)]; unfold Wf; rw [h]; simp)
def bAt (B : List Int) (p : Nat) : Int := B.getD p 0
theorem qaC {B : List Int} {p : Nat} (h : p < B.length) : bAt B p = B[p] := by unfold bAt; rw [qbV, qbr h]; rfl
theorem wp {B : List Int} (hB : isB B) (p : Nat) : 0 ≤ bAt B p ∧ bAt B p ≤ 255 := by
 unfold bAt
 rw [qbV]
 cases h : B[p]? with
 | none => decide
 | some z => exact hB z (qb7 h)
def kM (B : List Int) (p : Nat) : Int × C4 := (bAt B p, ⟨bAt B (p + 1), bAt B (p + 2), bAt B (p + 3), bAt B (p + 4)⟩)
theorem jr {B : List Int} {p : Nat} (h : p < B.length) : B.drop p = bAt B p :: B.drop (p + 1) := by
 rw [List.drop_eq_getElem_cons h, qaC h]
theorem mayG_iff {acc : List C4} {n : Int} {c : C4} : yo acc n c = true ↔ (1 ≤ n ∧ n ≤ 64 - (acc.length : Int)) ∧ acc.getLast? ≠ some c := by
 unfold yo
 simp [and_assoc]
def rdP (B : List Int) : Nat → List C4 → Nat → Option (List C4 × Nat)
 | 0, _, _ => none
 | f + 1, acc, p => if p + 5 ≤ B.length then (if yo acc (kM B p).1 (kM B p).2 = true then (if acc.length + (kM B p).1.toNat = 64 then some (acc ++ qbH (kM B p).1.toNat (kM B p).2, p + 5) else rdP B f (acc ++ qbH (kM B p).1.toNat (kM B p).2) (p + 5)) else none) else none
theorem Wh {f : Nat} {acc : List C4} : ∀ {b : List Int}, b.length < 5 → rdG (f + 1) acc b = none
 | [], _ => rfl
 | [_], _ => rfl
 | [_, _], _ => rfl
 | [_, _, _], _ => rfl
 | [_, _, _, _], _ => rfl
 | _ :: _ :: _ :: _ :: _ :: _, h => by simp at h; omega
theorem U2 (B : List Int) : ∀ (f : Nat) (acc : List C4) (p : Nat), p ≤ B.length → rdG f acc (B.drop p) = (rdP B f acc p).map fun x => (x.1, B.drop x.2)
 | 0, _, _, _ => rfl
 | f + 1, acc, p, h => by
  rw [rdP]
  by_cases h5 : p + 5 ≤ B.length
  ·rw [if_pos h5, jr (by omega), jr (p := p + 1) (by omega), jr (p := p + 1 + 1) (by omega), jr (p := p + 1 + 1 + 1) (by omega), jr (p := p + 1 + 1 + 1 + 1) (by omega), rdG]
   show (if yo acc (kM B p).1 (kM B p).2 = true then (if acc.length + (kM B p).1.toNat = 64 then some (acc ++ qbH (kM B p).1.toNat (kM B p).2, B.drop (p + 5)) else rdG f (acc ++ qbH (kM B p).1.toNat (kM B p).2) (B.drop (p + 5))) else none) = _
   by_cases hm : yo acc (kM B p).1 (kM B p).2 = true
   ·rw [if_pos hm, if_pos hm]
    by_cases h6 : acc.length + (kM B p).1.toNat = 64
    ·rw [if_pos h6, if_pos h6]; rfl
    ·rw [if_neg h6, if_neg h6]; exact U2 B f _ (p + 5) h5
   ·rw [if_neg hm, if_neg hm]; rfl
  ·rw [if_neg h5, Wh (by rw [qbZ]; omega)]; rfl
theorem Ya {B : List Int} {f : Nat} {acc l : List C4} {p q : Nat} (h : rdP B f acc p = some (l, q)) : p + 5 ≤ B.length ∧ yo acc (kM B p).1 (kM B p).2 = true ∧
  (acc.length + (kM B p).1.toNat = 64 → l = acc ++ qbH (kM B p).1.toNat (kM B p).2 ∧ q = p + 5) ∧ (acc.length + (kM B p).1.toNat ≠ 64 → rdP B (f - 1) (acc ++ qbH (kM B p).1.toNat (kM B p).2) (p + 5) = some (l, q)) := by
 cases f with
 | zero => cases h
 | succ f =>
  rw [rdP] at h
  split at h
  ·rename_i h5
   split at h
   ·rename_i hm
    split at h
    ·rename_i h6
     cases h
     exact ⟨h5, hm, fun _ => ⟨rfl, rfl⟩, fun h => absurd h6 h⟩
    ·rename_i h6
     exact ⟨h5, hm, fun h => absurd h h6, fun _ => h⟩
   ·cases h
  ·cases h
theorem U3 {B : List Int} {f : Nat} {acc : List C4} {p : Nat} (hf : 64 ≤ f + acc.length) (ha : acc.length < 64) (h : rdP B f acc p = none) (h5 : p + 5 ≤ B.length) (hm : yo acc (kM B p).1 (kM B p).2 = true) :
  acc.length + (kM B p).1.toNat < 64 ∧ 64 ≤ f - 1 + (acc.length + (kM B p).1.toNat) ∧ rdP B (f - 1) (acc ++ qbH (kM B p).1.toNat (kM B p).2) (p + 5) = none := by
 cases f with
 | zero => omega
 | succ f =>
  rw [rdP, if_pos h5, if_pos hm] at h
  have h1 := (mayG_iff.1 hm).1
  split at h
  ·cases h
  ·rename_i h6
   exact ⟨by omega, by omega, h⟩
theorem Qc {B : List Int} : ∀ {f : Nat} {acc l : List C4} {p q : Nat}, rdP B f acc p = some (l, q) → q ≤ B.length ∧ p ≤ q ∧ l.length = 64
 | 0, _, _, _, _, h => by cases h
 | f + 1, acc, l, p, q, h => by
  obtain ⟨h5, hm, h1, h2⟩ := Ya h
  by_cases h6 : acc.length + (kM B p).1.toNat = 64
  ·obtain ⟨rfl, rfl⟩ := h1 h6
   exact ⟨h5, by omega, by rw [qbz, qbN]; exact h6⟩
  ·obtain ⟨g1, g2, g3⟩ := Qc (h2 h6)
   exact ⟨g1, by omega, g3⟩
def rdN (B : List Int) (p : Nat) : Option (List C4 × Nat) := rdP B 64 [] p
theorem rdN_T {B : List Int} {p : Nat} (h : p ≤ B.length) : rdT (B.drop p) = (rdN B p).map fun x => (jn x.1, B.drop x.2) := by
 have e := U2 B 64 [] p h
 unfold rdN
 cases hp : rdP B 64 [] p with
 | none =>
  rw [hp] at e
  cases ht : rdT (B.drop p) with
  | none => rfl
  | some x =>
   obtain ⟨t, rest⟩ := x
   have hb := rdT_iff.1 ht
   have := (uX (qbM 64)).2 ⟨t.h, hb⟩
   rw [this] at e
   cases e
 | some x =>
  obtain ⟨l, q⟩ := x
  rw [hp] at e
  obtain ⟨_, _, hl⟩ := Qc hp
  obtain ⟨_, hb⟩ := (uX (qbM 64)).1 e
  have : rdT (B.drop p) = some (⟨l, hl⟩, B.drop q) := rdT_iff.2 hb
  rw [this]
  show _ = some (jn l, B.drop q)
  rw [Wg hl]
theorem Qd {acc : List C4} {n : Int} {c : C4} (ha : acc.length < 64) : ((decide (n < 1) || decide (64 - (acc.length : Int) < n)) || (decide ((0 : Int) < (acc.length : Int)) && decide ((jn acc).get (acc.length - 1) = c))) = !(yo acc n c) := by
 rw [Bool.eq_iff_iff, qbx, ← Bool.not_eq_true, mayG_iff]
 simp only [qbE, qbu, decide_eq_true_eq]
 by_cases h0 : 0 < acc.length
 ·rw [U1 h0 (by omega)]
  constructor
  ·rintro ((h | h) | ⟨_, h⟩) ⟨g1, g2⟩
   ·omega
   ·omega
   ·exact g2 h
  ·intro h
   by_cases g : 1 ≤ n ∧ n ≤ 64 - (acc.length : Int)
   ·refine .inr ⟨by omega, Classical.byContradiction fun e => h ⟨g, e⟩⟩
   ·exact .inl (by omega)
 ·have e : acc = [] := qbU (by omega)
  subst e
  constructor
  ·rintro ((h | h) | ⟨h, _⟩) ⟨g1, _⟩
   ·omega
   ·omega
   ·simp at h
  ·intro h
   refine .inl ?_
   by_cases g : 1 ≤ n ∧ n ≤ 64 - (([] : List C4).length : Int)
   ·exact absurd ⟨g, by simp⟩ h
   ·omega
end Go.Proofs.YtofklkbfkoliiaaGreat
namespace Go.Proofs.YtofklkbfkoliiaaGreat
set_option linter.unusedVariables false
set_option linter.unusedSimpArgs false
open Go.RowKit
attribute [local irreducible] kP ji yp
theorem ZU (t : TL) : DFun Tryz.prog 127 [.loc 0 0] [.flat 84 (tc t)] (.fn (.func 135) [] [.loc 1 0]) [.flat 84 (tc t), .mix 194 [.loc 0 0]] := by
 refine zap (N := 4) 1 (by kernel_rfl) Tryz.func127 rfl rfl rfl (by simp only [fr0, qbs, qbt]; exact rfl) rfl fun s0 hs0 => ?_
 refine zae ?_
 refine zao 1 ?_
 refine zac ?_
 refine zak rfl (gL 1 rfl (ev1 rfl) (fun s v h => by cases h <;> rfl) rfl) ?_
 refine zaa 1 rfl ?_
 refine zab ?_
 refine zah ?_
 refine za rfl (qV rfl en (ec (ev1 rfl) en)) ?_
 refine zaa 1 rfl ?_
 refine zab ?_
 refine qa ?_
 refine ko [0, 1] (rs1 rfl (qL rfl)) rfl rfl ?_ ⟨rfl, rfl, trivial⟩
 rfl
abbrev U4 (l : List Int) : Mem := .arr 5 1 l.length (l.flatMap uc8)
def fmB (k : Nat) (l : List Int) : List Mem := qbH k .gone ++ [U4 l]
theorem U5 (k : Nat) (l : List Int) : (fmB k l)[k]? = some (U4 l) := by
 unfold fmB
 rw [qbO (by simp)]
 simp
theorem ZV (k : Nat) (l : List Int) : (fmB k l).length = k + 1 := by simp [fmB]
theorem ZW (k : Nat) (l b : List Int) (n : Nat) (L : List Value) (hn : n = l.length + b.length) (hL : L = l.flatMap uc8 ++ b.flatMap uc8) : (fmB k l).set k .gone ++ [Mem.arr 5 1 n L] = fmB (k + 1) (l ++ b) := by
 subst hn hL
 unfold fmB
 rw [List.set_append_right _ _ (by simp), qbN, Nat.sub_self, List.replicate_succ']
 simp [U4, List.flatMap_append]
abbrev runV (r : Nat × C4) : List Value := .int .i64 (r.1 : Int) :: c4 r.2
theorem Yb {rs : List (Nat × C4)} {i : Nat} (hi : i < rs.length) : ji (rs.take (i + 1)) = ji (rs.take i) ++ G3 rs[i] := by
 unfold ji
 rw [qbP hi, List.flatMap_append]
 simp
noncomputable def trnA : Code := rfA (pth [1, 1, 0, 1, 0] (wj Tryz.f111))
noncomputable def trnB : Code := rfB (pth [1, 1, 0, 1, 0] (wj Tryz.f111))
theorem qaD (r : Nat × C4) (hr : 1 ≤ r.1 ∧ r.1 ≤ 64) (k : Nat) (l : List Int) (hl : l.length ≤ 5000) : DRound Tryz.prog 0 [.val (.agg (runV r).toArray)] [.lp none 26 [(3, .loc 1 0)] #[6] trnA trnB .ready none, .mix 30 [.farr 2 (k)], .fam (fmB (k) (l))] true [.lp none 26 [(3, .loc 1 0)] #[6] trnA trnB .ready none, .mix 30 [.farr 2 (k + 1)], .fam (fmB (k + 1) (l ++ G3 r))] := by
 refine yJ 3 rfl rfl (by simp) rfl rfl fun s0 hs0 => ?_
 refine zao 1 ?_
 refine zac ?_
 refine zak rfl (zaq 3 rfl wY rfl) ?_
 refine zas rfl (qY rfl KY (ev1 rfl) (ev1 rfl) rfl rfl rfl rfl) ?_
 refine zab ?_
 refine ⟨rfl, ?_⟩
 simp only [zaf, zag]
 refine zat ?_
 refine zao 2 ?_
 refine zac ?_
 refine za rfl (zan rfl kD (ev1 rfl) rfl rfl) ?_
 refine za rfl (zam rfl gQ (ev1 rfl)) ?_
 refine za rfl (qB rfl tb3 (ev1 rfl) rfl rfl) ?_
 refine za rfl (gb ty3 kn5 rfl (ev1 rfl) (fun _ => IntWalk.u8_in _ (by omega))) ?_
 refine za rfl (zam rfl yj (ev1 rfl)) ?_
 refine za rfl (zam rfl qar (ev1 rfl)) ?_
 refine za rfl (qB rfl tb5 (ev1 rfl) rfl rfl) ?_
 refine za rfl (zam rfl yj (ev1 rfl)) ?_
 refine za rfl (zam rfl qas (ev1 rfl)) ?_
 refine za rfl (qB rfl tb5 (ev1 rfl) rfl rfl) ?_
 refine za rfl (zam rfl yj (ev1 rfl)) ?_
 refine za rfl (zam rfl qat (ev1 rfl)) ?_
 refine za rfl (qB rfl tb5 (ev1 rfl) rfl rfl) ?_
 refine za rfl (zam rfl yj (ev1 rfl)) ?_
 refine za rfl (zam rfl qau (ev1 rfl)) ?_
 refine za rfl (qB rfl tb5 (ev1 rfl) rfl rfl) ?_
 refine za rfl (xv (ps := [(0, .tmp 10), (1, .tmp 13), (2, .tmp 16), (3, .tmp 19), (4, .tmp 22)]) rfl qG zr5 rfl (vc (ev1 rfl) (vc (ev1 rfl) (vc (ev1 rfl) (vc (ev1 rfl) (vc (ev1 rfl) vn))))) rfl (by decide) (by decide)) ?_
 refine zak rfl (QU (j1 := 4) (j2 := 5) rfl rfl qG zr5 rfl (ev1 rfl) (ev1 rfl) rfl (U5 k l) rfl rfl rfl (fun _ => rfl) (fun _ => ⟨by omega, by omega⟩)) ?_
 refine zas rfl (kJ rfl kD (ev1 rfl) (ev1 rfl) (fun s v h => by cases h <;> exact ⟨rfl, rfl⟩) rfl (by first | decide | exact qbA rfl | simp)) ?_
 refine zab ?_
 refine ⟨by first | rfl | assumption | simp_all, rfl, [0, 1, 2], rfl, ⟨rfl, by rw [ZV]; rfl, congrArg (fun B => some (Blk.fam B)) (ZW k l (G3 r) _ _ rfl rfl), trivial⟩⟩
theorem Qe (t : TL) : DFun Tryz.prog 135 [.yld 0, .loc 4 0] [.lp none 26 [(3, .loc 1 0)] #[6] trnA trnB .ready none, .mix 30 [.farr 2 (0)], .fam (fmB (0) ([])), .flat 84 (tc t), .mix 194 [.loc 3 0]] (.tup []) [.lp none 26 [(3, .loc 1 0)] #[6] trnA trnB .ready none, .mix 30 [.farr 2 ((kP t.l).length)], .fam (fmB ((kP t.l).length) (gI t)), .flat 84 (tc t), .mix 194 [.loc 3 0]] := by
 refine zap (N := 35) 5 (by kernel_rfl) Tryz.func135 rfl rfl rfl (by simp only [fr0, qbs, qbt]; exact rfl) rfl fun s0 hs0 => ?_
 refine zah ?_
 refine zaa 1 rfl ?_
 refine zab ?_
 refine zat ?_
 refine qI ⟨hs0, rfl⟩ (α := Nat) (fun i => [(3, .val (.int .i64 (yp (kP t.l) i : Int)))]) [(0, _), (1, _)] (fun i => [(1, .mix 30 [.farr 2 (i)]), (2, .fam (fmB (i) (ji ((kP t.l).take i))))]) [_, .hole, .hole, _, _] (fun i => i ≤ (kP t.l).length) (fun i => (kP t.l).length - i) 0 [0, 1, 2, 3, 4] (qb3 _) rfl ⟨rfl, rfl, trivial⟩ ⟨by rw [Wd]; rfl, trivial⟩ ⟨rfl, rfl, by rw [List.take_zero, Qb]; rfl, rfl, rfl, trivial⟩ ?_
 intro i hx
 simp only [upd, zaf, zag, qbD, qbF]
 have hi0 := hx
 have hbl : (ji ((kP t.l).take i)).length ≤ 5000 := by
  have h1 := uW t.l
  have h2 := t.h
  rw [zW, qbS]; omega
 refine zae ?_
 refine zah ?_
 refine zaa 1 rfl ?_
 refine za rfl (qv rfl (ev1 rfl) (ev1 rfl)) ?_
 refine zab ?_
 refine qh rfl (fun c1 => ?_) (fun c1 => ?_)
 ·try simp only [decide_eq_true_eq, decide_eq_false_iff_not, beq_iff_eq, bne_iff_ne, beq_eq_false_iff_ne, bne_eq_false_iff_eq, qbx, qby, qbu, qbE, qbv, ne_eq, Decidable.not_not, qbQ, qbR] at c1
  have hi : i < (kP t.l).length := by
   rcases Nat.lt_or_ge i (kP t.l).length with h | h
   ·exact h
   ·obtain rfl : i = (kP t.l).length := by omega
    rw [UY] at c1
    omega
  obtain ⟨hn1, hn2⟩ := Q8 hi
  refine zar ?_
  refine zat ?_
  refine zae ?_
  refine zao 1 ?_
  refine zac ?_
  refine za rfl (zan rfl An (ev1 rfl) rfl rfl) ?_
  refine zaa 1 rfl ?_
  refine za rfl (qt rfl (ev1 rfl) (fun s v h => by cases h; exact ⟨_, rfl⟩)) ?_
  refine za rfl (yC (j := yp (kP t.l) i) rfl Kk (ev1 rfl) (ev1 rfl) (fun _ => by omega) (fun _ => by omega)) ?_
  refine za rfl (uM (zC4) rfl vJ (ev1 rfl) rfl (fun _ => rfl) (fun _ => by rw [TL.h]; omega)) ?_
  refine za rfl (je (ps := [(1, .tmp 11)]) rfl GX wY (vc (ev1 rfl) vn) rfl rfl) ?_
  refine zak rfl (zaq 5 rfl wY rfl) ?_
  refine zas rfl (qY rfl KY (ev1 rfl) (ev1 rfl) rfl rfl rfl rfl) ?_
  refine zab ?_
  refine zae ?_
  refine zat ?_
  refine qI ⟨hs0, rfl⟩ (α := Nat) (fun m => [(3, .val (.int .i64 ((yp (kP t.l) i + m : Nat) : Int)))]) [(0, _), (1, _), (4, _)] (fun m => [(5, .flat 196 (runV (m, (kP t.l)[i].2)))]) [_, _, _, _, _, .hole] (fun m => m ≤ (kP t.l)[i].1) (fun m => (kP t.l)[i].1 - m) 0 [0, 1, 2, 3, 4, 5] (qb3 _) rfl ⟨rfl, rfl, rfl, trivial⟩ ⟨rfl, trivial⟩ ⟨rfl, rfl, rfl, rfl, rfl, by rw [← Q9 hi (m := 0) (by omega)]; rfl, trivial⟩ ?_
  intro m hx
  simp only [upd, zaf, zag, qbD, qbF]
  have hm0 := hx
  refine zae ?_
  refine zae ?_
  refine qg [([], []), ([], []), ([], []), ([4], []), ([], []), ([], []), ([], []), ([3], []), ([], []), ([5], []), ([], []), ([], [])] qP (by kernel_rfl) ?_
  refine zad rfl rfl (zal (.inl rfl) (ev1 rfl)) ?_
  refine zad rfl rfl (qv rfl (ev1 rfl) (ev1 rfl)) ?_
  refine zad rfl rfl (zal (.inl rfl) (ev1 rfl)) ?_
  refine qj (qn rfl rfl rfl) rfl rfl (zan rfl An (ev1 rfl) rfl rfl) ?_
  refine qj (qn rfl rfl rfl) rfl rfl (zal (.inl rfl) (ev1 rfl)) ?_
  refine qj (qn rfl rfl rfl) rfl rfl (qt rfl (ev2 rfl) (fun s v h => by cases h; exact ⟨_, rfl⟩)) ?_
  refine qj (qn rfl rfl rfl) rfl rfl (yC (j := yp (kP t.l) i + m) rfl Kk (ev2 rfl) (ev2 rfl) (fun hp => by first | omega | (simp at hp; omega)) (fun hp => by first | omega | (simp at hp; omega))) ?_
  refine qj (qn rfl rfl rfl) rfl rfl (uM (zC4) rfl vJ (ev2 rfl) rfl (fun _ => rfl) (fun hp => by rw [TL.h]; simp at hp; omega)) ?_
  refine qj (qn rfl rfl rfl) rfl rfl (zam rfl yj (ev1 rfl)) ?_
  refine qj (qn rfl rfl rfl) rfl rfl (v8 rfl vJ (ev2 rfl) rfl rfl rfl) ?_
  refine qj (qn rfl rfl rfl) rfl rfl (vE eq82 rfl gd82 vJ (ev2 rfl) (ev2 rfl)) ?_
  refine zad rfl rfl (qC rfl (ev1 rfl) (ev3 rfl id)) ?_
  refine qk ?_
  refine qh rfl (fun c3 => ?_) (fun c3 => ?_)
  ·have hmlt : m < (kP t.l)[i].1 := by
    rcases Nat.lt_or_ge m (kP t.l)[i].1 with h | h
    ·exact h
    ·obtain rfl : m = (kP t.l)[i].1 := by omega
     simp at c3
     exact absurd c3.2 (UZ hi (by omega))
   refine zar ?_
   refine zat ?_
   refine zah ?_
   refine za rfl (zam rfl gQ (ev1 rfl)) ?_
   refine za rfl (qB rfl tb3 (ev1 rfl) rfl rfl) ?_
   refine za rfl (ql rfl (ev1 rfl) (ev1 rfl) (fun _ => qbB _ (by omega))) ?_
   refine za rfl (zam rfl gQ (ev1 rfl)) ?_
   refine zas rfl (YM rfl tb3 (ev1 rfl) (ev1 rfl) rfl (qbA rfl) rfl) ?_
   refine zab ?_
   refine zac ?_
   refine zaa 1 rfl ?_
   refine za rfl (ql rfl (ev1 rfl) (ev1 rfl) (fun _ => qbB _ (by omega))) ?_
   refine zaa 1 rfl ?_
   refine zab ?_
   refine ⟨m + 1, [0, 1, 2, 3, 4, 5], by omega, by simp only []; omega, rfl, ⟨rfl, rfl, rfl, rfl, trivial⟩, ⟨rfl, rfl, rfl, rfl, rfl, rfl, trivial⟩⟩
  ·have hmge : ¬ m < (kP t.l)[i].1 := fun h => by
    have h2 := Q9 hi h
    simp at c3
    exact c3 (by omega) h2
   refine qD ?_
   refine zah ?_
   refine zaa 1 rfl ?_
   refine za rfl (kT rfl KY (ev1 rfl) rfl rfl) ?_
   refine zak rfl (GD (i := 0) [0, 1, 2] [] [] rfl (ev1 rfl) (ec (ev1 rfl) en) rfl rfl rfl (qaD (m, (kP t.l)[i].2) ⟨by omega, by omega⟩ i _ hbl) rfl rfl rfl rfl rfl) ?_
   refine za rfl (kv rfl (ev1 rfl)) ?_
   refine zab ?_
   refine qc rfl (rfl) ?_
   refine zar ?_
   have hmn : m = (kP t.l)[i].1 := by omega
   refine ⟨i + 1, [0, 1, 2, 3, 4], by omega, by simp only []; omega, rfl, ⟨by rw [G5 hi, hmn]; rfl, rfl, rfl, trivial⟩, ⟨rfl, rfl, by rw [Yb hi, show G3 (kP t.l)[i] = G3 (m, (kP t.l)[i].2) by rw [hmn]]; rfl, rfl, rfl, trivial⟩⟩
 ·try simp only [decide_eq_true_eq, decide_eq_false_iff_not, beq_iff_eq, bne_iff_ne, beq_eq_false_iff_ne, bne_eq_false_iff_eq, qbx, qby, qbu, qbE, qbv, ne_eq, Decidable.not_not, qbQ, qbR] at c1
  have hie : i = (kP t.l).length := by
   rcases Nat.lt_or_ge i (kP t.l).length with h | h
   ·have := Q8 h
    omega
   ·omega
  refine qD ?_
  subst hie
  refine ko [0, 1, 2, 3, 4] (qH rfl) rfl rfl ?_ ⟨?_, ?_, ?_, ?_, ?_, trivial⟩
  rfl
  all_goals first | exact rfl | exact (by rw [qch]; rfl)
end Go.Proofs.YtofklkbfkoliiaaGreat
namespace Go.Proofs.YtofklkbfkoliiaaGreat
set_option linter.unusedVariables false
set_option linter.unusedSimpArgs false
open Go.RowKit
attribute [local irreducible] kP ji yp gI
theorem ZX (t : TL) : DFun Tryz.prog 111 [tD t] [] (.slf 1 (gI t).length ((gI t).flatMap uc8)) [] := by
 refine zap (N := 26) 0 (by kernel_rfl) Tryz.func111 rfl rfl rfl (by simp only [fr0, qbs, qbt]; exact rfl) rfl fun s0 hs0 => ?_
 refine zae ?_
 refine zao 1 ?_
 refine zac ?_
 refine zak rfl (gK 0 rfl (ev1 rfl) rfl) ?_
 refine zaa 1 rfl ?_
 refine zab ?_
 refine zae ?_
 refine zao 1 ?_
 refine zac ?_
 refine zak rfl (zaq 1 rfl uU rfl) ?_
 refine zab ?_
 refine zae ?_
 refine zae ?_
 refine zao 1 ?_
 refine zac ?_
 refine zak rfl (zaj [0] [] [2] rfl (ev1 rfl) (ec (ev1 rfl) en) rfl rfl (ZU t) rfl rfl rfl rfl rfl rfl) ?_
 refine zab ?_
 refine zat ?_
 refine zD 1 5 1 rfl (by simp only [qbD, qbF, zaf, zag, qbW, qce, qbs, qbt]; exact rfl) ?_
 refine ym ?_
 refine JK 4 rfl (by simp only [qbD, qbF, zaf, zag]; exact rfl) ?_
 refine GT 1 0 4 rfl rfl rfl rfl (by simp only [qbD, qbF, zaf, zag]; exact rfl) ?_
 refine ym ?_
 simp only [qbD, qbF]
 refine YR (FL := [(3, _)]) (st := .ready) (pe := none) [5, 1, 4, 0, 2] [] [] 5 rfl rfl (ev1 rfl) rfl (wJ ⟨rfl, trivial⟩) rfl rfl rfl (Qe t) rfl rfl rfl rfl rfl rfl rfl (by simp) (fun e => ?_) (fun c e => ?_)
 ·simp only [upd, zaf, zag]
  refine zah ?_
  refine za rfl (zan rfl kD (ev1 rfl) rfl rfl) ?_
  refine zaa 1 rfl ?_
  refine zab ?_
  refine ym ?_
  refine ZJ 2 4 (j := 6) rfl rfl (U5 _ _) rfl (by simp only [qbD, qbF, zaf, zag]; exact rfl) ?_
  refine VX 2 rfl rfl (by simp only [qbD, qbF, zaf, zag]; exact rfl) ?_
  refine qa ?_
  refine qx (rs1 rfl (qL rfl)) rfl ?_
  rfl
 ·cases e
end Go.Proofs.YtofklkbfkoliiaaGreat
namespace Go.Proofs.YtofklkbfkoliiaaGreat
set_option linter.unusedVariables false
set_option linter.unusedSimpArgs false
open Go.RowKit
abbrev Wi (B : List Int) (p : Nat) : List Int := [bAt B p, bAt B (p + 1)]
abbrev yV (B : List Int) (p : Nat) : List Int := [bAt B p, bAt B (p + 1), bAt B (p + 2), bAt B (p + 3), bAt B (p + 4)]
theorem Wj {B : List Int} {p : Nat} (h : p + 2 ≤ B.length) : (B.drop p).take 2 = Wi B p := by
 rw [jr (by omega), jr (p := p + 1) (by omega)]; rfl
theorem Wl {B : List Int} {p : Nat} (h : p + 5 ≤ B.length) : (B.drop p).take 5 = yV B p := by
 rw [jr (by omega), jr (p := p + 1) (by omega), jr (p := p + 1 + 1) (by omega), jr (p := p + 1 + 1 + 1) (by omega), jr (p := p + 1 + 1 + 1 + 1) (by omega)]; rfl
abbrev runI (r : Int × C4) : List Value := .int .i64 r.1 :: c4 r.2
theorem Au (B : List Int) (hB : B.length ≤ 4000000000000000000) (p : Nat) (hq : p + 2 ≤ B.length) : DFun Tryz.prog 120 [.loc 0 0, .val (.int .i64 (2 : Int))] [.mix 158 [.val (.int .i64 0), .val (.int .i64 0), .val (.slice none 0 0), .slf 1 (B).length ((B).flatMap uc8), .val (.int .i64 (p : Int))]] (.slf 1 2 ((Wi B p).flatMap uc8)) [.mix 158 [.val (.int .i64 0), .val (.int .i64 0), .val (.slice none 0 0), .slf 1 (B).length ((B).flatMap uc8), .val (.int .i64 ((p + 2 : Nat) : Int))]] := by
 refine zap (N := 38) 1 (by kernel_rfl) Tryz.func120 rfl rfl rfl (by simp only [fr0, qbs, qbt]; exact rfl) rfl fun s0 hs0 => ?_
 refine zah ?_
 refine zaa 1 rfl ?_
 refine zab ?_
 refine zae ?_
 refine qg [([], []), ([], []), ([], []), ([0], []), ([], []), ([], []), ([], []), ([0], []), ([], []), ([], []), ([], []), ([], [])] qP (by kernel_rfl) ?_
 refine zad rfl rfl (zal (.inl rfl) (ev1 rfl)) ?_
 refine zad rfl rfl (qt rfl (ev1 rfl) (fun s v h => by cases h; exact ⟨_, rfl⟩)) ?_
 refine zad rfl rfl (zam rfl jc (ev1 rfl)) ?_
 refine zad rfl rfl (zan rfl tb3 (ev1 rfl) rfl rfl) ?_
 refine zad rfl rfl (zal (.inl rfl) (ev1 rfl)) ?_
 refine zad rfl rfl (qt rfl (ev1 rfl) (fun s v h => by cases h; exact ⟨_, rfl⟩)) ?_
 refine zad rfl rfl (zam rfl jc (ev1 rfl)) ?_
 refine zad rfl rfl (zan rfl tb3 (ev1 rfl) rfl rfl) ?_
 refine zad rfl rfl (zal (.inl rfl) (ev1 rfl)) ?_
 refine zad rfl rfl (ql rfl (ev1 rfl) (ev1 rfl) (fun _ => qbB _ (by omega))) ?_
 refine zad rfl rfl (zal (.inr rfl) (ev1 rfl)) ?_
 refine zad rfl rfl (zal (.inr rfl) (ev1 rfl)) ?_
 refine qk ?_
 refine zae ?_
 refine zah ?_
 refine zaa 2 rfl ?_
 refine za rfl (qt rfl (ev1 rfl) (fun s v h => by cases h; exact ⟨_, rfl⟩)) ?_
 refine za rfl (zam rfl j9 (ev1 rfl)) ?_
 refine za rfl (zan rfl kD (ev1 rfl) rfl rfl) ?_
 refine za rfl (qE rfl qG (ev1 rfl)) ?_
 refine za rfl (kA rfl (ev1 rfl) (ev1 rfl)) ?_
 refine zab ?_
 refine qc rfl (by simp; omega) ?_
 refine zar ?_
 refine zah ?_
 refine zaa 2 rfl ?_
 refine za rfl (qt rfl (ev1 rfl) (fun s v h => by cases h; exact ⟨_, rfl⟩)) ?_
 refine za rfl (zam rfl jc (ev1 rfl)) ?_
 refine zas rfl (kJ rfl tb3 (ev1 rfl) (ev1 rfl) (fun s v h => by cases h <;> exact ⟨rfl, rfl⟩) rfl (by first | decide | exact qbA rfl | simp)) ?_
 refine zab ?_
 refine zah ?_
 refine zaa 1 rfl ?_
 refine za rfl (qt rfl (ev1 rfl) (fun s v h => by cases h; exact ⟨_, rfl⟩)) ?_
 refine za rfl (zam rfl j9 (ev1 rfl)) ?_
 refine za rfl (zan rfl kD (ev1 rfl) rfl rfl) ?_
 refine zaa 3 rfl ?_
 refine za rfl (zb (i := p) (j := p + 2) rfl qG (ev1 rfl) (ev1 rfl) (ev1 rfl) (ev1 rfl) (fun hp => by first | omega | (simp at hp; omega)) (fun hp => by first | omega | (simp at hp; omega)) (fun hp => by first | omega | (simp at hp; omega)) (fun hp => by first | omega | (simp at hp; omega)) (fun _ => rfl)) ?_
 refine zaa 1 rfl ?_
 refine zab ?_
 refine qa ?_
 refine ko [0] (rs1 rfl (qL rfl)) rfl rfl ?_ ⟨rfl, trivial⟩
 rw [show p + 2 - p = 2 by omega, Wj hq]; rfl
theorem U6 (B : List Int) (hB : B.length ≤ 4000000000000000000) (p : Nat) (hp : p ≤ B.length) (hq : ¬ p + 2 ≤ B.length) : DPanL Tryz.prog 120 [.loc 0 0, .val (.int .i64 (2 : Int))] [.mix 158 [.val (.int .i64 0), .val (.int .i64 0), .val (.slice none 0 0), .slf 1 (B).length ((B).flatMap uc8), .val (.int .i64 (p : Int))]] (.ifc 181 (.val (.agg #[]))) := by
 refine zap (N := 38) 1 (by kernel_rfl) Tryz.func120 rfl rfl rfl (by simp only [fr0, qbs, qbt]; exact rfl) rfl fun s0 hs0 => ?_
 refine zah ?_
 refine zaa 1 rfl ?_
 refine zab ?_
 refine zae ?_
 refine qg [([], []), ([], []), ([], []), ([0], []), ([], []), ([], []), ([], []), ([0], []), ([], []), ([], []), ([], []), ([], [])] qP (by kernel_rfl) ?_
 refine zad rfl rfl (zal (.inl rfl) (ev1 rfl)) ?_
 refine zad rfl rfl (qt rfl (ev1 rfl) (fun s v h => by cases h; exact ⟨_, rfl⟩)) ?_
 refine zad rfl rfl (zam rfl jc (ev1 rfl)) ?_
 refine zad rfl rfl (zan rfl tb3 (ev1 rfl) rfl rfl) ?_
 refine zad rfl rfl (zal (.inl rfl) (ev1 rfl)) ?_
 refine zad rfl rfl (qt rfl (ev1 rfl) (fun s v h => by cases h; exact ⟨_, rfl⟩)) ?_
 refine zad rfl rfl (zam rfl jc (ev1 rfl)) ?_
 refine zad rfl rfl (zan rfl tb3 (ev1 rfl) rfl rfl) ?_
 refine zad rfl rfl (zal (.inl rfl) (ev1 rfl)) ?_
 refine zad rfl rfl (ql rfl (ev1 rfl) (ev1 rfl) (fun _ => qbB _ (by omega))) ?_
 refine zad rfl rfl (zal (.inr rfl) (ev1 rfl)) ?_
 refine zad rfl rfl (zal (.inr rfl) (ev1 rfl)) ?_
 refine qk ?_
 refine zae ?_
 refine zah ?_
 refine zaa 2 rfl ?_
 refine za rfl (qt rfl (ev1 rfl) (fun s v h => by cases h; exact ⟨_, rfl⟩)) ?_
 refine za rfl (zam rfl j9 (ev1 rfl)) ?_
 refine za rfl (zan rfl kD (ev1 rfl) rfl rfl) ?_
 refine za rfl (qE rfl qG (ev1 rfl)) ?_
 refine za rfl (kA rfl (ev1 rfl) (ev1 rfl)) ?_
 refine zab ?_
 refine qJ rfl (by simp; omega) ?_
 refine zac ?_
 refine za rfl (k8 rfl GW zS) ?_
 refine za rfl (xy rfl zQ (ev1 rfl)) ?_
 refine ky rfl (wg rfl (ev1 rfl)) rfl ?_
 refine vh (Mo := [_]) [0] rfl rfl ?_ ⟨rfl, trivial⟩ rfl
 rfl
theorem U7 (B : List Int) (hB : B.length ≤ 4000000000000000000) (w h : Int) (us : List TL) (hu : us.length ≤ 5000) (p : Nat) (hq : p + 5 ≤ B.length) : DFun Tryz.prog 120 [.loc 0 0, .val (.int .i64 (5 : Int))] [.mix 158 [.val (.int .i64 w), .val (.int .i64 h), .arr 1, .slf 1 (B).length ((B).flatMap uc8), .val (.int .i64 (p : Int))], .arr 84 256 (us).length ((us).flatMap tc)] (.slf 1 5 ((yV B p).flatMap uc8)) [.mix 158 [.val (.int .i64 w), .val (.int .i64 h), .arr 1, .slf 1 (B).length ((B).flatMap uc8), .val (.int .i64 ((p + 5 : Nat) : Int))], .arr 84 256 (us).length ((us).flatMap tc)] := by
 refine zap (N := 38) 2 (by kernel_rfl) Tryz.func120 rfl rfl rfl (by simp only [fr0, qbs, qbt]; exact rfl) rfl fun s0 hs0 => ?_
 refine zah ?_
 refine zaa 1 rfl ?_
 refine zab ?_
 refine zae ?_
 refine qg [([], []), ([], []), ([], []), ([0], []), ([], []), ([], []), ([], []), ([0], []), ([], []), ([], []), ([], []), ([], [])] qP (by kernel_rfl) ?_
 refine zad rfl rfl (zal (.inl rfl) (ev1 rfl)) ?_
 refine zad rfl rfl (qt rfl (ev1 rfl) (fun s v h => by cases h; exact ⟨_, rfl⟩)) ?_
 refine zad rfl rfl (zam rfl jc (ev1 rfl)) ?_
 refine zad rfl rfl (zan rfl tb3 (ev1 rfl) rfl rfl) ?_
 refine zad rfl rfl (zal (.inl rfl) (ev1 rfl)) ?_
 refine zad rfl rfl (qt rfl (ev1 rfl) (fun s v h => by cases h; exact ⟨_, rfl⟩)) ?_
 refine zad rfl rfl (zam rfl jc (ev1 rfl)) ?_
 refine zad rfl rfl (zan rfl tb3 (ev1 rfl) rfl rfl) ?_
 refine zad rfl rfl (zal (.inl rfl) (ev1 rfl)) ?_
 refine zad rfl rfl (ql rfl (ev1 rfl) (ev1 rfl) (fun _ => qbB _ (by omega))) ?_
 refine zad rfl rfl (zal (.inr rfl) (ev1 rfl)) ?_
 refine zad rfl rfl (zal (.inr rfl) (ev1 rfl)) ?_
 refine qk ?_
 refine zae ?_
 refine zah ?_
 refine zaa 2 rfl ?_
 refine za rfl (qt rfl (ev1 rfl) (fun s v h => by cases h; exact ⟨_, rfl⟩)) ?_
 refine za rfl (zam rfl j9 (ev1 rfl)) ?_
 refine za rfl (zan rfl kD (ev1 rfl) rfl rfl) ?_
 refine za rfl (qE rfl qG (ev1 rfl)) ?_
 refine za rfl (kA rfl (ev1 rfl) (ev1 rfl)) ?_
 refine zab ?_
 refine qc rfl (by simp; omega) ?_
 refine zar ?_
 refine zah ?_
 refine zaa 2 rfl ?_
 refine za rfl (qt rfl (ev1 rfl) (fun s v h => by cases h; exact ⟨_, rfl⟩)) ?_
 refine za rfl (zam rfl jc (ev1 rfl)) ?_
 refine zas rfl (kJ rfl tb3 (ev1 rfl) (ev1 rfl) (fun s v h => by cases h <;> exact ⟨rfl, rfl⟩) rfl (by first | decide | exact qbA rfl | simp)) ?_
 refine zab ?_
 refine zah ?_
 refine zaa 1 rfl ?_
 refine za rfl (qt rfl (ev1 rfl) (fun s v h => by cases h; exact ⟨_, rfl⟩)) ?_
 refine za rfl (zam rfl j9 (ev1 rfl)) ?_
 refine za rfl (zan rfl kD (ev1 rfl) rfl rfl) ?_
 refine zaa 3 rfl ?_
 refine za rfl (zb (i := p) (j := p + 5) rfl qG (ev1 rfl) (ev1 rfl) (ev1 rfl) (ev1 rfl) (fun hp => by first | omega | (simp at hp; omega)) (fun hp => by first | omega | (simp at hp; omega)) (fun hp => by first | omega | (simp at hp; omega)) (fun hp => by first | omega | (simp at hp; omega)) (fun _ => rfl)) ?_
 refine zaa 1 rfl ?_
 refine zab ?_
 refine qa ?_
 refine ko [0, 1] (rs1 rfl (qL rfl)) rfl rfl ?_ ⟨rfl, rfl, trivial⟩
 rw [show p + 5 - p = 5 by omega, Wl hq]; rfl
theorem Wm (B : List Int) (hB : B.length ≤ 4000000000000000000) (w h : Int) (us : List TL) (hu : us.length ≤ 5000) (p : Nat) (hp : p ≤ B.length) (hq : ¬ p + 5 ≤ B.length) : DPanL Tryz.prog 120 [.loc 0 0, .val (.int .i64 (5 : Int))] [.mix 158 [.val (.int .i64 w), .val (.int .i64 h), .arr 1, .slf 1 (B).length ((B).flatMap uc8), .val (.int .i64 (p : Int))], .arr 84 256 (us).length ((us).flatMap tc)] (.ifc 181 (.val (.agg #[]))) := by
 refine zap (N := 38) 2 (by kernel_rfl) Tryz.func120 rfl rfl rfl (by simp only [fr0, qbs, qbt]; exact rfl) rfl fun s0 hs0 => ?_
 refine zah ?_
 refine zaa 1 rfl ?_
 refine zab ?_
 refine zae ?_
 refine qg [([], []), ([], []), ([], []), ([0], []), ([], []), ([], []), ([], []), ([0], []), ([], []), ([], []), ([], []), ([], [])] qP (by kernel_rfl) ?_
 refine zad rfl rfl (zal (.inl rfl) (ev1 rfl)) ?_
 refine zad rfl rfl (qt rfl (ev1 rfl) (fun s v h => by cases h; exact ⟨_, rfl⟩)) ?_
 refine zad rfl rfl (zam rfl jc (ev1 rfl)) ?_
 refine zad rfl rfl (zan rfl tb3 (ev1 rfl) rfl rfl) ?_
 refine zad rfl rfl (zal (.inl rfl) (ev1 rfl)) ?_
 refine zad rfl rfl (qt rfl (ev1 rfl) (fun s v h => by cases h; exact ⟨_, rfl⟩)) ?_
 refine zad rfl rfl (zam rfl jc (ev1 rfl)) ?_
 refine zad rfl rfl (zan rfl tb3 (ev1 rfl) rfl rfl) ?_
 refine zad rfl rfl (zal (.inl rfl) (ev1 rfl)) ?_
 refine zad rfl rfl (ql rfl (ev1 rfl) (ev1 rfl) (fun _ => qbB _ (by omega))) ?_
 refine zad rfl rfl (zal (.inr rfl) (ev1 rfl)) ?_
 refine zad rfl rfl (zal (.inr rfl) (ev1 rfl)) ?_
 refine qk ?_
 refine zae ?_
 refine zah ?_
 refine zaa 2 rfl ?_
 refine za rfl (qt rfl (ev1 rfl) (fun s v h => by cases h; exact ⟨_, rfl⟩)) ?_
 refine za rfl (zam rfl j9 (ev1 rfl)) ?_
 refine za rfl (zan rfl kD (ev1 rfl) rfl rfl) ?_
 refine za rfl (qE rfl qG (ev1 rfl)) ?_
 refine za rfl (kA rfl (ev1 rfl) (ev1 rfl)) ?_
 refine zab ?_
 refine qJ rfl (by simp; omega) ?_
 refine zac ?_
 refine za rfl (k8 rfl GW zS) ?_
 refine za rfl (xy rfl zQ (ev1 rfl)) ?_
 refine ky rfl (wg rfl (ev1 rfl)) rfl ?_
 refine vh (Mo := [_, _]) [0, 1] rfl rfl ?_ ⟨rfl, rfl, trivial⟩ rfl
 rfl
theorem Va (B : List Int) (hB : B.length ≤ 4000000000000000000) (w h : Int) (us : List TL) (hu : us.length ≤ 5000) (p : Nat) : DFun Tryz.prog 139 [.loc 0 0] [.mix 158 [.val (.int .i64 w), .val (.int .i64 h), .arr 1, .slf 1 (B).length ((B).flatMap uc8), .val (.int .i64 (p : Int))], .arr 84 256 (us).length ((us).flatMap tc)] (.fn (.func 141) [] [.loc 2 0]) [.mix 158 [.val (.int .i64 w), .val (.int .i64 h), .arr 1, .slf 1 (B).length ((B).flatMap uc8), .val (.int .i64 (p : Int))], .arr 84 256 (us).length ((us).flatMap tc), .mix 183 [.loc 0 0]] := by
 refine zap (N := 4) 2 (by kernel_rfl) Tryz.func139 rfl rfl rfl (by simp only [fr0, qbs, qbt]; exact rfl) rfl fun s0 hs0 => ?_
 refine zae ?_
 refine zao 1 ?_
 refine zac ?_
 refine zak rfl (gL 2 rfl (ev1 rfl) (fun s v h => by cases h <;> rfl) rfl) ?_
 refine zaa 1 rfl ?_
 refine zab ?_
 refine zah ?_
 refine za rfl (qV rfl en (ec (ev1 rfl) en)) ?_
 refine zaa 1 rfl ?_
 refine zab ?_
 refine qa ?_
 refine ko [0, 1, 2] (rs1 rfl (qL rfl)) rfl rfl ?_ ⟨rfl, rfl, rfl, trivial⟩
 rfl
theorem Wn : DFun Tryz.prog 97 [.val .nilIface] [] (.val (.bool false)) [] := by
 refine zap (N := 11) 0 (by kernel_rfl) Tryz.func97 rfl rfl rfl (by simp only [fr0, qbs, qbt]; exact rfl) rfl fun s0 hs0 => ?_
 refine zah ?_
 refine zaa 1 rfl ?_
 refine zab ?_
 refine zae ?_
 refine zao 1 ?_
 refine zac ?_
 refine zaa 1 rfl ?_
 refine za rfl (Jz rfl zQ zv181 (ev1 rfl)) ?_
 refine zaa 3 rfl ?_
 refine zak rfl (zaq 0 rfl zS rfl) ?_
 refine zas rfl (qY rfl Am (ev1 rfl) (ev1 rfl) rfl rfl rfl rfl) ?_
 refine zaa 1 rfl ?_
 refine zab ?_
 refine zah ?_
 refine zaa 2 rfl ?_
 refine zab ?_
 refine qa ?_
 refine qx (rs1 rfl (qL rfl)) rfl ?_
 rfl
theorem U8 : DFun Tryz.prog 97 [.ifc 181 (.val (.agg #[]))] [] (.val (.bool true)) [] := by
 refine zap (N := 11) 0 (by kernel_rfl) Tryz.func97 rfl rfl rfl (by simp only [fr0, qbs, qbt]; exact rfl) rfl fun s0 hs0 => ?_
 refine zah ?_
 refine zaa 1 rfl ?_
 refine zab ?_
 refine zae ?_
 refine zao 1 ?_
 refine zac ?_
 refine zaa 1 rfl ?_
 refine za rfl (Jy rfl zQ (ev1 rfl)) ?_
 refine zaa 3 rfl ?_
 refine zak rfl (zaq 0 rfl zS rfl) ?_
 refine zas rfl (qY rfl Am (ev1 rfl) (ev1 rfl) rfl rfl rfl rfl) ?_
 refine zaa 1 rfl ?_
 refine zab ?_
 refine zah ?_
 refine zaa 2 rfl ?_
 refine zab ?_
 refine qa ?_
 refine qx (rs1 rfl (qL rfl)) rfl ?_
 rfl
end Go.Proofs.YtofklkbfkoliiaaGreat
namespace Go.Proofs.YtofklkbfkoliiaaGreat
set_option linter.unusedVariables false
set_option linter.unusedSimpArgs false
open Go.RowKit
attribute [local irreducible] jn rdP rdN yo
noncomputable def Yc : Code := rfA (pth [1, 0, 1, 1, 1, 0, 1, 0] (wj Tryz.f133))
noncomputable def Yd : Code := rfB (pth [1, 0, 1, 1, 1, 0, 1, 0] (wj Tryz.f133))
theorem tr_y (acc : List C4) (n : Int) (c : C4) (ha : acc.length < 64) (hm : yo acc n c = true) (hn : acc.length + n.toNat < 64) : DRound Tryz.prog 0 [.val (.agg (runI (n, c)).toArray)] [.lp (some 133) 48 [(3, .loc 1 0), (4, .loc 2 0)] #[8] Yc Yd .ready none, .flat 84 (tc (jn acc)), .flat 3 [.int .i64 (acc.length : Int)]] true [.lp (some 133) 48 [(3, .loc 1 0), (4, .loc 2 0)] #[8] Yc Yd .ready none, .flat 84 (tc (jn (acc ++ qbH n.toNat c))), .flat 3 [.int .i64 ((acc.length + n.toNat : Nat) : Int)]] := by
 have hmg := mayG_iff.1 hm
 refine yJ 3 rfl rfl (by simp) rfl rfl fun s0 hs0 => ?_
 refine zao 1 ?_
 refine zac ?_
 refine zak rfl (zaq 3 rfl wY rfl) ?_
 refine zas rfl (qY rfl KY (ev1 rfl) (ev1 rfl) rfl rfl rfl rfl) ?_
 refine zab ?_
 refine ⟨rfl, ?_⟩
 simp only [zaf, zag]
 refine zat ?_
 refine zae ?_
 refine zae ?_
 refine qg [([], []), ([3], []), ([], []), ([], []), ([], []), ([3], []), ([2], []), ([], []), ([], []), ([], []), ([], []), ([2], []), ([], []), ([], []), ([2], []), ([], []), ([], []), ([1], []), ([], []), ([3], []), ([], []), ([], []), ([], [])] qP (by kernel_rfl) ?_
 refine zad rfl rfl (zam rfl gQ (ev1 rfl)) ?_
 refine zad rfl rfl (qB rfl tb3 (ev1 rfl) rfl rfl) ?_
 refine zad rfl rfl (qv rfl (ev1 rfl) (ev1 rfl)) ?_
 refine zad rfl rfl (zal (.inl rfl) (ev1 rfl)) ?_
 refine qj (qe rfl rfl rfl) rfl rfl (zam rfl gQ (ev1 rfl)) ?_
 refine qj (qe rfl rfl rfl) rfl rfl (qB rfl tb3 (ev2 rfl) rfl rfl) ?_
 refine qj (qe rfl rfl rfl) rfl rfl (qB rfl tb3 (ev1 rfl) rfl rfl) ?_
 refine qj (qe rfl rfl rfl) rfl rfl (jV rfl (ev1 rfl) (ev2 rfl) (fun hp => qbB _ (by first | omega | (simp at hp; omega)))) ?_
 refine qj (qe rfl rfl rfl) rfl rfl (kA rfl (ev2 rfl) (ev2 rfl)) ?_
 refine zad rfl rfl (kx rfl (ev1 rfl) (ev3 rfl id)) ?_
 refine zad rfl rfl (zal (.inl rfl) (ev1 rfl)) ?_
 refine qj (qe rfl rfl rfl) rfl rfl (qB rfl tb3 (ev1 rfl) rfl rfl) ?_
 refine qj (qe rfl rfl rfl) rfl rfl (kA rfl (ev2 rfl) (ev1 rfl)) ?_
 refine qj (qe rfl rfl rfl) rfl rfl (zal (.inl rfl) (ev2 rfl)) ?_
 refine qj (qO rfl rfl rfl) rfl rfl (qB rfl tb3 (ev1 rfl) rfl rfl) ?_
 refine qj (qO rfl rfl rfl) rfl rfl (jV rfl (ev2 rfl) (ev1 rfl) (fun hp => qbB _ (by first | omega | (simp at hp; omega)))) ?_
 refine qj (qO rfl rfl rfl) rfl rfl (yC (j := acc.length - 1) rfl Kk (ev1 rfl) (ev2 rfl) (fun hp => by first | omega | (simp at hp; omega)) (fun hp => by first | omega | (simp at hp; omega))) ?_
 refine qj (qO rfl rfl rfl) rfl rfl (uM (zC4) rfl vJ (ev2 rfl) rfl (fun _ => rfl) (fun _ => by rw [TL.h]; omega)) ?_
 refine qj (qO rfl rfl rfl) rfl rfl (zam rfl yj (ev1 rfl)) ?_
 refine qj (qO rfl rfl rfl) rfl rfl (v8 rfl vJ (ev2 rfl) rfl rfl rfl) ?_
 refine qj (qO rfl rfl rfl) rfl rfl (vE eq82 rfl gd82 vJ (ev2 rfl) (ev2 rfl)) ?_
 refine qj (qe rfl rfl rfl) rfl rfl (qC rfl (ev2 rfl) (ev2 rfl)) ?_
 refine zad rfl rfl (kx rfl (ev1 rfl) (ev3 rfl id)) ?_
 refine qk ?_
 refine qc rfl ((Qd ha).trans (by rw [hm]; rfl)) ?_
 refine zar ?_
 refine zae ?_
 refine zah ?_
 refine za rfl (zam rfl gQ (ev1 rfl)) ?_
 refine za rfl (qB rfl tb3 (ev1 rfl) rfl rfl) ?_
 refine zaa 1 rfl ?_
 refine zab ?_
 refine zat ?_
 refine qI ⟨hs0, rfl⟩ (α := Nat) (fun k => [(36, .val (.int .i64 (k : Int)))]) [(3, _), (4, _), (5, _), (35, _)] (fun k => [(1, .flat 84 (tc (jn (acc ++ qbH k c)))), (2, .flat 3 [.int .i64 ((acc.length + k : Nat) : Int)])]) [_, .hole, .hole, _] (fun k => k ≤ n.toNat) (fun k => n.toNat - k) 0 [0, 1, 2, 3] (qb3 _) rfl ⟨rfl, rfl, rfl, rfl, trivial⟩ ⟨rfl, trivial⟩ ⟨rfl, by rw [List.replicate_zero, qci]; rfl, rfl, rfl, trivial⟩ ?_
 intro k hx
 simp only [upd, zaf, zag, qbD, qbF]
 have hk0 := hx
 refine zah ?_
 refine za rfl (qv rfl (ev1 rfl) (ev1 rfl)) ?_
 refine zab ?_
 refine zae ?_
 refine qh rfl (fun c2 => ?_) (fun c2 => ?_)
 ·try simp only [decide_eq_true_eq, decide_eq_false_iff_not, beq_iff_eq, bne_iff_ne, beq_eq_false_iff_ne, bne_eq_false_iff_eq, qbx, qby, qbu, qbE, qbv, ne_eq, Decidable.not_not, qbQ, qbR] at c2
  refine zar ?_
  refine zae ?_
  refine zat ?_
  refine zah ?_
  refine za rfl (qB rfl tb3 (ev1 rfl) rfl rfl) ?_
  refine za rfl (zam rfl yj (ev1 rfl)) ?_
  refine za rfl (v8 rfl vJ (ev1 rfl) rfl rfl rfl) ?_
  refine za rfl (yC (j := acc.length + k) rfl Kk (ev1 rfl) (ev1 rfl) (fun _ => by omega) (fun _ => by omega)) ?_
  refine zas rfl (xX rfl vJ (ev1 rfl) (ev1 rfl) rfl rfl rfl (fun _ => rfl) (fun _ => by rw [TL.h]; omega)) ?_
  refine zab ?_
  refine zac ?_
  refine za rfl (qB rfl tb3 (ev1 rfl) rfl rfl) ?_
  refine za rfl (ql rfl (ev1 rfl) (ev1 rfl) (fun _ => qbB _ (by omega))) ?_
  refine zas rfl (qK rfl tb3 (ev1 rfl) (ev1 rfl) rfl) ?_
  refine zab ?_
  refine zac ?_
  refine za rfl (ql rfl (ev1 rfl) (ev1 rfl) (fun _ => qbB _ (by omega))) ?_
  refine zaa 1 rfl ?_
  refine zab ?_
  refine ⟨k + 1, [0, 1, 2, 3], by omega, by simp only []; omega, rfl, ⟨rfl, rfl, rfl, rfl, rfl, trivial⟩, ⟨rfl, by rw [UF, G9 (by omega)]; rfl, rfl, rfl, trivial⟩⟩
 ·try simp only [decide_eq_true_eq, decide_eq_false_iff_not, beq_iff_eq, bne_iff_ne, beq_eq_false_iff_ne, bne_eq_false_iff_eq, qbx, qby, qbu, qbE, qbv, ne_eq, Decidable.not_not, qbQ, qbR] at c2
  refine qD ?_
  refine zah ?_
  refine za rfl (qB rfl tb3 (ev1 rfl) rfl rfl) ?_
  refine za rfl (qm rfl (ev1 rfl) (ev1 rfl)) ?_
  refine zab ?_
  refine qc rfl (by simp; omega) ?_
  refine zar ?_
  obtain rfl : k = n.toNat := by omega
  refine ⟨by first | rfl | assumption | simp_all, rfl, [0, 1, 2], rfl, ⟨rfl, rfl, rfl, trivial⟩⟩
theorem tr_z (acc : List C4) (n : Int) (c : C4) (ha : acc.length < 64) (hm : yo acc n c = true) (hn : acc.length + n.toNat = 64) : DRound Tryz.prog 0 [.val (.agg (runI (n, c)).toArray)] [.lp (some 133) 48 [(3, .loc 1 0), (4, .loc 2 0)] #[8] Yc Yd .ready none, .flat 84 (tc (jn acc)), .flat 3 [.int .i64 (acc.length : Int)]] false [.lp (some 133) 48 [(3, .loc 1 0), (4, .loc 2 0)] #[8] Yc Yd .done (some (.exit 0)), .flat 84 (tc (jn (acc ++ qbH n.toNat c))), .flat 3 [.int .i64 ((acc.length + n.toNat : Nat) : Int)]] := by
 have hmg := mayG_iff.1 hm
 refine yJ 3 rfl rfl (by simp) rfl rfl fun s0 hs0 => ?_
 refine zao 1 ?_
 refine zac ?_
 refine zak rfl (zaq 3 rfl wY rfl) ?_
 refine zas rfl (qY rfl KY (ev1 rfl) (ev1 rfl) rfl rfl rfl rfl) ?_
 refine zab ?_
 refine ⟨rfl, ?_⟩
 simp only [zaf, zag]
 refine zat ?_
 refine zae ?_
 refine zae ?_
 refine qg [([], []), ([3], []), ([], []), ([], []), ([], []), ([3], []), ([2], []), ([], []), ([], []), ([], []), ([], []), ([2], []), ([], []), ([], []), ([2], []), ([], []), ([], []), ([1], []), ([], []), ([3], []), ([], []), ([], []), ([], [])] qP (by kernel_rfl) ?_
 refine zad rfl rfl (zam rfl gQ (ev1 rfl)) ?_
 refine zad rfl rfl (qB rfl tb3 (ev1 rfl) rfl rfl) ?_
 refine zad rfl rfl (qv rfl (ev1 rfl) (ev1 rfl)) ?_
 refine zad rfl rfl (zal (.inl rfl) (ev1 rfl)) ?_
 refine qj (qe rfl rfl rfl) rfl rfl (zam rfl gQ (ev1 rfl)) ?_
 refine qj (qe rfl rfl rfl) rfl rfl (qB rfl tb3 (ev2 rfl) rfl rfl) ?_
 refine qj (qe rfl rfl rfl) rfl rfl (qB rfl tb3 (ev1 rfl) rfl rfl) ?_
 refine qj (qe rfl rfl rfl) rfl rfl (jV rfl (ev1 rfl) (ev2 rfl) (fun hp => qbB _ (by first | omega | (simp at hp; omega)))) ?_
 refine qj (qe rfl rfl rfl) rfl rfl (kA rfl (ev2 rfl) (ev2 rfl)) ?_
 refine zad rfl rfl (kx rfl (ev1 rfl) (ev3 rfl id)) ?_
 refine zad rfl rfl (zal (.inl rfl) (ev1 rfl)) ?_
 refine qj (qe rfl rfl rfl) rfl rfl (qB rfl tb3 (ev1 rfl) rfl rfl) ?_
 refine qj (qe rfl rfl rfl) rfl rfl (kA rfl (ev2 rfl) (ev1 rfl)) ?_
 refine qj (qe rfl rfl rfl) rfl rfl (zal (.inl rfl) (ev2 rfl)) ?_
 refine qj (qO rfl rfl rfl) rfl rfl (qB rfl tb3 (ev1 rfl) rfl rfl) ?_
 refine qj (qO rfl rfl rfl) rfl rfl (jV rfl (ev2 rfl) (ev1 rfl) (fun hp => qbB _ (by first | omega | (simp at hp; omega)))) ?_
 refine qj (qO rfl rfl rfl) rfl rfl (yC (j := acc.length - 1) rfl Kk (ev1 rfl) (ev2 rfl) (fun hp => by first | omega | (simp at hp; omega)) (fun hp => by first | omega | (simp at hp; omega))) ?_
 refine qj (qO rfl rfl rfl) rfl rfl (uM (zC4) rfl vJ (ev2 rfl) rfl (fun _ => rfl) (fun _ => by rw [TL.h]; omega)) ?_
 refine qj (qO rfl rfl rfl) rfl rfl (zam rfl yj (ev1 rfl)) ?_
 refine qj (qO rfl rfl rfl) rfl rfl (v8 rfl vJ (ev2 rfl) rfl rfl rfl) ?_
 refine qj (qO rfl rfl rfl) rfl rfl (vE eq82 rfl gd82 vJ (ev2 rfl) (ev2 rfl)) ?_
 refine qj (qe rfl rfl rfl) rfl rfl (qC rfl (ev2 rfl) (ev2 rfl)) ?_
 refine zad rfl rfl (kx rfl (ev1 rfl) (ev3 rfl id)) ?_
 refine qk ?_
 refine qc rfl ((Qd ha).trans (by rw [hm]; rfl)) ?_
 refine zar ?_
 refine zae ?_
 refine zah ?_
 refine za rfl (zam rfl gQ (ev1 rfl)) ?_
 refine za rfl (qB rfl tb3 (ev1 rfl) rfl rfl) ?_
 refine zaa 1 rfl ?_
 refine zab ?_
 refine zat ?_
 refine qI ⟨hs0, rfl⟩ (α := Nat) (fun k => [(36, .val (.int .i64 (k : Int)))]) [(3, _), (4, _), (5, _), (35, _)] (fun k => [(1, .flat 84 (tc (jn (acc ++ qbH k c)))), (2, .flat 3 [.int .i64 ((acc.length + k : Nat) : Int)])]) [_, .hole, .hole, _] (fun k => k ≤ n.toNat) (fun k => n.toNat - k) 0 [0, 1, 2, 3] (qb3 _) rfl ⟨rfl, rfl, rfl, rfl, trivial⟩ ⟨rfl, trivial⟩ ⟨rfl, by rw [List.replicate_zero, qci]; rfl, rfl, rfl, trivial⟩ ?_
 intro k hx
 simp only [upd, zaf, zag, qbD, qbF]
 have hk0 := hx
 refine zah ?_
 refine za rfl (qv rfl (ev1 rfl) (ev1 rfl)) ?_
 refine zab ?_
 refine zae ?_
 refine qh rfl (fun c2 => ?_) (fun c2 => ?_)
 ·try simp only [decide_eq_true_eq, decide_eq_false_iff_not, beq_iff_eq, bne_iff_ne, beq_eq_false_iff_ne, bne_eq_false_iff_eq, qbx, qby, qbu, qbE, qbv, ne_eq, Decidable.not_not, qbQ, qbR] at c2
  refine zar ?_
  refine zae ?_
  refine zat ?_
  refine zah ?_
  refine za rfl (qB rfl tb3 (ev1 rfl) rfl rfl) ?_
  refine za rfl (zam rfl yj (ev1 rfl)) ?_
  refine za rfl (v8 rfl vJ (ev1 rfl) rfl rfl rfl) ?_
  refine za rfl (yC (j := acc.length + k) rfl Kk (ev1 rfl) (ev1 rfl) (fun _ => by omega) (fun _ => by omega)) ?_
  refine zas rfl (xX rfl vJ (ev1 rfl) (ev1 rfl) rfl rfl rfl (fun _ => rfl) (fun _ => by rw [TL.h]; omega)) ?_
  refine zab ?_
  refine zac ?_
  refine za rfl (qB rfl tb3 (ev1 rfl) rfl rfl) ?_
  refine za rfl (ql rfl (ev1 rfl) (ev1 rfl) (fun _ => qbB _ (by omega))) ?_
  refine zas rfl (qK rfl tb3 (ev1 rfl) (ev1 rfl) rfl) ?_
  refine zab ?_
  refine zac ?_
  refine za rfl (ql rfl (ev1 rfl) (ev1 rfl) (fun _ => qbB _ (by omega))) ?_
  refine zaa 1 rfl ?_
  refine zab ?_
  refine ⟨k + 1, [0, 1, 2, 3], by omega, by simp only []; omega, rfl, ⟨rfl, rfl, rfl, rfl, rfl, trivial⟩, ⟨rfl, by rw [UF, G9 (by omega)]; rfl, rfl, rfl, trivial⟩⟩
 ·try simp only [decide_eq_true_eq, decide_eq_false_iff_not, beq_iff_eq, bne_iff_ne, beq_eq_false_iff_ne, bne_eq_false_iff_eq, qbx, qby, qbu, qbE, qbv, ne_eq, Decidable.not_not, qbQ, qbR] at c2
  refine qD ?_
  refine zah ?_
  refine za rfl (qB rfl tb3 (ev1 rfl) rfl rfl) ?_
  refine za rfl (qm rfl (ev1 rfl) (ev1 rfl)) ?_
  refine zab ?_
  refine qJ rfl (by simp; omega) ?_
  refine qD ?_
  obtain rfl : k = n.toNat := by omega
  refine ⟨by first | rfl | assumption | simp_all, rfl, [0, 1, 2], rfl, ⟨rfl, rfl, rfl, trivial⟩⟩
theorem tr_p (acc : List C4) (n : Int) (c : C4) (ha : acc.length < 64) (hm : yo acc n c = false) : DRoundP Tryz.prog 0 [.val (.agg (runI (n, c)).toArray)] [.lp (some 133) 48 [(3, .loc 1 0), (4, .loc 2 0)] #[8] Yc Yd .ready none, .flat 84 (tc (jn acc)), .flat 3 [.int .i64 (acc.length : Int)]] (.ifc 181 (.val (.agg #[]))) [.gone, .gone, .gone] := by
 refine Y5 3 Tryz.func133 rfl rfl (by simp) rfl rfl fun s0 hs0 => ?_
 refine zao 1 ?_
 refine zac ?_
 refine zak rfl (zaq 3 rfl wY rfl) ?_
 refine zas rfl (qY rfl KY (ev1 rfl) (ev1 rfl) rfl rfl rfl rfl) ?_
 refine zab ?_
 refine ⟨rfl, ?_⟩
 simp only [zaf, zag]
 refine zat ?_
 refine zae ?_
 refine zae ?_
 refine qg [([], []), ([3], []), ([], []), ([], []), ([], []), ([3], []), ([2], []), ([], []), ([], []), ([], []), ([], []), ([2], []), ([], []), ([], []), ([2], []), ([], []), ([], []), ([1], []), ([], []), ([3], []), ([], []), ([], []), ([], [])] qP (by kernel_rfl) ?_
 refine zad rfl rfl (zam rfl gQ (ev1 rfl)) ?_
 refine zad rfl rfl (qB rfl tb3 (ev1 rfl) rfl rfl) ?_
 refine zad rfl rfl (qv rfl (ev1 rfl) (ev1 rfl)) ?_
 refine zad rfl rfl (zal (.inl rfl) (ev1 rfl)) ?_
 refine qj (qe rfl rfl rfl) rfl rfl (zam rfl gQ (ev1 rfl)) ?_
 refine qj (qe rfl rfl rfl) rfl rfl (qB rfl tb3 (ev2 rfl) rfl rfl) ?_
 refine qj (qe rfl rfl rfl) rfl rfl (qB rfl tb3 (ev1 rfl) rfl rfl) ?_
 refine qj (qe rfl rfl rfl) rfl rfl (jV rfl (ev1 rfl) (ev2 rfl) (fun hp => qbB _ (by first | omega | (simp at hp; omega)))) ?_
 refine qj (qe rfl rfl rfl) rfl rfl (kA rfl (ev2 rfl) (ev2 rfl)) ?_
 refine zad rfl rfl (kx rfl (ev1 rfl) (ev3 rfl id)) ?_
 refine zad rfl rfl (zal (.inl rfl) (ev1 rfl)) ?_
 refine qj (qe rfl rfl rfl) rfl rfl (qB rfl tb3 (ev1 rfl) rfl rfl) ?_
 refine qj (qe rfl rfl rfl) rfl rfl (kA rfl (ev2 rfl) (ev1 rfl)) ?_
 refine qj (qe rfl rfl rfl) rfl rfl (zal (.inl rfl) (ev2 rfl)) ?_
 refine qj (qO rfl rfl rfl) rfl rfl (qB rfl tb3 (ev1 rfl) rfl rfl) ?_
 refine qj (qO rfl rfl rfl) rfl rfl (jV rfl (ev2 rfl) (ev1 rfl) (fun hp => qbB _ (by first | omega | (simp at hp; omega)))) ?_
 refine qj (qO rfl rfl rfl) rfl rfl (yC (j := acc.length - 1) rfl Kk (ev1 rfl) (ev2 rfl) (fun hp => by first | omega | (simp at hp; omega)) (fun hp => by first | omega | (simp at hp; omega))) ?_
 refine qj (qO rfl rfl rfl) rfl rfl (uM (zC4) rfl vJ (ev2 rfl) rfl (fun _ => rfl) (fun _ => by rw [TL.h]; omega)) ?_
 refine qj (qO rfl rfl rfl) rfl rfl (zam rfl yj (ev1 rfl)) ?_
 refine qj (qO rfl rfl rfl) rfl rfl (v8 rfl vJ (ev2 rfl) rfl rfl rfl) ?_
 refine qj (qO rfl rfl rfl) rfl rfl (vE eq82 rfl gd82 vJ (ev2 rfl) (ev2 rfl)) ?_
 refine qj (qe rfl rfl rfl) rfl rfl (qC rfl (ev2 rfl) (ev2 rfl)) ?_
 refine zad rfl rfl (kx rfl (ev1 rfl) (ev3 rfl id)) ?_
 refine qk ?_
 refine qJ rfl ((Qd ha).trans (by rw [hm]; rfl)) ?_
 refine zac ?_
 refine za rfl (k8 rfl GW zS) ?_
 refine za rfl (xy rfl zQ (ev1 rfl)) ?_
 refine ky rfl (wg rfl (ev1 rfl)) rfl ?_
 refine ⟨[0, 1, 2], [_, _, _], rfl, rfl, ⟨rfl, rfl, rfl, trivial⟩, rfl⟩
end Go.Proofs.YtofklkbfkoliiaaGreat
namespace Go.Proofs.YtofklkbfkoliiaaGreat
set_option linter.unusedVariables false
set_option linter.unusedSimpArgs false
open Go.RowKit
attribute [local irreducible] jn rdP rdN yo
theorem Wo (B : List Int) (hB : B.length ≤ 4000000000000000000) (w h : Int) (us : List TL) (hu : us.length ≤ 5000) (hi : isB B) (p0 : Nat) (hp : p0 ≤ B.length) (l : List C4) (q : Nat) (h0 : rdN B p0 = some (l, q)) : DFun Tryz.prog 141 [.yld 0, .loc 3 0] [.lp (some 133) 48 [(3, .loc 1 0), (4, .loc 2 0)] #[8] Yc Yd .ready none, .flat 84 (tc zT), .flat 3 [.int .i64 0], .mix 183 [.loc 4 0], .mix 158 [.val (.int .i64 w), .val (.int .i64 h), .arr 5, .slf 1 (B).length ((B).flatMap uc8), .val (.int .i64 (p0 : Int))], .arr 84 256 (us).length ((us).flatMap tc)] (.tup []) [.lp (some 133) 48 [(3, .loc 1 0), (4, .loc 2 0)] #[8] Yc Yd .done (some (.exit 0)), .flat 84 (tc (jn l)), .flat 3 [.int .i64 64], .mix 183 [.loc 4 0], .mix 158 [.val (.int .i64 w), .val (.int .i64 h), .arr 5, .slf 1 (B).length ((B).flatMap uc8), .val (.int .i64 (q : Int))], .arr 84 256 (us).length ((us).flatMap tc)] := by
 refine zap (N := 27) 6 (by kernel_rfl) Tryz.func141 rfl rfl rfl (by simp only [fr0, qbs, qbt]; exact rfl) rfl fun s0 hs0 => ?_
 refine zat ?_
 refine qI ⟨hs0, rfl⟩ (α := Nat × List C4 × Nat) (fun x => []) [(0, _), (1, _)] (fun x => [(1, .flat 84 (tc (jn x.2.1))), (2, .flat 3 [.int .i64 (x.2.1.length : Int)]), (4, .mix 158 [.val (.int .i64 w), .val (.int .i64 h), .arr 5, .slf 1 (B).length ((B).flatMap uc8), .val (.int .i64 (x.2.2 : Int))])]) [_, .hole, .hole, _, .hole, _] (fun x => x.2.1.length < 64 ∧ x.2.2 ≤ B.length ∧ rdP B x.1 x.2.1 x.2.2 = some (l, q)) (fun x => 64 - x.2.1.length) (64, [], p0) [0, 1, 2, 3, 4, 5] (⟨by show 0 < 64; decide, hp, by unfold rdN at h0; exact h0⟩) rfl ⟨rfl, rfl, trivial⟩ trivial ⟨rfl, by rw [G8]; rfl, rfl, rfl, rfl, rfl, trivial⟩ ?_
 intro x hx
 simp only [upd, zaf, zag, qbD, qbF]
 obtain ⟨f, acc, p⟩ := x
 obtain ⟨ha, hpl, hrd⟩ := hx
 dsimp only at ha hpl hrd ⊢
 obtain ⟨h5, hm, hz, hy⟩ := Ya hrd
 have hmg := (mayG_iff.1 hm).1
 refine zat ?_
 refine zah ?_
 refine za rfl (zan rfl UQ (ev1 rfl) rfl rfl) ?_
 refine zak rfl (zaj [4, 5] [] [] rfl (ev1 rfl) (ec (ev1 rfl) (ec (ev1 rfl) en)) rfl rfl (U7 B hB w h us hu p h5) rfl rfl rfl rfl rfl rfl) ?_
 refine zaa 1 rfl ?_
 refine zab ?_
 refine zae ?_
 by_cases hd : acc.length + (kM B p).1.toNat = 64
 ·refine qg [([], []), ([], []), ([], []), ([], []), ([], []), ([], []), ([], []), ([], []), ([], []), ([], []), ([], []), ([], []), ([], []), ([], []), ([], []), ([], []), ([], []), ([], []), ([], []), ([0, 1, 2], [0, 1, 2]), ([], [])] qP (by kernel_rfl) ?_
  refine zad rfl rfl (zal (.inl rfl) (ev1 rfl)) ?_
  refine zad rfl rfl (zal (.inl rfl) (ev1 rfl)) ?_
  refine zad rfl rfl (q0 (l := (yV B p)) (en := uc8) (j := 0) rfl qG (ev1 rfl) (ev1 rfl) (fun _ => rfl) (by decide) rfl (qb0 (qbA rfl))) ?_
  refine zad rfl rfl ((ke rfl tb5 (ev1 rfl) rfl).wk (Wk.of_eq (d' := .val (.int .u8 (bAt B p))) rfl)) ?_
  refine zad rfl rfl (gb ty5 kn3 rfl (ev1 rfl) (fun _ => by have := wp hi p; exact qbB _ (by omega))) ?_
  refine zad rfl rfl (zal (.inl rfl) (ev1 rfl)) ?_
  refine zad rfl rfl (q0 (l := (yV B p)) (en := uc8) (j := 1) rfl qG (ev1 rfl) (ev1 rfl) (fun _ => rfl) (by decide) rfl (qb0 (qbA rfl))) ?_
  refine zad rfl rfl (ke rfl tb5 (ev1 rfl) rfl) ?_
  refine zad rfl rfl (zal (.inl rfl) (ev1 rfl)) ?_
  refine zad rfl rfl (q0 (l := (yV B p)) (en := uc8) (j := 2) rfl qG (ev1 rfl) (ev1 rfl) (fun _ => rfl) (by decide) rfl (qb0 (qbA rfl))) ?_
  refine zad rfl rfl (ke rfl tb5 (ev1 rfl) rfl) ?_
  refine zad rfl rfl (zal (.inl rfl) (ev1 rfl)) ?_
  refine zad rfl rfl (q0 (l := (yV B p)) (en := uc8) (j := 3) rfl qG (ev1 rfl) (ev1 rfl) (fun _ => rfl) (by decide) rfl (qb0 (qbA rfl))) ?_
  refine zad rfl rfl (ke rfl tb5 (ev1 rfl) rfl) ?_
  refine zad rfl rfl (zal (.inl rfl) (ev1 rfl)) ?_
  refine zad rfl rfl (q0 (l := (yV B p)) (en := uc8) (j := 4) rfl qG (ev1 rfl) (ev1 rfl) (fun _ => rfl) (by decide) rfl (qb0 (qbA rfl))) ?_
  refine zad rfl rfl (ke rfl tb5 (ev1 rfl) rfl) ?_
  refine zad rfl rfl (je (ps := [(0, .tmp 13), (1, .tmp 16), (2, .tmp 19), (3, .tmp 22)]) rfl UN UT (vc (ev1 rfl) (vc (ev1 rfl) (vc (ev1 rfl) (vc (ev1 rfl) vn)))) rfl rfl) ?_
  refine zad rfl rfl (je (ps := [(0, .tmp 10), (1, .tmp 23)]) rfl GX wY (vc (ev1 rfl) (vc (ev1 rfl) vn)) rfl rfl) ?_
  refine gE rfl rfl (GD (i := 0) [0, 1, 2] [] [] rfl (ev1 rfl) (ec (ev1 rfl) en) rfl rfl rfl (tr_z acc (bAt B p) (kM B p).2 ha hm hd) rfl rfl rfl rfl rfl) rfl (by simp only [upd, zaf, zag]; exact rfl) ?_
  refine zad rfl rfl (kv rfl (ev1 rfl)) ?_
  refine qk ?_
  refine qJ rfl (rfl) ?_
  refine qa ?_
  obtain ⟨rfl, rfl⟩ := hz hd
  have hd2 : acc.length + (bAt B p).toNat = 64 := hd
  rw [hd2]
  refine ko [0, 1, 2, 3, 4, 5] (qH rfl) rfl rfl ?_ ⟨rfl, rfl, rfl, rfl, rfl, rfl, trivial⟩
  rfl
 ·have hmn : (kM B p).1 = bAt B p := rfl
  refine qg [([], []), ([], []), ([], []), ([], []), ([], []), ([], []), ([], []), ([], []), ([], []), ([], []), ([], []), ([], []), ([], []), ([], []), ([], []), ([], []), ([], []), ([], []), ([], []), ([0, 1, 2], [0, 1, 2]), ([], [])] qP (by kernel_rfl) ?_
  refine zad rfl rfl (zal (.inl rfl) (ev1 rfl)) ?_
  refine zad rfl rfl (zal (.inl rfl) (ev1 rfl)) ?_
  refine zad rfl rfl (q0 (l := (yV B p)) (en := uc8) (j := 0) rfl qG (ev1 rfl) (ev1 rfl) (fun _ => rfl) (by decide) rfl (qb0 (qbA rfl))) ?_
  refine zad rfl rfl ((ke rfl tb5 (ev1 rfl) rfl).wk (Wk.of_eq (d' := .val (.int .u8 (bAt B p))) rfl)) ?_
  refine zad rfl rfl (gb ty5 kn3 rfl (ev1 rfl) (fun _ => by have := wp hi p; exact qbB _ (by omega))) ?_
  refine zad rfl rfl (zal (.inl rfl) (ev1 rfl)) ?_
  refine zad rfl rfl (q0 (l := (yV B p)) (en := uc8) (j := 1) rfl qG (ev1 rfl) (ev1 rfl) (fun _ => rfl) (by decide) rfl (qb0 (qbA rfl))) ?_
  refine zad rfl rfl (ke rfl tb5 (ev1 rfl) rfl) ?_
  refine zad rfl rfl (zal (.inl rfl) (ev1 rfl)) ?_
  refine zad rfl rfl (q0 (l := (yV B p)) (en := uc8) (j := 2) rfl qG (ev1 rfl) (ev1 rfl) (fun _ => rfl) (by decide) rfl (qb0 (qbA rfl))) ?_
  refine zad rfl rfl (ke rfl tb5 (ev1 rfl) rfl) ?_
  refine zad rfl rfl (zal (.inl rfl) (ev1 rfl)) ?_
  refine zad rfl rfl (q0 (l := (yV B p)) (en := uc8) (j := 3) rfl qG (ev1 rfl) (ev1 rfl) (fun _ => rfl) (by decide) rfl (qb0 (qbA rfl))) ?_
  refine zad rfl rfl (ke rfl tb5 (ev1 rfl) rfl) ?_
  refine zad rfl rfl (zal (.inl rfl) (ev1 rfl)) ?_
  refine zad rfl rfl (q0 (l := (yV B p)) (en := uc8) (j := 4) rfl qG (ev1 rfl) (ev1 rfl) (fun _ => rfl) (by decide) rfl (qb0 (qbA rfl))) ?_
  refine zad rfl rfl (ke rfl tb5 (ev1 rfl) rfl) ?_
  refine zad rfl rfl (je (ps := [(0, .tmp 13), (1, .tmp 16), (2, .tmp 19), (3, .tmp 22)]) rfl UN UT (vc (ev1 rfl) (vc (ev1 rfl) (vc (ev1 rfl) (vc (ev1 rfl) vn)))) rfl rfl) ?_
  refine zad rfl rfl (je (ps := [(0, .tmp 10), (1, .tmp 23)]) rfl GX wY (vc (ev1 rfl) (vc (ev1 rfl) vn)) rfl rfl) ?_
  refine gE rfl rfl (GD (i := 0) [0, 1, 2] [] [] rfl (ev1 rfl) (ec (ev1 rfl) en) rfl rfl rfl (tr_y acc (bAt B p) (kM B p).2 ha hm (by omega)) rfl rfl rfl rfl rfl) rfl (by simp only [upd, zaf, zag]; exact rfl) ?_
  refine zad rfl rfl (kv rfl (ev1 rfl)) ?_
  refine qk ?_
  refine qc rfl (rfl) ?_
  refine zar ?_
  refine ⟨(f - 1, acc ++ qbH (kM B p).1.toNat (kM B p).2, p + 5), [0, 1, 2, 3, 4, 5], ⟨by simp only [qbz, qbN]; omega, h5, hy hd⟩, by simp only [qbz, qbN]; omega, rfl, ⟨rfl, rfl, trivial⟩, ⟨rfl, rfl, by rw [qbz, qbN]; rfl, rfl, rfl, rfl, trivial⟩⟩
theorem Wp (B : List Int) (hB : B.length ≤ 4000000000000000000) (w h : Int) (us : List TL) (hu : us.length ≤ 5000) (hi : isB B) (p0 : Nat) (hp : p0 ≤ B.length) (h0 : rdN B p0 = none) : DPanL Tryz.prog 141 [.yld 0, .loc 3 0] [.lp (some 133) 48 [(3, .loc 1 0), (4, .loc 2 0)] #[8] Yc Yd .ready none, .flat 84 (tc zT), .flat 3 [.int .i64 0], .mix 183 [.loc 4 0], .mix 158 [.val (.int .i64 w), .val (.int .i64 h), .arr 5, .slf 1 (B).length ((B).flatMap uc8), .val (.int .i64 (p0 : Int))], .arr 84 256 (us).length ((us).flatMap tc)] (.ifc 181 (.val (.agg #[]))) := by
 refine zap (N := 27) 6 (by kernel_rfl) Tryz.func141 rfl rfl rfl (by simp only [fr0, qbs, qbt]; exact rfl) rfl fun s0 hs0 => ?_
 refine zat ?_
 refine qI ⟨hs0, rfl⟩ (α := Nat × List C4 × Nat) (fun x => []) [(0, _), (1, _)] (fun x => [(1, .flat 84 (tc (jn x.2.1))), (2, .flat 3 [.int .i64 (x.2.1.length : Int)]), (4, .mix 158 [.val (.int .i64 w), .val (.int .i64 h), .arr 5, .slf 1 (B).length ((B).flatMap uc8), .val (.int .i64 (x.2.2 : Int))])]) [_, .hole, .hole, _, .hole, _] (fun x => x.2.1.length < 64 ∧ x.2.2 ≤ B.length ∧ 64 ≤ x.1 + x.2.1.length ∧ rdP B x.1 x.2.1 x.2.2 = none) (fun x => 64 - x.2.1.length) (64, [], p0) [0, 1, 2, 3, 4, 5] (⟨by show 0 < 64; decide, hp, qbM 64, by unfold rdN at h0; exact h0⟩) rfl ⟨rfl, rfl, trivial⟩ trivial ⟨rfl, by rw [G8]; rfl, rfl, rfl, rfl, rfl, trivial⟩ ?_
 intro x hx
 simp only [upd, zaf, zag, qbD, qbF]
 obtain ⟨f, acc, p⟩ := x
 obtain ⟨ha, hpl, hf, hrd⟩ := hx
 dsimp only at ha hpl hf hrd ⊢
 refine zat ?_
 refine zae ?_
 by_cases h5 : p + 5 ≤ B.length
 ·refine zac ?_
  refine za rfl (zan rfl UQ (ev1 rfl) rfl rfl) ?_
  refine zak rfl (zaj [4, 5] [] [] rfl (ev1 rfl) (ec (ev1 rfl) (ec (ev1 rfl) en)) rfl rfl (U7 B hB w h us hu p h5) rfl rfl rfl rfl rfl rfl) ?_
  refine zaa 1 rfl ?_
  refine zab ?_
  refine zae ?_
  by_cases hm : yo acc (kM B p).1 (kM B p).2 = true
  ·have hmn : (kM B p).1 = bAt B p := rfl
   obtain ⟨hn1, hn2, hn3⟩ := U3 hf ha hrd h5 hm
   have hmg := (mayG_iff.1 hm).1
   refine qg [([], []), ([], []), ([], []), ([], []), ([], []), ([], []), ([], []), ([], []), ([], []), ([], []), ([], []), ([], []), ([], []), ([], []), ([], []), ([], []), ([], []), ([], []), ([], []), ([0, 1, 2], [0, 1, 2]), ([], [])] qP (by kernel_rfl) ?_
   refine zad rfl rfl (zal (.inl rfl) (ev1 rfl)) ?_
   refine zad rfl rfl (zal (.inl rfl) (ev1 rfl)) ?_
   refine zad rfl rfl (q0 (l := (yV B p)) (en := uc8) (j := 0) rfl qG (ev1 rfl) (ev1 rfl) (fun _ => rfl) (by decide) rfl (qb0 (qbA rfl))) ?_
   refine zad rfl rfl ((ke rfl tb5 (ev1 rfl) rfl).wk (Wk.of_eq (d' := .val (.int .u8 (bAt B p))) rfl)) ?_
   refine zad rfl rfl (gb ty5 kn3 rfl (ev1 rfl) (fun _ => by have := wp hi p; exact qbB _ (by omega))) ?_
   refine zad rfl rfl (zal (.inl rfl) (ev1 rfl)) ?_
   refine zad rfl rfl (q0 (l := (yV B p)) (en := uc8) (j := 1) rfl qG (ev1 rfl) (ev1 rfl) (fun _ => rfl) (by decide) rfl (qb0 (qbA rfl))) ?_
   refine zad rfl rfl (ke rfl tb5 (ev1 rfl) rfl) ?_
   refine zad rfl rfl (zal (.inl rfl) (ev1 rfl)) ?_
   refine zad rfl rfl (q0 (l := (yV B p)) (en := uc8) (j := 2) rfl qG (ev1 rfl) (ev1 rfl) (fun _ => rfl) (by decide) rfl (qb0 (qbA rfl))) ?_
   refine zad rfl rfl (ke rfl tb5 (ev1 rfl) rfl) ?_
   refine zad rfl rfl (zal (.inl rfl) (ev1 rfl)) ?_
   refine zad rfl rfl (q0 (l := (yV B p)) (en := uc8) (j := 3) rfl qG (ev1 rfl) (ev1 rfl) (fun _ => rfl) (by decide) rfl (qb0 (qbA rfl))) ?_
   refine zad rfl rfl (ke rfl tb5 (ev1 rfl) rfl) ?_
   refine zad rfl rfl (zal (.inl rfl) (ev1 rfl)) ?_
   refine zad rfl rfl (q0 (l := (yV B p)) (en := uc8) (j := 4) rfl qG (ev1 rfl) (ev1 rfl) (fun _ => rfl) (by decide) rfl (qb0 (qbA rfl))) ?_
   refine zad rfl rfl (ke rfl tb5 (ev1 rfl) rfl) ?_
   refine zad rfl rfl (je (ps := [(0, .tmp 13), (1, .tmp 16), (2, .tmp 19), (3, .tmp 22)]) rfl UN UT (vc (ev1 rfl) (vc (ev1 rfl) (vc (ev1 rfl) (vc (ev1 rfl) vn)))) rfl rfl) ?_
   refine zad rfl rfl (je (ps := [(0, .tmp 10), (1, .tmp 23)]) rfl GX wY (vc (ev1 rfl) (vc (ev1 rfl) vn)) rfl rfl) ?_
   refine gE rfl rfl (GD (i := 0) [0, 1, 2] [] [] rfl (ev1 rfl) (ec (ev1 rfl) en) rfl rfl rfl (tr_y acc (bAt B p) (kM B p).2 ha hm (by omega)) rfl rfl rfl rfl rfl) rfl (by simp only [upd, zaf, zag]; exact rfl) ?_
   refine zad rfl rfl (kv rfl (ev1 rfl)) ?_
   refine qk ?_
   refine qc rfl (rfl) ?_
   refine zar ?_
   refine ⟨(f - 1, acc ++ qbH (kM B p).1.toNat (kM B p).2, p + 5), [0, 1, 2, 3, 4, 5], ⟨by simp only [qbz, qbN]; exact hn1, h5, by simp only [qbz, qbN]; exact hn2, hn3⟩, by simp only [qbz, qbN]; omega, rfl, ⟨rfl, rfl, trivial⟩, ⟨rfl, rfl, by rw [qbz, qbN]; rfl, rfl, rfl, rfl, trivial⟩⟩
  ·have hm : yo acc (kM B p).1 (kM B p).2 = false := by simpa using hm
   refine gt 19 [([], []), ([], []), ([], []), ([], []), ([], []), ([], []), ([], []), ([], []), ([], []), ([], []), ([], []), ([], []), ([], []), ([], []), ([], []), ([], []), ([], []), ([], []), ([], [])] qP (by kernel_rfl) rfl rfl ?_
   refine zad rfl rfl (zal (.inl rfl) (ev1 rfl)) ?_
   refine zad rfl rfl (zal (.inl rfl) (ev1 rfl)) ?_
   refine zad rfl rfl (q0 (l := (yV B p)) (en := uc8) (j := 0) rfl qG (ev1 rfl) (ev1 rfl) (fun _ => rfl) (by decide) rfl (qb0 (qbA rfl))) ?_
   refine zad rfl rfl ((ke rfl tb5 (ev1 rfl) rfl).wk (Wk.of_eq (d' := .val (.int .u8 (bAt B p))) rfl)) ?_
   refine zad rfl rfl (gb ty5 kn3 rfl (ev1 rfl) (fun _ => by have := wp hi p; exact qbB _ (by omega))) ?_
   refine zad rfl rfl (zal (.inl rfl) (ev1 rfl)) ?_
   refine zad rfl rfl (q0 (l := (yV B p)) (en := uc8) (j := 1) rfl qG (ev1 rfl) (ev1 rfl) (fun _ => rfl) (by decide) rfl (qb0 (qbA rfl))) ?_
   refine zad rfl rfl (ke rfl tb5 (ev1 rfl) rfl) ?_
   refine zad rfl rfl (zal (.inl rfl) (ev1 rfl)) ?_
   refine zad rfl rfl (q0 (l := (yV B p)) (en := uc8) (j := 2) rfl qG (ev1 rfl) (ev1 rfl) (fun _ => rfl) (by decide) rfl (qb0 (qbA rfl))) ?_
   refine zad rfl rfl (ke rfl tb5 (ev1 rfl) rfl) ?_
   refine zad rfl rfl (zal (.inl rfl) (ev1 rfl)) ?_
   refine zad rfl rfl (q0 (l := (yV B p)) (en := uc8) (j := 3) rfl qG (ev1 rfl) (ev1 rfl) (fun _ => rfl) (by decide) rfl (qb0 (qbA rfl))) ?_
   refine zad rfl rfl (ke rfl tb5 (ev1 rfl) rfl) ?_
   refine zad rfl rfl (zal (.inl rfl) (ev1 rfl)) ?_
   refine zad rfl rfl (q0 (l := (yV B p)) (en := uc8) (j := 4) rfl qG (ev1 rfl) (ev1 rfl) (fun _ => rfl) (by decide) rfl (qb0 (qbA rfl))) ?_
   refine zad rfl rfl (ke rfl tb5 (ev1 rfl) rfl) ?_
   refine zad rfl rfl (je (ps := [(0, .tmp 13), (1, .tmp 16), (2, .tmp 19), (3, .tmp 22)]) rfl UN UT (vc (ev1 rfl) (vc (ev1 rfl) (vc (ev1 rfl) (vc (ev1 rfl) vn)))) rfl rfl) ?_
   refine zad rfl rfl (je (ps := [(0, .tmp 10), (1, .tmp 23)]) rfl GX wY (vc (ev1 rfl) (vc (ev1 rfl) vn)) rfl rfl) ?_
   refine qk ⟨_, _, _, rfl, op_yP (i := 0) [0, 1, 2] [] [] rfl (ev1 rfl) (ec (ev1 rfl) en) rfl rfl rfl (tr_p acc (bAt B p) (kM B p).2 ha hm) rfl rfl rfl rfl rfl rfl, ?_⟩
   refine vh (Mo := [_, _, _, _, _, _]) [0, 1, 2, 3, 4, 5] rfl rfl ?_ ⟨rfl, rfl, rfl, rfl, rfl, rfl, trivial⟩ rfl
   rfl
 ·refine zac ?_
  refine za rfl (zan rfl UQ (ev1 rfl) rfl rfl) ?_
  refine ky rfl (qw [4, 5] [] [] rfl (ev1 rfl) (ec (ev1 rfl) (ec (ev1 rfl) en)) rfl rfl ((Wm B hB w h us hu p hpl h5).dead) rfl rfl rfl rfl rfl rfl) rfl ?_
  refine vh (Mo := [_, _, _, _, _, _]) [0, 1, 2, 3, 4, 5] rfl rfl ?_ ⟨rfl, rfl, rfl, rfl, rfl, rfl, trivial⟩ rfl
  rfl
theorem Vb (B : List Int) (hB : B.length ≤ 4000000000000000000) (w h : Int) (us : List TL) (hu : us.length ≤ 5000) (hi : isB B) (p0 : Nat) (hp : p0 ≤ B.length) (l : List C4) (q : Nat) (h0 : rdN B p0 = some (l, q)) : DFun Tryz.prog 133 [.loc 0 0] [.mix 158 [.val (.int .i64 w), .val (.int .i64 h), .arr 1, .slf 1 (B).length ((B).flatMap uc8), .val (.int .i64 (p0 : Int))], .arr 84 256 (us).length ((us).flatMap tc)] (.val (.agg (tc (jn l)).toArray)) [.mix 158 [.val (.int .i64 w), .val (.int .i64 h), .arr 1, .slf 1 (B).length ((B).flatMap uc8), .val (.int .i64 (q : Int))], .arr 84 256 (us).length ((us).flatMap tc)] := by
 refine zN (N := 48) 2 (by kernel_rfl) Tryz.func133 rfl rfl rfl (by simp only [fr0, qbs, qbt]; exact rfl) rfl fun s0 hs0 => ?_
 refine j4 ?_
 refine gP ?_
 refine zao 1 ?_
 refine zac ?_
 refine zak rfl (zaq 2 rfl yU rfl) ?_
 refine zab ?_
 refine zM ?_
 refine j4 ?_
 refine gP ?_
 refine zao 1 ?_
 refine zac ?_
 refine zak rfl (zaq 3 rfl yU rfl) ?_
 refine zab ?_
 refine j4 ?_
 refine gP ?_
 refine zao 1 ?_
 refine zac ?_
 refine zak rfl (zaq 4 rfl zr3 rfl) ?_
 refine zas rfl (qK rfl tb3 (ev1 rfl) (ev1 rfl) rfl) ?_
 refine zab ?_
 refine j4 ?_
 refine gP ?_
 refine xb ?_
 refine j4 ?_
 refine j4 ?_
 refine gP ?_
 refine zao 1 ?_
 refine zac ?_
 refine zaa 1 rfl ?_
 refine zak rfl (zaj [0, 1] [] [5] rfl (ev1 rfl) (ec (ev1 rfl) en) rfl rfl (Va B hB w h us hu p0) rfl rfl rfl rfl rfl rfl) ?_
 refine zab ?_
 refine zL ?_
 refine KV ?_
 simp only [qbD, qbF]
 refine UC (FL := [(3, _), (4, _)]) (st := .done) (pe := (some (.exit 0))) [6, 3, 4, 5, 0, 1] [] [] 6 rfl rfl (ev1 rfl) rfl (wJ ⟨rfl, rfl, trivial⟩) rfl rfl rfl (Wo B hB w h us hu hi p0 hp l q h0) rfl rfl rfl rfl rfl rfl rfl (by simp) (fun e => ?_) (fun c e => ?_)
 ·cases e
 ·cases e
  simp only [upd, zaf, zag]
  refine qD ?_
  refine gP ?_
  refine zah ?_
  refine za rfl (kT rfl jt (ev1 rfl) rfl (qA _)) ?_
  refine zas rfl (qY rfl jt (ev1 rfl) (ev1 rfl) rfl (qA _) (yx _) ((qA _).trans (qA _).symm)) ?_
  refine zab ?_
  refine qa ?_
  refine ko [0, 1] (rs1 rfl (yv jt rfl rfl (qA _))) rfl rfl ?_ ⟨rfl, rfl, trivial⟩
  rfl
theorem ZY (B : List Int) (hB : B.length ≤ 4000000000000000000) (w h : Int) (us : List TL) (hu : us.length ≤ 5000) (hi : isB B) (p0 : Nat) (hp : p0 ≤ B.length) (h0 : rdN B p0 = none) : DPanL Tryz.prog 133 [.loc 0 0] [.mix 158 [.val (.int .i64 w), .val (.int .i64 h), .arr 1, .slf 1 (B).length ((B).flatMap uc8), .val (.int .i64 (p0 : Int))], .arr 84 256 (us).length ((us).flatMap tc)] (.ifc 181 (.val (.agg #[]))) := by
 refine zN (N := 48) 2 (by kernel_rfl) Tryz.func133 rfl rfl rfl (by simp only [fr0, qbs, qbt]; exact rfl) rfl fun s0 hs0 => ?_
 refine j4 ?_
 refine gP ?_
 refine zao 1 ?_
 refine zac ?_
 refine zak rfl (zaq 2 rfl yU rfl) ?_
 refine zab ?_
 refine zM ?_
 refine j4 ?_
 refine gP ?_
 refine zao 1 ?_
 refine zac ?_
 refine zak rfl (zaq 3 rfl yU rfl) ?_
 refine zab ?_
 refine j4 ?_
 refine gP ?_
 refine zao 1 ?_
 refine zac ?_
 refine zak rfl (zaq 4 rfl zr3 rfl) ?_
 refine zas rfl (qK rfl tb3 (ev1 rfl) (ev1 rfl) rfl) ?_
 refine zab ?_
 refine j4 ?_
 refine gP ?_
 refine xb ?_
 refine j4 ?_
 refine j4 ?_
 refine gP ?_
 refine zao 1 ?_
 refine zac ?_
 refine zaa 1 rfl ?_
 refine zak rfl (zaj [0, 1] [] [5] rfl (ev1 rfl) (ec (ev1 rfl) en) rfl rfl (Va B hB w h us hu p0) rfl rfl rfl rfl rfl rfl) ?_
 refine zab ?_
 refine zL ?_
 refine KV ?_
 simp only [qbD, qbF]
 refine UD (FL := [(3, _), (4, _)]) [6, 3, 4, 5, 0, 1] [] [] 6 rfl rfl (ev1 rfl) rfl (wJ ⟨rfl, rfl, trivial⟩) rfl rfl rfl ((Wp B hB w h us hu hi p0 hp h0).dead) rfl rfl rfl rfl rfl rfl rfl ?_
 simp only [upd, zaf, zag]
 refine vh (Mo := [_, _]) [0, 1] rfl rfl ?_ ⟨rfl, rfl, trivial⟩ rfl
 rfl
end Go.Proofs.YtofklkbfkoliiaaGreat
namespace Go.Proofs.YtofklkbfkoliiaaGreat
set_option linter.unusedVariables false
set_option linter.unusedSimpArgs false
open Go.RowKit
attribute [local irreducible] jn rdP rdN yo
theorem qaE {I : Nat → Prop} {w h : Int} {ts : List TL} {d : D} (hf : Okd (NewCv I w h ts) d) : Wk d (.tup [cvD w h (dpR ts), .val (.int .i64 0)]) := by
 obtain ⟨_, ⟨A, hA, _, rfl⟩, rfl⟩ := hf
 exact Wk.tup (.cons ((zV hA).wkd w h) (.cons (.refl _) .nil))
theorem qaF (w h : Int) (n : Nat) (hm : gW w h = true) (hn : w * h = (n : Int)) : DFun Tryz.prog 121 [.val (.int .i64 w), .val (.int .i64 h)] [] (.tup [cvD w h (dpR (qbH n (nT zC4))), .val (.int .i64 0)]) [] := (qaB w h n hm hn).fun fun I d hf => qaE hf
theorem Ye (B : List Int) (hB : B.length ≤ 4000000000000000000) (hi : isB B) (n : Nat) (h2 : 0 + 2 ≤ B.length) (hm : gW (bAt B 0) (bAt B 1) = true) (hn : bAt B 0 * bAt B 1 = (n : Int)) : DFun Tryz.prog 98 [.loc 0 0] [.mix 158 [.val (.int .i64 0), .val (.int .i64 0), .val (.slice none 0 0), .slf 1 (B).length ((B).flatMap uc8), .val (.int .i64 (0 : Int))]] (.tup []) [.mix 158 [.val (.int .i64 (bAt B 0)), .val (.int .i64 (bAt B 1)), .val (.slice none 0 0), .slf 1 (B).length ((B).flatMap uc8), .val (.int .i64 (2 : Int))]] := by
 refine zap (N := 41) 1 (by kernel_rfl) Tryz.func98 rfl rfl rfl (by simp only [fr0, qbs, qbt]; exact rfl) rfl fun s0 hs0 => ?_
 refine zah ?_
 refine zaa 1 rfl ?_
 refine zak rfl (zaj [0] [] [] rfl (ev1 rfl) (ec (ev1 rfl) (ec (ev1 rfl) en)) rfl rfl (Au B hB 0 h2) rfl rfl rfl rfl rfl rfl) ?_
 refine zaa 1 rfl ?_
 refine zab ?_
 refine zae ?_
 refine qg [([], []), ([], []), ([], []), ([], []), ([], []), ([], []), ([], []), ([], []), ([], []), ([], []), ([], []), ([], []), ([], []), ([0], [0]), ([], []), ([], []), ([], []), ([0], [0])] qP (by kernel_rfl) ?_
 refine zad rfl rfl (zal (.inl rfl) (ev1 rfl)) ?_
 refine zad rfl rfl (zal (.inl rfl) (ev1 rfl)) ?_
 refine zad rfl rfl (zal (.inl rfl) (ev1 rfl)) ?_
 refine zad rfl rfl (q0 (l := (Wi B 0)) (en := uc8) (j := 0) rfl qG (ev1 rfl) (ev1 rfl) (fun _ => rfl) (by decide) rfl (qb0 (qbA rfl))) ?_
 refine zad rfl rfl ((ke rfl tb5 (ev1 rfl) rfl).wk (Wk.of_eq (d' := .val (.int .u8 (bAt B 0))) rfl)) ?_
 refine zad rfl rfl (gb ty5 kn3 rfl (ev1 rfl) (fun _ => by have := wp hi 0; exact qbB _ (by omega))) ?_
 refine zad rfl rfl (zal (.inl rfl) (ev1 rfl)) ?_
 refine zad rfl rfl (q0 (l := (Wi B 0)) (en := uc8) (j := 1) rfl qG (ev1 rfl) (ev1 rfl) (fun _ => rfl) (by decide) rfl (qb0 (qbA rfl))) ?_
 refine zad rfl rfl ((ke rfl tb5 (ev1 rfl) rfl).wk (Wk.of_eq (d' := .val (.int .u8 (bAt B 1))) rfl)) ?_
 refine zad rfl rfl (gb ty5 kn3 rfl (ev1 rfl) (fun _ => by have := wp hi 1; exact qbB _ (by omega))) ?_
 refine zad rfl rfl (qt rfl (ev1 rfl) (fun s v h => by cases h; exact ⟨_, rfl⟩)) ?_
 refine zad rfl rfl (zam rfl jm (ev1 rfl)) ?_
 refine zad rfl rfl (zam rfl y5 (ev1 rfl)) ?_
 refine j0 rfl rfl (kJ rfl tb3 (ev1 rfl) (ev1 rfl) (fun s v h => by cases h <;> exact ⟨rfl, rfl⟩) rfl (by first | decide | exact qbA rfl | simp)) rfl (by simp only [upd, zaf, zag]; exact rfl) ?_
 refine zad rfl rfl (qt rfl (ev1 rfl) (fun s v h => by cases h; exact ⟨_, rfl⟩)) ?_
 refine zad rfl rfl (zam rfl jm (ev1 rfl)) ?_
 refine zad rfl rfl (zam rfl y6 (ev1 rfl)) ?_
 refine j0 rfl rfl (kJ rfl tb3 (ev1 rfl) (ev1 rfl) (fun s v h => by cases h <;> exact ⟨rfl, rfl⟩) rfl (by first | decide | exact qbA rfl | simp)) rfl (by simp only [upd, zaf, zag]; exact rfl) ?_
 refine qk ?_
 refine zae ?_
 refine qg [([], []), ([], []), ([], []), ([], []), ([0], []), ([], []), ([], []), ([], []), ([], []), ([0], []), ([], []), ([], []), ([], []), ([], []), ([], []), ([], [])] qP (by kernel_rfl) ?_
 refine zad rfl rfl (zal (.inl rfl) (ev1 rfl)) ?_
 refine zad rfl rfl (qt rfl (ev1 rfl) (fun s v h => by cases h; exact ⟨_, rfl⟩)) ?_
 refine zad rfl rfl (zam rfl jm (ev1 rfl)) ?_
 refine zad rfl rfl (zam rfl y5 (ev1 rfl)) ?_
 refine zad rfl rfl (zan rfl tb3 (ev1 rfl) rfl rfl) ?_
 refine zad rfl rfl (zal (.inl rfl) (ev1 rfl)) ?_
 refine zad rfl rfl (qt rfl (ev1 rfl) (fun s v h => by cases h; exact ⟨_, rfl⟩)) ?_
 refine zad rfl rfl (zam rfl jm (ev1 rfl)) ?_
 refine zad rfl rfl (zam rfl y6 (ev1 rfl)) ?_
 refine zad rfl rfl (zan rfl tb3 (ev1 rfl) rfl rfl) ?_
 refine zad rfl rfl (zaj [] [] [] rfl (ev1 rfl) (ec (ev1 rfl) (ec (ev1 rfl) en)) rfl rfl (qaF (bAt B 0) (bAt B 1) n hm hn) rfl rfl rfl rfl rfl rfl) ?_
 refine zad rfl rfl (zal (.inl rfl) (ev1 rfl)) ?_
 refine zad rfl rfl (jN rfl (ev1 rfl) rfl) ?_
 refine zad rfl rfl (jN rfl (ev1 rfl) rfl) ?_
 refine zad rfl rfl (zal (.inr rfl) (ev1 rfl)) ?_
 refine zad rfl rfl (zal (.inr rfl) (ev1 rfl)) ?_
 refine qk ?_
 refine zah ?_
 refine zaa 1 rfl ?_
 refine za rfl (qT rfl (ev1 rfl) (ev1 rfl)) ?_
 refine zab ?_
 refine qc rfl (rfl) ?_
 refine zar ?_
 refine ko [0] (qH rfl) rfl rfl ?_ ⟨rfl, trivial⟩
 rfl
theorem U9 (B : List Int) (hB : B.length ≤ 4000000000000000000) (hi : isB B) (h2 : ¬ 0 + 2 ≤ B.length) : DPanL Tryz.prog 98 [.loc 0 0] [.mix 158 [.val (.int .i64 0), .val (.int .i64 0), .val (.slice none 0 0), .slf 1 (B).length ((B).flatMap uc8), .val (.int .i64 (0 : Int))]] (.ifc 181 (.val (.agg #[]))) := by
 refine zap (N := 41) 1 (by kernel_rfl) Tryz.func98 rfl rfl rfl (by simp only [fr0, qbs, qbt]; exact rfl) rfl fun s0 hs0 => ?_
 refine zah ?_
 refine zaa 1 rfl ?_
 refine ky rfl (qw [0] [] [] rfl (ev1 rfl) (ec (ev1 rfl) (ec (ev1 rfl) en)) rfl rfl ((U6 B hB 0 (qb3 _) h2).dead) rfl rfl rfl rfl rfl rfl) rfl ?_
 refine vh (Mo := [_]) [0] rfl rfl ?_ ⟨rfl, trivial⟩ rfl
 rfl
theorem Xa (B : List Int) (hB : B.length ≤ 4000000000000000000) (hi : isB B) (h2 : 0 + 2 ≤ B.length) (hm : gW (bAt B 0) (bAt B 1) = false) : DPanL Tryz.prog 98 [.loc 0 0] [.mix 158 [.val (.int .i64 0), .val (.int .i64 0), .val (.slice none 0 0), .slf 1 (B).length ((B).flatMap uc8), .val (.int .i64 (0 : Int))]] (.ifc 181 (.val (.agg #[]))) := by
 refine zap (N := 41) 1 (by kernel_rfl) Tryz.func98 rfl rfl rfl (by simp only [fr0, qbs, qbt]; exact rfl) rfl fun s0 hs0 => ?_
 refine zah ?_
 refine zaa 1 rfl ?_
 refine zak rfl (zaj [0] [] [] rfl (ev1 rfl) (ec (ev1 rfl) (ec (ev1 rfl) en)) rfl rfl (Au B hB 0 h2) rfl rfl rfl rfl rfl rfl) ?_
 refine zaa 1 rfl ?_
 refine zab ?_
 refine zae ?_
 refine qg [([], []), ([], []), ([], []), ([], []), ([], []), ([], []), ([], []), ([], []), ([], []), ([], []), ([], []), ([], []), ([], []), ([0], [0]), ([], []), ([], []), ([], []), ([0], [0])] qP (by kernel_rfl) ?_
 refine zad rfl rfl (zal (.inl rfl) (ev1 rfl)) ?_
 refine zad rfl rfl (zal (.inl rfl) (ev1 rfl)) ?_
 refine zad rfl rfl (zal (.inl rfl) (ev1 rfl)) ?_
 refine zad rfl rfl (q0 (l := (Wi B 0)) (en := uc8) (j := 0) rfl qG (ev1 rfl) (ev1 rfl) (fun _ => rfl) (by decide) rfl (qb0 (qbA rfl))) ?_
 refine zad rfl rfl ((ke rfl tb5 (ev1 rfl) rfl).wk (Wk.of_eq (d' := .val (.int .u8 (bAt B 0))) rfl)) ?_
 refine zad rfl rfl (gb ty5 kn3 rfl (ev1 rfl) (fun _ => by have := wp hi 0; exact qbB _ (by omega))) ?_
 refine zad rfl rfl (zal (.inl rfl) (ev1 rfl)) ?_
 refine zad rfl rfl (q0 (l := (Wi B 0)) (en := uc8) (j := 1) rfl qG (ev1 rfl) (ev1 rfl) (fun _ => rfl) (by decide) rfl (qb0 (qbA rfl))) ?_
 refine zad rfl rfl ((ke rfl tb5 (ev1 rfl) rfl).wk (Wk.of_eq (d' := .val (.int .u8 (bAt B 1))) rfl)) ?_
 refine zad rfl rfl (gb ty5 kn3 rfl (ev1 rfl) (fun _ => by have := wp hi 1; exact qbB _ (by omega))) ?_
 refine zad rfl rfl (qt rfl (ev1 rfl) (fun s v h => by cases h; exact ⟨_, rfl⟩)) ?_
 refine zad rfl rfl (zam rfl jm (ev1 rfl)) ?_
 refine zad rfl rfl (zam rfl y5 (ev1 rfl)) ?_
 refine j0 rfl rfl (kJ rfl tb3 (ev1 rfl) (ev1 rfl) (fun s v h => by cases h <;> exact ⟨rfl, rfl⟩) rfl (by first | decide | exact qbA rfl | simp)) rfl (by simp only [upd, zaf, zag]; exact rfl) ?_
 refine zad rfl rfl (qt rfl (ev1 rfl) (fun s v h => by cases h; exact ⟨_, rfl⟩)) ?_
 refine zad rfl rfl (zam rfl jm (ev1 rfl)) ?_
 refine zad rfl rfl (zam rfl y6 (ev1 rfl)) ?_
 refine j0 rfl rfl (kJ rfl tb3 (ev1 rfl) (ev1 rfl) (fun s v h => by cases h <;> exact ⟨rfl, rfl⟩) rfl (by first | decide | exact qbA rfl | simp)) rfl (by simp only [upd, zaf, zag]; exact rfl) ?_
 refine qk ?_
 refine zae ?_
 refine qg [([], []), ([], []), ([], []), ([], []), ([0], []), ([], []), ([], []), ([], []), ([], []), ([0], []), ([], []), ([], []), ([], []), ([], []), ([], []), ([], [])] qP (by kernel_rfl) ?_
 refine zad rfl rfl (zal (.inl rfl) (ev1 rfl)) ?_
 refine zad rfl rfl (qt rfl (ev1 rfl) (fun s v h => by cases h; exact ⟨_, rfl⟩)) ?_
 refine zad rfl rfl (zam rfl jm (ev1 rfl)) ?_
 refine zad rfl rfl (zam rfl y5 (ev1 rfl)) ?_
 refine zad rfl rfl (zan rfl tb3 (ev1 rfl) rfl rfl) ?_
 refine zad rfl rfl (zal (.inl rfl) (ev1 rfl)) ?_
 refine zad rfl rfl (qt rfl (ev1 rfl) (fun s v h => by cases h; exact ⟨_, rfl⟩)) ?_
 refine zad rfl rfl (zam rfl jm (ev1 rfl)) ?_
 refine zad rfl rfl (zam rfl y6 (ev1 rfl)) ?_
 refine zad rfl rfl (zan rfl tb3 (ev1 rfl) rfl rfl) ?_
 refine zad rfl rfl (zaj [] [] [] rfl (ev1 rfl) (ec (ev1 rfl) (ec (ev1 rfl) en)) rfl rfl (qaA (bAt B 0) (bAt B 1) hm) rfl rfl rfl rfl rfl rfl) ?_
 refine zad rfl rfl (zal (.inl rfl) (ev1 rfl)) ?_
 refine zad rfl rfl (jN rfl (ev1 rfl) rfl) ?_
 refine zad rfl rfl (jN rfl (ev1 rfl) rfl) ?_
 refine zad rfl rfl (zal (.inr rfl) (ev1 rfl)) ?_
 refine zad rfl rfl (zal (.inr rfl) (ev1 rfl)) ?_
 refine qk ?_
 refine zah ?_
 refine zaa 1 rfl ?_
 refine za rfl (qT rfl (ev1 rfl) (ev1 rfl)) ?_
 refine zab ?_
 refine qJ rfl (rfl) ?_
 refine zac ?_
 refine za rfl (k8 rfl GW zS) ?_
 refine za rfl (xy rfl zQ (ev1 rfl)) ?_
 refine ky rfl (wg rfl (ev1 rfl)) rfl ?_
 refine vh (Mo := [_]) [0] rfl rfl ?_ ⟨rfl, trivial⟩ rfl
 rfl
theorem Xb (us : List TL) (t : TL) : us.flatMap tc ++ ([Value.agg (tc t).toArray].flatMap fun v => v.cells.toList) = (us ++ [t]).flatMap tc := by
 rw [At, List.flatMap_append]
 congr 1
 exact (qci _).symm
theorem Xc (B : List Int) (hB : B.length ≤ 4000000000000000000) (w h : Int) (us : List TL) (hu : us.length ≤ 5000) (hi : isB B) (t : TL) (p : Nat) (hp : p ≤ B.length) (hz : (p < B.length ∧ bAt B p = 0)) : DFun Tryz.prog 122 [.loc 0 0, tD t] [.mix 158 [.val (.int .i64 w), .val (.int .i64 h), .arr 1, .slf 1 (B).length ((B).flatMap uc8), .val (.int .i64 (p : Int))], .arr 84 256 (us).length ((us).flatMap tc)] (.tup []) [.mix 158 [.val (.int .i64 w), .val (.int .i64 h), .arr 2, .slf 1 (B).length ((B).flatMap uc8), .val (.int .i64 ((p + 1 : Nat) : Int))], .gone, .arr 84 256 ((us ++ [t])).length (((us ++ [t])).flatMap tc)] := by
 refine zap (N := 55) 2 (by kernel_rfl) Tryz.func122 rfl rfl rfl (by simp only [fr0, qbs, qbt]; exact rfl) rfl fun s0 hs0 => ?_
 refine zae ?_
 refine zao 1 ?_
 refine zac ?_
 refine zak rfl (gK 2 rfl (ev1 rfl) rfl) ?_
 refine zab ?_
 refine zae ?_
 refine zao 1 ?_
 refine zac ?_
 refine za rfl (kT rfl jt (ev1 rfl) rfl (qA _)) ?_
 refine zak rfl (zaq 3 rfl yU rfl) ?_
 refine zas rfl (qY rfl jt (ev1 rfl) (ev1 rfl) rfl (qA _) (yx _) ((qA _).trans (qA _).symm)) ?_
 refine zab ?_
 refine zae ?_
 refine zae ?_
 refine qg [([], []), ([], []), ([], []), ([0], []), ([], []), ([], []), ([], []), ([0], []), ([], []), ([], []), ([], []), ([], []), ([], []), ([], []), ([0], []), ([], []), ([], []), ([], []), ([0], []), ([], []), ([], []), ([], []), ([], [])] qP (by kernel_rfl) ?_
 refine zad rfl rfl (zal (.inl rfl) (ev1 rfl)) ?_
 refine zad rfl rfl (qt rfl (ev1 rfl) (fun s v h => by cases h; exact ⟨_, rfl⟩)) ?_
 refine zad rfl rfl (zam rfl jc (ev1 rfl)) ?_
 refine zad rfl rfl (zan rfl tb3 (ev1 rfl) rfl rfl) ?_
 refine zad rfl rfl (zal (.inl rfl) (ev1 rfl)) ?_
 refine zad rfl rfl (qt rfl (ev1 rfl) (fun s v h => by cases h; exact ⟨_, rfl⟩)) ?_
 refine zad rfl rfl (zam rfl j9 (ev1 rfl)) ?_
 refine zad rfl rfl (zan rfl kD (ev1 rfl) rfl rfl) ?_
 refine zad rfl rfl (qE rfl qG (ev1 rfl)) ?_
 refine zad rfl rfl (qv rfl (ev1 rfl) (ev1 rfl)) ?_
 refine zad rfl rfl (zal (.inl rfl) (ev1 rfl)) ?_
 refine qj (qn rfl rfl rfl) rfl rfl (zal (.inl rfl) (ev1 rfl)) ?_
 refine qj (qn rfl rfl rfl) rfl rfl (qt rfl (ev2 rfl) (fun s v h => by cases h; exact ⟨_, rfl⟩)) ?_
 refine qj (qn rfl rfl rfl) rfl rfl (zam rfl j9 (ev2 rfl)) ?_
 refine qj (qn rfl rfl rfl) rfl rfl (zan rfl kD (ev2 rfl) rfl rfl) ?_
 refine qj (qn rfl rfl rfl) rfl rfl (zal (.inl rfl) (ev1 rfl)) ?_
 refine qj (qn rfl rfl rfl) rfl rfl (qt rfl (ev2 rfl) (fun s v h => by cases h; exact ⟨_, rfl⟩)) ?_
 refine qj (qn rfl rfl rfl) rfl rfl (zam rfl jc (ev2 rfl)) ?_
 refine qj (qn rfl rfl rfl) rfl rfl (zan rfl tb3 (ev2 rfl) rfl rfl) ?_
 refine qj (qn rfl rfl rfl) rfl rfl (xW (j := p) ((0 : Int)) rfl qG (ev2 rfl) (ev2 rfl) (fun _ => rfl) (by decide) (fun hp => by first | omega | (simp at hp; omega)) (fun hp => by first | omega | (simp at hp; omega))) ?_
 refine qj (qn rfl rfl rfl) rfl rfl (ke rfl tb5 (ev2 rfl) rfl) ?_
 refine qj (qn rfl rfl rfl) rfl rfl (qm rfl (ev2 rfl) (ev1 rfl)) ?_
 refine zad rfl rfl (qC rfl (ev1 rfl) (ev3 rfl id)) ?_
 refine qk ?_
 refine qJ rfl (by
 have h2 : B[p]?.getD 0 = 0 := by rw [← qbV]; exact hz.2
 simp [h2]
 omega) ?_
 refine zac ?_
 refine zaa 1 rfl ?_
 refine za rfl (qt rfl (ev1 rfl) (fun s v h => by cases h; exact ⟨_, rfl⟩)) ?_
 refine za rfl (zam rfl jc (ev1 rfl)) ?_
 refine za rfl (zan rfl tb3 (ev1 rfl) rfl rfl) ?_
 refine za rfl (ql rfl (ev1 rfl) (ev1 rfl) (fun _ => qbB _ (by omega))) ?_
 refine za rfl (qt rfl (ev1 rfl) (fun s v h => by cases h; exact ⟨_, rfl⟩)) ?_
 refine za rfl (zam rfl jc (ev1 rfl)) ?_
 refine zas rfl (kJ rfl tb3 (ev1 rfl) (ev1 rfl) (fun s v h => by cases h <;> exact ⟨rfl, rfl⟩) rfl (by first | decide | exact qbA rfl | simp)) ?_
 refine zab ?_
 refine zao 2 ?_
 refine qg [([], []), ([], []), ([], []), ([], []), ([], []), ([0], []), ([3], []), ([4], [4]), ([1, 5, 4], [1, 5]), ([], []), ([], []), ([], []), ([0], [0])] qP (by kernel_rfl) ?_
 refine zad rfl rfl (zal (.inl rfl) (ev1 rfl)) ?_
 refine zad rfl rfl (zal (.inl rfl) (ev1 rfl)) ?_
 refine zad rfl rfl (qt rfl (ev1 rfl) (fun s v h => by cases h; exact ⟨_, rfl⟩)) ?_
 refine zad rfl rfl (zam rfl jm (ev1 rfl)) ?_
 refine zad rfl rfl (zam rfl yw (ev1 rfl)) ?_
 refine zad rfl rfl (zan rfl xI (ev1 rfl) rfl rfl) ?_
 refine zad rfl rfl (kT rfl jt (ev1 rfl) rfl (qA _)) ?_
 refine gE rfl rfl (zx (ps := [(0, .tmp 49)]) 4 rfl ul yU rfl (vc (ev1 rfl) vn) (As _) (by decide) (by decide) rfl) rfl (by simp only [upd, zaf, zag]; exact rfl) ?_
 refine gE rfl rfl (vC (j := 5) rfl ul yU rfl (ev1 rfl) (ev1 rfl) (Jx rfl) rfl rfl (fun _ => UX _) (fun _ => ⟨by omega, by omega⟩)) rfl (by simp only [upd, zaf, zag]; exact rfl) ?_
 refine zad rfl rfl (qt rfl (ev1 rfl) (fun s v h => by cases h; exact ⟨_, rfl⟩)) ?_
 refine zad rfl rfl (zam rfl jm (ev1 rfl)) ?_
 refine zad rfl rfl (zam rfl yw (ev1 rfl)) ?_
 refine j0 rfl rfl (kJ rfl xI (ev1 rfl) (ev1 rfl) (fun s v h => by cases h <;> exact ⟨rfl, rfl⟩) rfl (by first | decide | exact qbA rfl | simp)) rfl (by simp only [upd, zaf, zag]; exact rfl) ?_
 refine qk ?_
 refine ko [0, 1, 5] (qH rfl) rfl rfl ?_ ⟨rfl, rfl, vF (by rw [qbz]; rfl) (Xb us t), trivial⟩
 rfl
theorem Xd (B : List Int) (hB : B.length ≤ 4000000000000000000) (w h : Int) (us : List TL) (hu : us.length ≤ 5000) (hi : isB B) (t : TL) (p : Nat) (hp : p ≤ B.length) (hz : ¬ (p < B.length ∧ bAt B p = 0)) (l : List C4) (q : Nat) (h0 : rdN B p = some (l, q)) (hne : jn l ≠ t) : DFun Tryz.prog 122 [.loc 0 0, tD t] [.mix 158 [.val (.int .i64 w), .val (.int .i64 h), .arr 1, .slf 1 (B).length ((B).flatMap uc8), .val (.int .i64 (p : Int))], .arr 84 256 (us).length ((us).flatMap tc)] (.tup []) [.mix 158 [.val (.int .i64 w), .val (.int .i64 h), .arr 2, .slf 1 (B).length ((B).flatMap uc8), .val (.int .i64 ((q : Nat) : Int))], .gone, .arr 84 256 ((us ++ [jn l])).length (((us ++ [jn l])).flatMap tc)] := by
 refine zap (N := 55) 2 (by kernel_rfl) Tryz.func122 rfl rfl rfl (by simp only [fr0, qbs, qbt]; exact rfl) rfl fun s0 hs0 => ?_
 refine zae ?_
 refine zao 1 ?_
 refine zac ?_
 refine zak rfl (gK 2 rfl (ev1 rfl) rfl) ?_
 refine zab ?_
 refine zae ?_
 refine zao 1 ?_
 refine zac ?_
 refine za rfl (kT rfl jt (ev1 rfl) rfl (qA _)) ?_
 refine zak rfl (zaq 3 rfl yU rfl) ?_
 refine zas rfl (qY rfl jt (ev1 rfl) (ev1 rfl) rfl (qA _) (yx _) ((qA _).trans (qA _).symm)) ?_
 refine zab ?_
 refine zae ?_
 refine zae ?_
 refine qg [([], []), ([], []), ([], []), ([0], []), ([], []), ([], []), ([], []), ([0], []), ([], []), ([], []), ([], []), ([], []), ([], []), ([], []), ([0], []), ([], []), ([], []), ([], []), ([0], []), ([], []), ([], []), ([], []), ([], [])] qP (by kernel_rfl) ?_
 refine zad rfl rfl (zal (.inl rfl) (ev1 rfl)) ?_
 refine zad rfl rfl (qt rfl (ev1 rfl) (fun s v h => by cases h; exact ⟨_, rfl⟩)) ?_
 refine zad rfl rfl (zam rfl jc (ev1 rfl)) ?_
 refine zad rfl rfl (zan rfl tb3 (ev1 rfl) rfl rfl) ?_
 refine zad rfl rfl (zal (.inl rfl) (ev1 rfl)) ?_
 refine zad rfl rfl (qt rfl (ev1 rfl) (fun s v h => by cases h; exact ⟨_, rfl⟩)) ?_
 refine zad rfl rfl (zam rfl j9 (ev1 rfl)) ?_
 refine zad rfl rfl (zan rfl kD (ev1 rfl) rfl rfl) ?_
 refine zad rfl rfl (qE rfl qG (ev1 rfl)) ?_
 refine zad rfl rfl (qv rfl (ev1 rfl) (ev1 rfl)) ?_
 refine zad rfl rfl (zal (.inl rfl) (ev1 rfl)) ?_
 refine qj (qn rfl rfl rfl) rfl rfl (zal (.inl rfl) (ev1 rfl)) ?_
 refine qj (qn rfl rfl rfl) rfl rfl (qt rfl (ev2 rfl) (fun s v h => by cases h; exact ⟨_, rfl⟩)) ?_
 refine qj (qn rfl rfl rfl) rfl rfl (zam rfl j9 (ev2 rfl)) ?_
 refine qj (qn rfl rfl rfl) rfl rfl (zan rfl kD (ev2 rfl) rfl rfl) ?_
 refine qj (qn rfl rfl rfl) rfl rfl (zal (.inl rfl) (ev1 rfl)) ?_
 refine qj (qn rfl rfl rfl) rfl rfl (qt rfl (ev2 rfl) (fun s v h => by cases h; exact ⟨_, rfl⟩)) ?_
 refine qj (qn rfl rfl rfl) rfl rfl (zam rfl jc (ev2 rfl)) ?_
 refine qj (qn rfl rfl rfl) rfl rfl (zan rfl tb3 (ev2 rfl) rfl rfl) ?_
 refine qj (qn rfl rfl rfl) rfl rfl (xW (j := p) ((0 : Int)) rfl qG (ev2 rfl) (ev2 rfl) (fun _ => rfl) (by decide) (fun hp => by first | omega | (simp at hp; omega)) (fun hp => by first | omega | (simp at hp; omega))) ?_
 refine qj (qn rfl rfl rfl) rfl rfl (ke rfl tb5 (ev2 rfl) rfl) ?_
 refine qj (qn rfl rfl rfl) rfl rfl (qm rfl (ev2 rfl) (ev1 rfl)) ?_
 refine zad rfl rfl (qC rfl (ev1 rfl) (ev3 rfl id)) ?_
 refine qk ?_
 refine qc rfl (by
 rw [Bool.eq_false_iff]
 intro h
 simp at h
 exact hz ⟨by omega, by unfold bAt; rw [qbV]; exact h.2⟩) ?_
 refine zah ?_
 refine zaa 1 rfl ?_
 refine zak rfl (zaj [0, 1] [] [] rfl (ev1 rfl) (ec (ev1 rfl) en) rfl rfl (Vb B hB w h us hu hi p hp l q h0) rfl rfl rfl rfl rfl rfl) ?_
 refine zas rfl (qY rfl jt (ev1 rfl) (ev1 rfl) rfl (qA _) (yx _) ((qA _).trans (qA _).symm)) ?_
 refine zab ?_
 refine zah ?_
 refine za rfl (kT rfl jt (ev1 rfl) rfl (qA _)) ?_
 refine za rfl (kT rfl jt (ev1 rfl) rfl (qA _)) ?_
 refine za rfl (vE eq84 rfl gd84 jt (ev1 rfl) (ev1 rfl)) ?_
 refine zab ?_
 refine qc rfl (by simpa using hne) ?_
 refine zar ?_
 refine zao 2 ?_
 refine qg [([], []), ([], []), ([], []), ([], []), ([], []), ([0], []), ([3], []), ([4], [4]), ([1, 5, 4], [1, 5]), ([], []), ([], []), ([], []), ([0], [0])] qP (by kernel_rfl) ?_
 refine zad rfl rfl (zal (.inl rfl) (ev1 rfl)) ?_
 refine zad rfl rfl (zal (.inl rfl) (ev1 rfl)) ?_
 refine zad rfl rfl (qt rfl (ev1 rfl) (fun s v h => by cases h; exact ⟨_, rfl⟩)) ?_
 refine zad rfl rfl (zam rfl jm (ev1 rfl)) ?_
 refine zad rfl rfl (zam rfl yw (ev1 rfl)) ?_
 refine zad rfl rfl (zan rfl xI (ev1 rfl) rfl rfl) ?_
 refine zad rfl rfl (kT rfl jt (ev1 rfl) rfl (qA _)) ?_
 refine gE rfl rfl (zx (ps := [(0, .tmp 49)]) 4 rfl ul yU rfl (vc (ev1 rfl) vn) (As _) (by decide) (by decide) rfl) rfl (by simp only [upd, zaf, zag]; exact rfl) ?_
 refine gE rfl rfl (vC (j := 5) rfl ul yU rfl (ev1 rfl) (ev1 rfl) (Jx rfl) rfl rfl (fun _ => UX _) (fun _ => ⟨by omega, by omega⟩)) rfl (by simp only [upd, zaf, zag]; exact rfl) ?_
 refine zad rfl rfl (qt rfl (ev1 rfl) (fun s v h => by cases h; exact ⟨_, rfl⟩)) ?_
 refine zad rfl rfl (zam rfl jm (ev1 rfl)) ?_
 refine zad rfl rfl (zam rfl yw (ev1 rfl)) ?_
 refine j0 rfl rfl (kJ rfl xI (ev1 rfl) (ev1 rfl) (fun s v h => by cases h <;> exact ⟨rfl, rfl⟩) rfl (by first | decide | exact qbA rfl | simp)) rfl (by simp only [upd, zaf, zag]; exact rfl) ?_
 refine qk ?_
 refine ko [0, 1, 5] (qH rfl) rfl rfl ?_ ⟨rfl, rfl, vF (by rw [qbz]; rfl) (Xb us (jn l)), trivial⟩
 rfl
theorem ZZ (B : List Int) (hB : B.length ≤ 4000000000000000000) (w h : Int) (us : List TL) (hu : us.length ≤ 5000) (hi : isB B) (t : TL) (p : Nat) (hp : p ≤ B.length) (hz : ¬ (p < B.length ∧ bAt B p = 0)) (h0 : rdN B p = none) : DPanL Tryz.prog 122 [.loc 0 0, tD t] [.mix 158 [.val (.int .i64 w), .val (.int .i64 h), .arr 1, .slf 1 (B).length ((B).flatMap uc8), .val (.int .i64 (p : Int))], .arr 84 256 (us).length ((us).flatMap tc)] (.ifc 181 (.val (.agg #[]))) := by
 refine zap (N := 55) 2 (by kernel_rfl) Tryz.func122 rfl rfl rfl (by simp only [fr0, qbs, qbt]; exact rfl) rfl fun s0 hs0 => ?_
 refine zae ?_
 refine zao 1 ?_
 refine zac ?_
 refine zak rfl (gK 2 rfl (ev1 rfl) rfl) ?_
 refine zab ?_
 refine zae ?_
 refine zao 1 ?_
 refine zac ?_
 refine za rfl (kT rfl jt (ev1 rfl) rfl (qA _)) ?_
 refine zak rfl (zaq 3 rfl yU rfl) ?_
 refine zas rfl (qY rfl jt (ev1 rfl) (ev1 rfl) rfl (qA _) (yx _) ((qA _).trans (qA _).symm)) ?_
 refine zab ?_
 refine zae ?_
 refine zae ?_
 refine qg [([], []), ([], []), ([], []), ([0], []), ([], []), ([], []), ([], []), ([0], []), ([], []), ([], []), ([], []), ([], []), ([], []), ([], []), ([0], []), ([], []), ([], []), ([], []), ([0], []), ([], []), ([], []), ([], []), ([], [])] qP (by kernel_rfl) ?_
 refine zad rfl rfl (zal (.inl rfl) (ev1 rfl)) ?_
 refine zad rfl rfl (qt rfl (ev1 rfl) (fun s v h => by cases h; exact ⟨_, rfl⟩)) ?_
 refine zad rfl rfl (zam rfl jc (ev1 rfl)) ?_
 refine zad rfl rfl (zan rfl tb3 (ev1 rfl) rfl rfl) ?_
 refine zad rfl rfl (zal (.inl rfl) (ev1 rfl)) ?_
 refine zad rfl rfl (qt rfl (ev1 rfl) (fun s v h => by cases h; exact ⟨_, rfl⟩)) ?_
 refine zad rfl rfl (zam rfl j9 (ev1 rfl)) ?_
 refine zad rfl rfl (zan rfl kD (ev1 rfl) rfl rfl) ?_
 refine zad rfl rfl (qE rfl qG (ev1 rfl)) ?_
 refine zad rfl rfl (qv rfl (ev1 rfl) (ev1 rfl)) ?_
 refine zad rfl rfl (zal (.inl rfl) (ev1 rfl)) ?_
 refine qj (qn rfl rfl rfl) rfl rfl (zal (.inl rfl) (ev1 rfl)) ?_
 refine qj (qn rfl rfl rfl) rfl rfl (qt rfl (ev2 rfl) (fun s v h => by cases h; exact ⟨_, rfl⟩)) ?_
 refine qj (qn rfl rfl rfl) rfl rfl (zam rfl j9 (ev2 rfl)) ?_
 refine qj (qn rfl rfl rfl) rfl rfl (zan rfl kD (ev2 rfl) rfl rfl) ?_
 refine qj (qn rfl rfl rfl) rfl rfl (zal (.inl rfl) (ev1 rfl)) ?_
 refine qj (qn rfl rfl rfl) rfl rfl (qt rfl (ev2 rfl) (fun s v h => by cases h; exact ⟨_, rfl⟩)) ?_
 refine qj (qn rfl rfl rfl) rfl rfl (zam rfl jc (ev2 rfl)) ?_
 refine qj (qn rfl rfl rfl) rfl rfl (zan rfl tb3 (ev2 rfl) rfl rfl) ?_
 refine qj (qn rfl rfl rfl) rfl rfl (xW (j := p) ((0 : Int)) rfl qG (ev2 rfl) (ev2 rfl) (fun _ => rfl) (by decide) (fun hp => by first | omega | (simp at hp; omega)) (fun hp => by first | omega | (simp at hp; omega))) ?_
 refine qj (qn rfl rfl rfl) rfl rfl (ke rfl tb5 (ev2 rfl) rfl) ?_
 refine qj (qn rfl rfl rfl) rfl rfl (qm rfl (ev2 rfl) (ev1 rfl)) ?_
 refine zad rfl rfl (qC rfl (ev1 rfl) (ev3 rfl id)) ?_
 refine qk ?_
 refine qc rfl (by
 rw [Bool.eq_false_iff]
 intro h
 simp at h
 exact hz ⟨by omega, by unfold bAt; rw [qbV]; exact h.2⟩) ?_
 refine zah ?_
 refine zaa 1 rfl ?_
 refine ky rfl (qw [0, 1] [] [] rfl (ev1 rfl) (ec (ev1 rfl) en) rfl rfl ((ZY B hB w h us hu hi p hp h0).dead) rfl rfl rfl rfl rfl rfl) rfl ?_
 refine vh (Mo := [_, _]) [0, 1] rfl rfl ?_ ⟨rfl, rfl, trivial⟩ rfl
 rfl
theorem Z0 (B : List Int) (hB : B.length ≤ 4000000000000000000) (w h : Int) (us : List TL) (hu : us.length ≤ 5000) (hi : isB B) (t : TL) (p : Nat) (hp : p ≤ B.length) (hz : ¬ (p < B.length ∧ bAt B p = 0)) (l : List C4) (q : Nat) (h0 : rdN B p = some (l, q)) (hne : jn l = t) : DPanL Tryz.prog 122 [.loc 0 0, tD t] [.mix 158 [.val (.int .i64 w), .val (.int .i64 h), .arr 1, .slf 1 (B).length ((B).flatMap uc8), .val (.int .i64 (p : Int))], .arr 84 256 (us).length ((us).flatMap tc)] (.ifc 181 (.val (.agg #[]))) := by
 refine zap (N := 55) 2 (by kernel_rfl) Tryz.func122 rfl rfl rfl (by simp only [fr0, qbs, qbt]; exact rfl) rfl fun s0 hs0 => ?_
 refine zae ?_
 refine zao 1 ?_
 refine zac ?_
 refine zak rfl (gK 2 rfl (ev1 rfl) rfl) ?_
 refine zab ?_
 refine zae ?_
 refine zao 1 ?_
 refine zac ?_
 refine za rfl (kT rfl jt (ev1 rfl) rfl (qA _)) ?_
 refine zak rfl (zaq 3 rfl yU rfl) ?_
 refine zas rfl (qY rfl jt (ev1 rfl) (ev1 rfl) rfl (qA _) (yx _) ((qA _).trans (qA _).symm)) ?_
 refine zab ?_
 refine zae ?_
 refine zae ?_
 refine qg [([], []), ([], []), ([], []), ([0], []), ([], []), ([], []), ([], []), ([0], []), ([], []), ([], []), ([], []), ([], []), ([], []), ([], []), ([0], []), ([], []), ([], []), ([], []), ([0], []), ([], []), ([], []), ([], []), ([], [])] qP (by kernel_rfl) ?_
 refine zad rfl rfl (zal (.inl rfl) (ev1 rfl)) ?_
 refine zad rfl rfl (qt rfl (ev1 rfl) (fun s v h => by cases h; exact ⟨_, rfl⟩)) ?_
 refine zad rfl rfl (zam rfl jc (ev1 rfl)) ?_
 refine zad rfl rfl (zan rfl tb3 (ev1 rfl) rfl rfl) ?_
 refine zad rfl rfl (zal (.inl rfl) (ev1 rfl)) ?_
 refine zad rfl rfl (qt rfl (ev1 rfl) (fun s v h => by cases h; exact ⟨_, rfl⟩)) ?_
 refine zad rfl rfl (zam rfl j9 (ev1 rfl)) ?_
 refine zad rfl rfl (zan rfl kD (ev1 rfl) rfl rfl) ?_
 refine zad rfl rfl (qE rfl qG (ev1 rfl)) ?_
 refine zad rfl rfl (qv rfl (ev1 rfl) (ev1 rfl)) ?_
 refine zad rfl rfl (zal (.inl rfl) (ev1 rfl)) ?_
 refine qj (qn rfl rfl rfl) rfl rfl (zal (.inl rfl) (ev1 rfl)) ?_
 refine qj (qn rfl rfl rfl) rfl rfl (qt rfl (ev2 rfl) (fun s v h => by cases h; exact ⟨_, rfl⟩)) ?_
 refine qj (qn rfl rfl rfl) rfl rfl (zam rfl j9 (ev2 rfl)) ?_
 refine qj (qn rfl rfl rfl) rfl rfl (zan rfl kD (ev2 rfl) rfl rfl) ?_
 refine qj (qn rfl rfl rfl) rfl rfl (zal (.inl rfl) (ev1 rfl)) ?_
 refine qj (qn rfl rfl rfl) rfl rfl (qt rfl (ev2 rfl) (fun s v h => by cases h; exact ⟨_, rfl⟩)) ?_
 refine qj (qn rfl rfl rfl) rfl rfl (zam rfl jc (ev2 rfl)) ?_
 refine qj (qn rfl rfl rfl) rfl rfl (zan rfl tb3 (ev2 rfl) rfl rfl) ?_
 refine qj (qn rfl rfl rfl) rfl rfl (xW (j := p) ((0 : Int)) rfl qG (ev2 rfl) (ev2 rfl) (fun _ => rfl) (by decide) (fun hp => by first | omega | (simp at hp; omega)) (fun hp => by first | omega | (simp at hp; omega))) ?_
 refine qj (qn rfl rfl rfl) rfl rfl (ke rfl tb5 (ev2 rfl) rfl) ?_
 refine qj (qn rfl rfl rfl) rfl rfl (qm rfl (ev2 rfl) (ev1 rfl)) ?_
 refine zad rfl rfl (qC rfl (ev1 rfl) (ev3 rfl id)) ?_
 refine qk ?_
 refine qc rfl (by
 rw [Bool.eq_false_iff]
 intro h
 simp at h
 exact hz ⟨by omega, by unfold bAt; rw [qbV]; exact h.2⟩) ?_
 refine zah ?_
 refine zaa 1 rfl ?_
 refine zak rfl (zaj [0, 1] [] [] rfl (ev1 rfl) (ec (ev1 rfl) en) rfl rfl (Vb B hB w h us hu hi p hp l q h0) rfl rfl rfl rfl rfl rfl) ?_
 refine zas rfl (qY rfl jt (ev1 rfl) (ev1 rfl) rfl (qA _) (yx _) ((qA _).trans (qA _).symm)) ?_
 refine zab ?_
 refine zah ?_
 refine za rfl (kT rfl jt (ev1 rfl) rfl (qA _)) ?_
 refine za rfl (kT rfl jt (ev1 rfl) rfl (qA _)) ?_
 refine za rfl (vE eq84 rfl gd84 jt (ev1 rfl) (ev1 rfl)) ?_
 refine zab ?_
 refine qJ rfl (by simpa using hne) ?_
 refine zac ?_
 refine za rfl (k8 rfl GW zS) ?_
 refine za rfl (xy rfl zQ (ev1 rfl)) ?_
 refine ky rfl (wg rfl (ev1 rfl)) rfl ?_
 refine vh (Mo := [_, _]) [0, 1] rfl rfl ?_ ⟨rfl, rfl, trivial⟩ rfl
 rfl
end Go.Proofs.YtofklkbfkoliiaaGreat
namespace Go.Proofs.YtofklkbfkoliiaaGreat
set_option linter.unusedVariables false
set_option linter.unusedSimpArgs false
open Go.RowKit
attribute [local irreducible] jn rdP rdN yo
def zrB (B : List Int) (p : Nat) : Bool := decide (p < B.length) && decide (bAt B p = 0)
theorem zrB_iff {B : List Int} {p : Nat} : zrB B p = true ↔ p < B.length ∧ bAt B p = 0 := by unfold zrB; simp
def gg (kn : List TL → TL) (B : List Int) : Nat → List TL → Nat → Option (List TL × Nat)
 | 0, acc, p => some (acc, p)
 | n + 1, acc, p => if zrB B p = true then gg kn B n (acc ++ [kn acc]) (p + 1) else match rdN B p with
  | some x => if jn x.1 = kn acc then none else gg kn B n (acc ++ [jn x.1]) x.2
  | none => none
theorem JT {B : List Int} {p q : Nat} {l : List C4} (h : rdN B p = some (l, q)) : q ≤ B.length ∧ p ≤ q ∧ l.length = 64 := by
 unfold rdN at h
 exact Qc h
theorem zd (kn : List TL → TL) (B : List Int) : ∀ (n : Nat) (acc : List TL) (p : Nat), p ≤ B.length → Km kn n acc (B.drop p) = (gg kn B n acc p).map fun x => (x.1, B.drop x.2)
 | 0, _, _, _ => rfl
 | n + 1, acc, p, h => by
  have hz : (B.drop p).head? = some 0 ↔ zrB B p = true := by
   rw [zrB_iff]
   by_cases hp : p < B.length
   ·rw [jr hp]
    simp [hp]
   ·rw [List.drop_eq_nil_of_le (by omega)]
    simp
    omega
  rw [Km, gg]
  by_cases hc : zrB B p = true
  ·rw [if_pos (hz.2 hc), if_pos hc, List.drop_drop]
   exact zd kn B n _ (p + 1) (zrB_iff.1 hc).1
  ·rw [if_neg (fun e => hc (hz.1 e)), if_neg hc, rdN_T h]
   cases hx : rdN B p with
   | none => rfl
   | some x =>
    obtain ⟨l, q⟩ := x
    simp only [Option.map_some]
    by_cases hk : jn l = kn acc
    ·rw [if_pos hk, if_pos hk]; rfl
    ·rw [if_neg hk, if_neg hk]; exact zd kn B n _ q (JT hx).1
theorem Qf {kn : List TL → TL} {B : List Int} {n : Nat} {acc : List TL} {p : Nat} {r : Option (List TL × Nat)} (hn : 0 < n) (hz : zrB B p = true) (h : gg kn B n acc p = r) : gg kn B (n - 1) (acc ++ [kn acc]) (p + 1) = r := by
 cases n with
 | zero => omega
 | succ n => rw [gg, if_pos hz] at h; exact h
theorem Qg {kn : List TL → TL} {B : List Int} {n : Nat} {acc : List TL} {p q : Nat} {l : List C4} {r : Option (List TL × Nat)} (hn : 0 < n) (hz : ¬ zrB B p = true) (h0 : rdN B p = some (l, q)) (hne : jn l ≠ kn acc) (h : gg kn B n acc p = r) : gg kn B (n - 1) (acc ++ [jn l]) q = r := by
 cases n with
 | zero => omega
 | succ n => rw [gg, if_neg hz, h0] at h; simp only at h; rw [if_neg hne] at h; exact h
theorem K5 {kn : List TL → TL} {B : List Int} {n : Nat} {acc : List TL} {p : Nat} {x : List TL × Nat} (hn : 0 < n) (hz : ¬ zrB B p = true) (h : gg kn B n acc p = some x) : ∃ l q, rdN B p = some (l, q) ∧ jn l ≠ kn acc := by
 cases n with
 | zero => omega
 | succ n =>
  rw [gg, if_neg hz] at h
  cases hx : rdN B p with
  | none => rw [hx] at h; cases h
  | some y =>
   obtain ⟨l, q⟩ := y
   rw [hx] at h
   simp only at h
   by_cases hk : jn l = kn acc
   ·rw [if_pos hk] at h; cases h
   ·exact ⟨l, q, rfl, hk⟩
theorem uY {kn : List TL → TL} {B : List Int} : ∀ {n : Nat} {acc : List TL} {p : Nat} {ts : List TL} {q : Nat}, p ≤ B.length → gg kn B n acc p = some (ts, q) → ts.length = acc.length + n ∧ p ≤ q ∧ q ≤ B.length
 | 0, acc, p, ts, q, hp, h => by cases h; exact ⟨rfl, qbM _, hp⟩
 | n + 1, acc, p, ts, q, hp, h => by
  by_cases hz : zrB B p = true
  ·obtain ⟨h1, h2, h3⟩ := uY (zrB_iff.1 hz).1 (Qf (Nat.succ_pos n) hz h)
   exact ⟨by rw [h1, qbz]; simp; omega, by omega, h3⟩
  ·obtain ⟨l, q', h0, hne⟩ := K5 (Nat.succ_pos n) hz h
   obtain ⟨g1, g2, _⟩ := JT h0
   obtain ⟨h1, h2, h3⟩ := uY g1 (Qg (Nat.succ_pos n) hz h0 hne h)
   exact ⟨by rw [h1, qbz]; simp; omega, by omega, h3⟩
theorem K6 {us : List TL} (h : 0 < us.length) : kz us = us[us.length - 1] := by
 unfold kz
 rw [List.getLastD_eq_getLast?, List.getLast?_eq_getElem?, qbr (by omega)]
 rfl
theorem Wq {us : List TL} {k : Nat} (h0 : 0 < k) (h : k ≤ us.length) : kz (us.take k) = us[k - 1] := by
 rw [K6 (by rw [qbS]; omega)]
 simp only [qbS, List.getElem_take]
 congr 1
 omega
theorem qaG (B : List Int) (hB : B.length ≤ 4000000000000000000) (w h : Int) (us : List TL) (hu : us.length ≤ 5000) (hi : isB B) (t : TL) (p : Nat) (hp : p ≤ B.length) (hz : ¬ (p < B.length ∧ bAt B p = 0)) (hno : ∀ l q, rdN B p = some (l, q) → jn l = t) : DPanL Tryz.prog 122 [.loc 0 0, tD t] [.mix 158 [.val (.int .i64 w), .val (.int .i64 h), .arr 1, .slf 1 (B).length ((B).flatMap uc8), .val (.int .i64 (p : Int))], .arr 84 256 (us).length ((us).flatMap tc)] (.ifc 181 (.val (.agg #[]))) := by
 cases h0 : rdN B p with
 | none => exact ZZ B hB w h us hu hi t p hp hz h0
 | some x => exact Z0 B hB w h us hu hi t p hp hz x.1 x.2 h0 (hno _ _ h0)
theorem uZ (B : List Int) (hB : B.length ≤ 4000000000000000000) (w h : Int) (us : List TL) (hu : us.length ≤ 5000) (p : Nat) : DFun Tryz.prog 112 [.val (.int .i64 (us.length : Int)), .loc 2 0] [.mix 158 [.val (.int .i64 w), .val (.int .i64 h), .arr 1, .slf 1 (B).length ((B).flatMap uc8), .val (.int .i64 (p : Int))], .arr 84 256 (us).length ((us).flatMap tc), .mix 146 [.loc 0 0]] (.val (.agg (tc (kz us)).toArray)) [.mix 158 [.val (.int .i64 w), .val (.int .i64 h), .arr 1, .slf 1 (B).length ((B).flatMap uc8), .val (.int .i64 (p : Int))], .arr 84 256 (us).length ((us).flatMap tc), .mix 146 [.loc 0 0]] := by
 refine zap (N := 15) 3 (by kernel_rfl) Tryz.func112 rfl rfl rfl (by simp only [fr0, qbs, qbt]; exact rfl) rfl fun s0 hs0 => ?_
 refine zae ?_
 refine zao 1 ?_
 refine zac ?_
 refine zak rfl (zaq 3 rfl yU rfl) ?_
 refine zab ?_
 refine zae ?_
 refine zah ?_
 refine zaa 1 rfl ?_
 refine za rfl (qm rfl (ev1 rfl) (ev1 rfl)) ?_
 refine zab ?_
 refine qh rfl (fun c1 => ?_) (fun c1 => ?_)
 ·try simp only [decide_eq_true_eq, decide_eq_false_iff_not, beq_iff_eq, bne_iff_ne, beq_eq_false_iff_ne, bne_eq_false_iff_eq, qbx, qby, qbu, qbE, qbv, ne_eq, Decidable.not_not, qbQ, qbR] at c1
  obtain rfl : us = [] := qbU (by omega)
  refine zah ?_
  refine za rfl (uf rfl Kk yU) ?_
  refine zas rfl (qY rfl jt (ev1 rfl) (ev1 rfl) rfl (qA _) (yx _) ((qA _).trans (qA _).symm)) ?_
  refine zab ?_
  refine qa ?_
  refine ko [0, 1, 2] (rs1 rfl (yv jt rfl rfl (qA _))) rfl rfl ?_ ⟨rfl, rfl, rfl, trivial⟩
  rfl
 ·try simp only [decide_eq_true_eq, decide_eq_false_iff_not, beq_iff_eq, bne_iff_ne, beq_eq_false_iff_ne, bne_eq_false_iff_eq, qbx, qby, qbu, qbE, qbv, ne_eq, Decidable.not_not, qbQ, qbR] at c1
  refine zar ?_
  refine zah ?_
  refine za rfl (zan rfl Al (ev1 rfl) rfl rfl) ?_
  refine za rfl (qt rfl (ev1 rfl) (fun s v h => by cases h; exact ⟨_, rfl⟩)) ?_
  refine za rfl (zam rfl yw (ev1 rfl)) ?_
  refine za rfl (zan rfl xI (ev1 rfl) rfl rfl) ?_
  refine zaa 1 rfl ?_
  refine za rfl (jV rfl (ev1 rfl) (ev1 rfl) (fun _ => qbB _ (by omega))) ?_
  refine za rfl (Zo (j := us.length - 1) rfl ul (ev1 rfl) (ev1 rfl) rfl (fun _ => by first | rfl | omega) (fun _ => by omega)) ?_
  refine za rfl (Zp rfl jt (ev1 rfl) rfl (qA) (by omega)) ?_
  refine zas rfl (qY rfl jt (ev1 rfl) (ev1 rfl) rfl (qA _) (yx _) ((qA _).trans (qA _).symm)) ?_
  refine zab ?_
  refine qa ?_
  refine ko [0, 1, 2] (rs1 rfl (yv jt rfl rfl (qA _))) rfl rfl ?_ ⟨rfl, rfl, rfl, trivial⟩
  rw [K6 (by omega)]
theorem Z1 (a b : Int) (old : List TL) (k : Nat) (hk : k ≤ old.length) (hl : old.length ≤ 5000) : DFun Tryz.prog 112 [.val (.int .i64 (k : Int)), .loc 0 0] [.mix 146 [.loc 1 0], .mix 24 [.val (.int .i64 a), .val (.int .i64 b), .slf 256 old.length (old.flatMap tc)]] (.val (.agg (tc (kz (old.take k))).toArray)) [.mix 146 [.loc 1 0], .mix 24 [.val (.int .i64 a), .val (.int .i64 b), .slf 256 old.length (old.flatMap tc)]] := by
 refine zap (N := 15) 2 (by kernel_rfl) Tryz.func112 rfl rfl rfl (by simp only [fr0, qbs, qbt]; exact rfl) rfl fun s0 hs0 => ?_
 refine zae ?_
 refine zao 1 ?_
 refine zac ?_
 refine zak rfl (zaq 2 rfl yU rfl) ?_
 refine zab ?_
 refine zae ?_
 refine zah ?_
 refine zaa 1 rfl ?_
 refine za rfl (qm rfl (ev1 rfl) (ev1 rfl)) ?_
 refine zab ?_
 refine qh rfl (fun c1 => ?_) (fun c1 => ?_)
 ·try simp only [decide_eq_true_eq, decide_eq_false_iff_not, beq_iff_eq, bne_iff_ne, beq_eq_false_iff_ne, bne_eq_false_iff_eq, qbx, qby, qbu, qbE, qbv, ne_eq, Decidable.not_not, qbQ, qbR] at c1
  obtain rfl : k = 0 := by omega
  refine zah ?_
  refine za rfl (uf rfl Kk yU) ?_
  refine zas rfl (qY rfl jt (ev1 rfl) (ev1 rfl) rfl (qA _) (yx _) ((qA _).trans (qA _).symm)) ?_
  refine zab ?_
  refine qa ?_
  refine ko [0, 1] (rs1 rfl (yv jt rfl rfl (qA _))) rfl rfl ?_ ⟨rfl, rfl, trivial⟩
  rfl
 ·try simp only [decide_eq_true_eq, decide_eq_false_iff_not, beq_iff_eq, bne_iff_ne, beq_eq_false_iff_ne, bne_eq_false_iff_eq, qbx, qby, qbu, qbE, qbv, ne_eq, Decidable.not_not, qbQ, qbR] at c1
  refine zar ?_
  refine zah ?_
  refine za rfl (zan rfl Al (ev1 rfl) rfl rfl) ?_
  refine za rfl (qt rfl (ev1 rfl) (fun s v h => by cases h; exact ⟨_, rfl⟩)) ?_
  refine za rfl (zam rfl yw (ev1 rfl)) ?_
  refine za rfl (zan rfl xI (ev1 rfl) rfl rfl) ?_
  refine zaa 1 rfl ?_
  refine za rfl (jV rfl (ev1 rfl) (ev1 rfl) (fun _ => qbB _ (by omega))) ?_
  refine za rfl (q0 (j := k - 1) rfl ul (ev1 rfl) (ev1 rfl) qA (by decide) (by omega) (by omega)) ?_
  refine za rfl (xT rfl jt (ev1 rfl) (qA _)) ?_
  refine zas rfl (qY rfl jt (ev1 rfl) (ev1 rfl) rfl (qA _) (yx _) ((qA _).trans (qA _).symm)) ?_
  refine zab ?_
  refine qa ?_
  refine ko [0, 1] (rs1 rfl (yv jt rfl rfl (qA _))) rfl rfl ?_ ⟨rfl, rfl, trivial⟩
  rw [Wq (by omega) hk]
theorem Z2 (a b : Int) (old : List TL)  : DFun Tryz.prog 88 [.loc 0 0] [.mix 24 [.val (.int .i64 a), .val (.int .i64 b), .slf 256 old.length (old.flatMap tc)]] (.fn (.func 112) [] [.loc 1 0]) [.mix 24 [.val (.int .i64 a), .val (.int .i64 b), .slf 256 old.length (old.flatMap tc)], .mix 146 [.loc 0 0]] := by
 refine zap (N := 4) 1 (by kernel_rfl) Tryz.func88 rfl rfl rfl (by simp only [fr0, qbs, qbt]; exact rfl) rfl fun s0 hs0 => ?_
 refine zae ?_
 refine zao 1 ?_
 refine zac ?_
 refine zak rfl (gL 1 rfl (ev1 rfl) (fun s v h => by cases h <;> rfl) rfl) ?_
 refine zaa 1 rfl ?_
 refine zab ?_
 refine zah ?_
 refine za rfl (qV rfl en (ec (ev1 rfl) en)) ?_
 refine zaa 1 rfl ?_
 refine zab ?_
 refine qa ?_
 refine ko [0, 1] (rs1 rfl (qL rfl)) rfl rfl ?_ ⟨rfl, rfl, trivial⟩
 rfl
end Go.Proofs.YtofklkbfkoliiaaGreat
namespace Go.Proofs.YtofklkbfkoliiaaGreat
set_option linter.unusedVariables false
set_option linter.unusedSimpArgs false
open Go.RowKit
attribute [local irreducible] jn rdP rdN yo
theorem Yf (B : List Int) (hB : B.length ≤ 4000000000000000000) (hi : isB B) (w h : Int) (p : Nat) : DFun Tryz.prog 88 [.loc 0 0] [.mix 158 [.val (.int .i64 w), .val (.int .i64 h), .val (.slice none 0 0), .slf 1 (B).length ((B).flatMap uc8), .val (.int .i64 ((p : Int) : Int))]] (.fn (.func 112) [] [.loc 1 0]) [.mix 158 [.val (.int .i64 w), .val (.int .i64 h), .val (.slice none 0 0), .slf 1 (B).length ((B).flatMap uc8), .val (.int .i64 ((p : Int) : Int))], .mix 146 [.loc 0 0]] := by
 refine zap (N := 4) 1 (by kernel_rfl) Tryz.func88 rfl rfl rfl (by simp only [fr0, qbs, qbt]; exact rfl) rfl fun s0 hs0 => ?_
 refine zae ?_
 refine zao 1 ?_
 refine zac ?_
 refine zak rfl (gL 1 rfl (ev1 rfl) (fun s v h => by cases h <;> rfl) rfl) ?_
 refine zaa 1 rfl ?_
 refine zab ?_
 refine zah ?_
 refine za rfl (qV rfl en (ec (ev1 rfl) en)) ?_
 refine zaa 1 rfl ?_
 refine zab ?_
 refine qa ?_
 refine ko [0, 1] (rs1 rfl (qL rfl)) rfl rfl ?_ ⟨rfl, rfl, trivial⟩
 rfl
theorem Z3 (B : List Int) (hB : B.length ≤ 4000000000000000000) (hi : isB B) (w h : Int) (n : Nat) (hm : gW w h = true) (hn : w * h = (n : Int)) (p0 : Nat) (hp0 : p0 ≤ B.length) (ts : List TL) (q : Nat) (h0 : gg kz B n [] p0 = some (ts, q)) : DFun Tryz.prog 99 [.loc 0 0, .fn (.func 112) [] [.loc 1 0]] [.mix 158 [.val (.int .i64 w), .val (.int .i64 h), .val (.slice none 0 0), .slf 1 (B).length ((B).flatMap uc8), .val (.int .i64 ((p0 : Nat) : Int))], .mix 146 [.loc 0 0]] (.tup []) [.mix 158 [.val (.int .i64 w), .val (.int .i64 h), .arr 2, .slf 1 (B).length ((B).flatMap uc8), .val (.int .i64 ((q : Nat) : Int))], .mix 146 [.loc 0 0], .arr 84 256 (ts).length ((ts).flatMap tc)] := by
 have hb := wo hm
 refine zap (N := 28) 2 (by kernel_rfl) Tryz.func99 rfl rfl rfl (by simp only [fr0, qbs, qbt]; exact rfl) rfl fun s0 hs0 => ?_
 refine zah ?_
 refine zaa 1 rfl ?_
 refine za rfl (qV rfl (ec (ev1 rfl) en) en) ?_
 refine zaa 1 rfl ?_
 refine zab ?_
 refine zae ?_
 refine yR (l' := [.val (.int .i64 w), .val (.int .i64 h), .arr 2, .slf 1 (B).length ((B).flatMap uc8), .val (.int .i64 (p0 : Int))]) 0 2 84 256 rfl rfl rfl rfl (by simp only [qbD, qbF, zaf, zag]; exact rfl) ?_
 refine jg 2 JN rfl rfl (by simp only [qbD, qbF, zaf, zag, qbW, qce, qbs, qbt]; exact rfl) ?_
 refine qg [([], []), ([], []), ([], []), ([], []), ([0], []), ([], []), ([], []), ([], []), ([], []), ([0], []), ([], []), ([], [])] qP (by kernel_rfl) ?_
 refine zad rfl rfl (zal (.inl rfl) (ev1 rfl)) ?_
 refine zad rfl rfl (qt rfl (ev1 rfl) (fun s v h => by cases h; exact ⟨_, rfl⟩)) ?_
 refine zad rfl rfl (zam rfl jm (ev1 rfl)) ?_
 refine zad rfl rfl (zam rfl y5 (ev1 rfl)) ?_
 refine zad rfl rfl (zan rfl tb3 (ev1 rfl) rfl rfl) ?_
 refine zad rfl rfl (zal (.inl rfl) (ev1 rfl)) ?_
 refine zad rfl rfl (qt rfl (ev1 rfl) (fun s v h => by cases h; exact ⟨_, rfl⟩)) ?_
 refine zad rfl rfl (zam rfl jm (ev1 rfl)) ?_
 refine zad rfl rfl (zam rfl y6 (ev1 rfl)) ?_
 refine zad rfl rfl (zan rfl tb3 (ev1 rfl) rfl rfl) ?_
 refine zad rfl rfl (yz rfl (ev1 rfl) (ev1 rfl) (fun _ => qbB _ (by omega))) ?_
 refine zad rfl rfl (zal (.inl rfl) (ev1 rfl)) ?_
 refine qk ?_
 refine zat ?_
 refine qI ⟨hs0, rfl⟩ (α := List TL × Nat) (fun x => [(19, .val (.int .i64 (x.1.length : Int)))]) [(1, _), (4, _), (18, _)] (fun x => [(0, .mix 158 [.val (.int .i64 w), .val (.int .i64 h), .arr 2, .slf 1 (B).length ((B).flatMap uc8), .val (.int .i64 ((x.2 : Nat) : Int))]), (2, .arr 84 256 (x.1).length ((x.1).flatMap tc))]) [.hole, _, .hole] (fun x => x.1.length ≤ n ∧ x.2 ≤ B.length ∧ gg kz B (n - x.1.length) x.1 x.2 = some (ts, q)) (fun x => n - x.1.length) ([], p0) [0, 1, 2] (⟨qb3 _, hp0, h0⟩) rfl ⟨rfl, rfl, rfl, trivial⟩ ⟨rfl, trivial⟩ ⟨rfl, rfl, rfl, trivial⟩ ?_
 intro x hx
 simp only [upd, zaf, zag, qbD, qbF]
 obtain ⟨us, p⟩ := x
 obtain ⟨hul, hp, hrd⟩ := hx
 dsimp only at hul hp hrd ⊢
 refine zah ?_
 refine za rfl (qv rfl (ev1 rfl) (ev1 rfl)) ?_
 refine zab ?_
 refine zae ?_
 refine qh rfl (fun c1 => ?_) (fun c1 => ?_)
 ·try simp only [decide_eq_true_eq, decide_eq_false_iff_not, beq_iff_eq, bne_iff_ne, beq_eq_false_iff_ne, bne_eq_false_iff_eq, qbx, qby, qbu, qbE, qbv, ne_eq, Decidable.not_not, qbQ, qbR] at c1
  have hlt : us.length < n := by omega
  refine zar ?_
  refine zae ?_
  refine zat ?_
  refine zah ?_
  refine zaa 2 rfl ?_
  refine zab ?_
  by_cases hz : zrB B p = true
  ·refine zao 1 ?_
   refine zac ?_
   refine zaa 3 rfl ?_
   refine zak rfl (zaj [0, 2, 1] [] [] rfl (ev1 rfl) (ec (ev1 rfl) en) rfl rfl (uZ B hB w h us (by omega) p) rfl rfl rfl rfl rfl rfl) ?_
   refine zak rfl (zaj [0, 2] [] [3] rfl (ev1 rfl) (ec (ev1 rfl) en) rfl rfl (Xc B hB w h us (by omega) hi (kz us) p hp (zrB_iff.1 hz)) rfl rfl rfl rfl rfl rfl) ?_
   refine zab ?_
   refine zac ?_
   refine za rfl (ql rfl (ev1 rfl) (ev1 rfl) (fun _ => qbB _ (by omega))) ?_
   refine zaa 1 rfl ?_
   refine zab ?_
   refine ⟨(us ++ [kz us], p + 1), [0, 1, 3], ⟨by rw [qbz]; exact hlt, (zrB_iff.1 hz).1, by rw [qbz]; exact Qf (n := n - us.length) (by omega) hz hrd⟩, by simp only [qbz, qbW, qce]; omega, rfl, ⟨by rw [qbz]; rfl, rfl, rfl, rfl, trivial⟩, ⟨rfl, rfl, rfl, trivial⟩⟩
  ·obtain ⟨l, q1, hl0, hne⟩ := K5 (n := n - us.length) (by omega) hz hrd
   refine zao 1 ?_
   refine zac ?_
   refine zaa 3 rfl ?_
   refine zak rfl (zaj [0, 2, 1] [] [] rfl (ev1 rfl) (ec (ev1 rfl) en) rfl rfl (uZ B hB w h us (by omega) p) rfl rfl rfl rfl rfl rfl) ?_
   refine zak rfl (zaj [0, 2] [] [3] rfl (ev1 rfl) (ec (ev1 rfl) en) rfl rfl (Xd B hB w h us (by omega) hi (kz us) p hp (fun e => hz (zrB_iff.2 e)) l q1 hl0 hne) rfl rfl rfl rfl rfl rfl) ?_
   refine zab ?_
   refine zac ?_
   refine za rfl (ql rfl (ev1 rfl) (ev1 rfl) (fun _ => qbB _ (by omega))) ?_
   refine zaa 1 rfl ?_
   refine zab ?_
   refine ⟨(us ++ [jn l], q1), [0, 1, 3], ⟨by rw [qbz]; exact hlt, (JT hl0).1, by rw [qbz]; exact Qg (n := n - us.length) (by omega) hz hl0 hne hrd⟩, by simp only [qbz, qbW, qce]; omega, rfl, ⟨by rw [qbz]; rfl, rfl, rfl, rfl, trivial⟩, ⟨rfl, rfl, rfl, trivial⟩⟩
 ·try simp only [decide_eq_true_eq, decide_eq_false_iff_not, beq_iff_eq, bne_iff_ne, beq_eq_false_iff_ne, bne_eq_false_iff_eq, qbx, qby, qbu, qbE, qbv, ne_eq, Decidable.not_not, qbQ, qbR] at c1
  refine qD ?_
  have e0 : n - us.length = 0 := by omega
  rw [e0] at hrd
  have hrd2 : some (us, p) = some (ts, q) := hrd
  cases hrd2
  refine ko [0, 1, 2] (qH rfl) rfl rfl ?_ ⟨rfl, rfl, rfl, trivial⟩
  rfl
theorem Xe (B : List Int) (hB : B.length ≤ 4000000000000000000) (hi : isB B) (w h : Int) (n : Nat) (hm : gW w h = true) (hn : w * h = (n : Int)) (p0 : Nat) (hp0 : p0 ≤ B.length) (h0 : gg kz B n [] p0 = none) : DPanL Tryz.prog 99 [.loc 0 0, .fn (.func 112) [] [.loc 1 0]] [.mix 158 [.val (.int .i64 w), .val (.int .i64 h), .val (.slice none 0 0), .slf 1 (B).length ((B).flatMap uc8), .val (.int .i64 ((p0 : Nat) : Int))], .mix 146 [.loc 0 0]] (.ifc 181 (.val (.agg #[]))) := by
 have hb := wo hm
 refine zap (N := 28) 2 (by kernel_rfl) Tryz.func99 rfl rfl rfl (by simp only [fr0, qbs, qbt]; exact rfl) rfl fun s0 hs0 => ?_
 refine zah ?_
 refine zaa 1 rfl ?_
 refine za rfl (qV rfl (ec (ev1 rfl) en) en) ?_
 refine zaa 1 rfl ?_
 refine zab ?_
 refine zae ?_
 refine yR (l' := [.val (.int .i64 w), .val (.int .i64 h), .arr 2, .slf 1 (B).length ((B).flatMap uc8), .val (.int .i64 (p0 : Int))]) 0 2 84 256 rfl rfl rfl rfl (by simp only [qbD, qbF, zaf, zag]; exact rfl) ?_
 refine jg 2 JN rfl rfl (by simp only [qbD, qbF, zaf, zag, qbW, qce, qbs, qbt]; exact rfl) ?_
 refine qg [([], []), ([], []), ([], []), ([], []), ([0], []), ([], []), ([], []), ([], []), ([], []), ([0], []), ([], []), ([], [])] qP (by kernel_rfl) ?_
 refine zad rfl rfl (zal (.inl rfl) (ev1 rfl)) ?_
 refine zad rfl rfl (qt rfl (ev1 rfl) (fun s v h => by cases h; exact ⟨_, rfl⟩)) ?_
 refine zad rfl rfl (zam rfl jm (ev1 rfl)) ?_
 refine zad rfl rfl (zam rfl y5 (ev1 rfl)) ?_
 refine zad rfl rfl (zan rfl tb3 (ev1 rfl) rfl rfl) ?_
 refine zad rfl rfl (zal (.inl rfl) (ev1 rfl)) ?_
 refine zad rfl rfl (qt rfl (ev1 rfl) (fun s v h => by cases h; exact ⟨_, rfl⟩)) ?_
 refine zad rfl rfl (zam rfl jm (ev1 rfl)) ?_
 refine zad rfl rfl (zam rfl y6 (ev1 rfl)) ?_
 refine zad rfl rfl (zan rfl tb3 (ev1 rfl) rfl rfl) ?_
 refine zad rfl rfl (yz rfl (ev1 rfl) (ev1 rfl) (fun _ => qbB _ (by omega))) ?_
 refine zad rfl rfl (zal (.inl rfl) (ev1 rfl)) ?_
 refine qk ?_
 refine zat ?_
 refine qI ⟨hs0, rfl⟩ (α := List TL × Nat) (fun x => [(19, .val (.int .i64 (x.1.length : Int)))]) [(1, _), (4, _), (18, _)] (fun x => [(0, .mix 158 [.val (.int .i64 w), .val (.int .i64 h), .arr 2, .slf 1 (B).length ((B).flatMap uc8), .val (.int .i64 ((x.2 : Nat) : Int))]), (2, .arr 84 256 (x.1).length ((x.1).flatMap tc))]) [.hole, _, .hole] (fun x => x.1.length ≤ n ∧ x.2 ≤ B.length ∧ gg kz B (n - x.1.length) x.1 x.2 = none) (fun x => n - x.1.length) ([], p0) [0, 1, 2] (⟨qb3 _, hp0, h0⟩) rfl ⟨rfl, rfl, rfl, trivial⟩ ⟨rfl, trivial⟩ ⟨rfl, rfl, rfl, trivial⟩ ?_
 intro x hx
 simp only [upd, zaf, zag, qbD, qbF]
 obtain ⟨us, p⟩ := x
 obtain ⟨hul, hp, hrd⟩ := hx
 dsimp only at hul hp hrd ⊢
 refine zah ?_
 refine za rfl (qv rfl (ev1 rfl) (ev1 rfl)) ?_
 refine zab ?_
 refine zae ?_
 refine qh rfl (fun c1 => ?_) (fun c1 => ?_)
 ·try simp only [decide_eq_true_eq, decide_eq_false_iff_not, beq_iff_eq, bne_iff_ne, beq_eq_false_iff_ne, bne_eq_false_iff_eq, qbx, qby, qbu, qbE, qbv, ne_eq, Decidable.not_not, qbQ, qbR] at c1
  have hlt : us.length < n := by omega
  refine zar ?_
  refine zae ?_
  refine zat ?_
  refine zah ?_
  refine zaa 2 rfl ?_
  refine zab ?_
  by_cases hz : zrB B p = true
  ·refine zao 1 ?_
   refine zac ?_
   refine zaa 3 rfl ?_
   refine zak rfl (zaj [0, 2, 1] [] [] rfl (ev1 rfl) (ec (ev1 rfl) en) rfl rfl (uZ B hB w h us (by omega) p) rfl rfl rfl rfl rfl rfl) ?_
   refine zak rfl (zaj [0, 2] [] [3] rfl (ev1 rfl) (ec (ev1 rfl) en) rfl rfl (Xc B hB w h us (by omega) hi (kz us) p hp (zrB_iff.1 hz)) rfl rfl rfl rfl rfl rfl) ?_
   refine zab ?_
   refine zac ?_
   refine za rfl (ql rfl (ev1 rfl) (ev1 rfl) (fun _ => qbB _ (by omega))) ?_
   refine zaa 1 rfl ?_
   refine zab ?_
   refine ⟨(us ++ [kz us], p + 1), [0, 1, 3], ⟨by rw [qbz]; exact hlt, (zrB_iff.1 hz).1, by rw [qbz]; exact Qf (n := n - us.length) (by omega) hz hrd⟩, by simp only [qbz, qbW, qce]; omega, rfl, ⟨by rw [qbz]; rfl, rfl, rfl, rfl, trivial⟩, ⟨rfl, rfl, rfl, trivial⟩⟩
  ·by_cases hno : ∀ l q, rdN B p = some (l, q) → jn l = kz us
   ·refine zac ?_
    refine zaa 3 rfl ?_
    refine zak rfl (zaj [0, 2, 1] [] [] rfl (ev1 rfl) (ec (ev1 rfl) en) rfl rfl (uZ B hB w h us (by omega) p) rfl rfl rfl rfl rfl rfl) ?_
    refine ky rfl (qw [0, 2] [] [] rfl (ev1 rfl) (ec (ev1 rfl) en) rfl rfl ((qaG B hB w h us (by omega) hi (kz us) p hp (fun e => hz (zrB_iff.2 e)) hno).dead) rfl rfl rfl rfl rfl rfl) rfl ?_
    refine vh (Mo := [_, _]) [0, 1] rfl rfl ?_ ⟨rfl, rfl, trivial⟩ rfl
    rfl
   ·obtain ⟨l, q1, hl0, hne⟩ : ∃ l q, rdN B p = some (l, q) ∧ jn l ≠ kz us := by simpa using hno
    refine zao 1 ?_
    refine zac ?_
    refine zaa 3 rfl ?_
    refine zak rfl (zaj [0, 2, 1] [] [] rfl (ev1 rfl) (ec (ev1 rfl) en) rfl rfl (uZ B hB w h us (by omega) p) rfl rfl rfl rfl rfl rfl) ?_
    refine zak rfl (zaj [0, 2] [] [3] rfl (ev1 rfl) (ec (ev1 rfl) en) rfl rfl (Xd B hB w h us (by omega) hi (kz us) p hp (fun e => hz (zrB_iff.2 e)) l q1 hl0 hne) rfl rfl rfl rfl rfl rfl) ?_
    refine zab ?_
    refine zac ?_
    refine za rfl (ql rfl (ev1 rfl) (ev1 rfl) (fun _ => qbB _ (by omega))) ?_
    refine zaa 1 rfl ?_
    refine zab ?_
    refine ⟨(us ++ [jn l], q1), [0, 1, 3], ⟨by rw [qbz]; exact hlt, (JT hl0).1, by rw [qbz]; exact Qg (n := n - us.length) (by omega) hz hl0 hne hrd⟩, by simp only [qbz, qbW, qce]; omega, rfl, ⟨by rw [qbz]; rfl, rfl, rfl, rfl, trivial⟩, ⟨rfl, rfl, rfl, trivial⟩⟩
 ·have c2 : ¬ ((us.length : Int) < w * h) := by simpa using c1
  have e0 : n - us.length = 0 := by omega
  rw [e0] at hrd
  exact absurd (show some (us, p) = none from hrd) (fun e => by cases e)
end Go.Proofs.YtofklkbfkoliiaaGreat
namespace Go.Proofs.YtofklkbfkoliiaaGreat
set_option linter.unusedVariables false
set_option linter.unusedSimpArgs false
open Go.RowKit
attribute [local irreducible] jn rdP rdN yo gg
theorem Xf (w h : Int) (us : List TL) (n e : Int) : DDef Tryz.prog 96 [.loc 0 0, .loc 1 0, .loc 2 0] [.mix 24 [.val (.int .i64 w), .val (.int .i64 h), .arr 3], .flat 3 [.int .i64 n], .flat 34 [.int .i64 e], .arr 84 256 (us).length ((us).flatMap tc)] none none [.mix 24 [.val (.int .i64 w), .val (.int .i64 h), .arr 3], .flat 3 [.int .i64 n], .flat 34 [.int .i64 e], .arr 84 256 (us).length ((us).flatMap tc)] := by
 refine uJ (dr := .tup []) (t := 3) (N := 6) 4 (by kernel_rfl) Tryz.func96 rfl rfl rfl (by simp only [fr0, qbs, qbt]; exact rfl) rfl rfl rfl rfl rfl fun s0 hs0 => ?_
 refine za rfl (zaj [] [] [] rfl (ev1 rfl) (ec (ev1 rfl) en) rfl rfl (Wn) rfl rfl rfl rfl rfl rfl) ?_
 refine zab ?_
 refine qc rfl (rfl) ?_
 refine zar ?_
 refine ko [0, 1, 2, 3] (qH rfl) rfl rfl ?_ ⟨rfl, rfl, rfl, rfl, trivial⟩
 rfl
theorem uo (n e : Int) : DDef Tryz.prog 96 [.loc 0 0, .loc 1 0, .loc 2 0] [.flat 24 [.int .i64 0, .int .i64 0, .slice none 0 0], .flat 3 [.int .i64 n], .flat 34 [.int .i64 e]] (some (.ifc 181 (.val (.agg #[])))) none [.flat 24 [.int .i64 0, .int .i64 0, .slice none 0 0], .flat 3 [.int .i64 0], .flat 34 [.int .i64 200]] := by
 refine uJ (dr := .tup []) (t := 3) (N := 6) 3 (by kernel_rfl) Tryz.func96 rfl rfl rfl (by simp only [fr0, qbs, qbt]; exact rfl) rfl rfl rfl rfl rfl fun s0 hs0 => ?_
 refine za rfl (zaj [] [] [] rfl (ev1 rfl) (ec (ev1 rfl) en) rfl rfl (U8) rfl rfl rfl rfl rfl rfl) ?_
 refine zab ?_
 refine qJ rfl (rfl) ?_
 refine zac ?_
 refine za rfl (k8 rfl fl24 V6) ?_
 refine zas rfl (qY rfl vV (ev1 rfl) (ev1 rfl) rfl rfl rfl rfl) ?_
 refine zas rfl (qK rfl tb3 (ev1 rfl) (ev1 rfl) rfl) ?_
 refine zas rfl (qK rfl qX (ev1 rfl) (ev1 rfl) rfl) ?_
 refine zab ?_
 refine ko [0, 1, 2] (qH rfl) rfl rfl ?_ ⟨rfl, rfl, rfl, trivial⟩
 rfl
theorem rdc_y (B : List Int) (hB : B.length ≤ 4000000000000000000) (hi : isB B) (n : Nat) (h2 : 0 + 2 ≤ B.length) (hm : gW (bAt B 0) (bAt B 1) = true) (hn : bAt B 0 * bAt B 1 = (n : Int)) (ts : List TL) (q : Nat) (h0 : gg kz B n [] 2 = some (ts, q)) : DFun Tryz.prog 59 [.slf 1 (B).length ((B).flatMap uc8)] [] (.tup [.agg [.val (.int .i64 (bAt B 0)), .val (.int .i64 (bAt B 1)), .arr 0], .val (.int .i64 (q : Nat)), .val (.int .i64 0)]) [.arr 84 256 (ts).length ((ts).flatMap tc)] := by
 refine qo (N := 17) 0 (by kernel_rfl) Tryz.func59 rfl rfl rfl (by simp only [fr0, qbs, qbt]; exact rfl) rfl fun s0 hs0 => ?_
 refine qz rfl hs0 ?_
 refine zao 3 ?_
 refine zac ?_
 refine zak rfl (zaq 0 rfl V6 rfl) ?_
 refine zak rfl (zaq 1 rfl zr3 rfl) ?_
 refine zak rfl (zaq 2 rfl jT rfl) ?_
 refine zab ?_
 refine qr (l0 := [_]) rfl rfl rfl rfl rfl hs0 ?_
 refine za rfl (qV rfl en (ec (ev1 rfl) (ec (ev1 rfl) (ec (ev1 rfl) en)))) ?_
 refine zab ⟨_, _, _, 3, ev1 rfl, qbK hs0 (by decide), rfl, ?_⟩
 have hs1 : s0.M.length ≤ 3 := qbK hs0 (by decide)
 refine qy rfl hs0 ?_
 refine zae ?_
 refine zao 1 ?_
 refine zac ?_
 refine zaa 1 rfl ?_
 refine za rfl (jZ (ps := [(1, .tmp 7)]) rfl Q2 xB (ec (ev1 rfl) en) rfl rfl rfl) ?_
 refine zak rfl (zaq 3 rfl xB rfl) ?_
 refine zas rfl (kw rfl Q5 (ev1 rfl) (ev1 rfl) rfl rfl rfl rfl) ?_
 refine zab ?_
 refine zah ?_
 refine zak rfl (zaj [3] [] [] rfl (ev1 rfl) (ec (ev1 rfl) en) rfl rfl (Ye B hB hi n h2 hm hn) rfl rfl rfl rfl rfl rfl) ?_
 refine zab ?_
 refine zae ?_
 refine zao 2 ?_
 refine zac ?_
 refine za rfl (zam rfl jm (ev1 rfl)) ?_
 refine zak rfl (zaj [3] [] [4] rfl (ev1 rfl) (ec (ev1 rfl) en) rfl rfl (Yf B hB hi (bAt B 0) (bAt B 1) 2) rfl rfl rfl rfl rfl rfl) ?_
 refine zak rfl (zaj [3, 4] [] [5] rfl (ev1 rfl) (ec (ev1 rfl) (ec (ev1 rfl) en)) rfl rfl (Z3 B hB hi (bAt B 0) (bAt B 1) n hm hn 2 h2 ts q h0) rfl rfl rfl rfl rfl rfl) ?_
 refine zab ?_
 refine zae ?_
 refine qg [([], []), ([3], []), ([], []), ([3], []), ([0], [0]), ([1], [1]), ([2], [2])] qP (by kernel_rfl) ?_
 refine zad rfl rfl (zam rfl jm (ev1 rfl)) ?_
 refine zad rfl rfl (uQ rfl vV (ev1 rfl) rfl rfl rfl) ?_
 refine zad rfl rfl (zam rfl jc (ev1 rfl)) ?_
 refine zad rfl rfl (zan rfl tb3 (ev1 rfl) rfl rfl) ?_
 refine j0 rfl rfl (kw rfl vV (ev1 rfl) (ev1 rfl) rfl rfl rfl rfl) rfl (by simp only [upd, zaf, zag]; exact rfl) ?_
 refine j0 rfl rfl (qK rfl tb3 (ev1 rfl) (ev1 rfl) rfl) rfl (by simp only [upd, zaf, zag]; exact rfl) ?_
 refine j0 rfl rfl (qK rfl qX (ev1 rfl) (ev1 rfl) rfl) rfl (by simp only [upd, zaf, zag]; exact rfl) ?_
 refine qk ?_
 refine qa ?_
 refine jH (kL [0, 1, 2, 5] [] rfl rfl (Xf _ _ _ _ _) rfl rfl rfl rfl rfl) ?_
 refine ko [5] (rs3 rfl (y0 vV rfl rfl rfl) (js tb3 rfl rfl rfl) (js qX rfl rfl rfl)) rfl rfl ?_ ⟨rfl, trivial⟩
 rfl
theorem qaH (B : List Int) (hB : B.length ≤ 4000000000000000000) (hi : isB B) (n : Nat) (h2 : 0 + 2 ≤ B.length) (hm : gW (bAt B 0) (bAt B 1) = true) (hn : bAt B 0 * bAt B 1 = (n : Int)) (h0 : gg kz B n [] 2 = none) : DFun Tryz.prog 59 [.slf 1 (B).length ((B).flatMap uc8)] [] (.tup [.val (.agg #[.int .i64 0, .int .i64 0, .slice none 0 0]), .val (.int .i64 0), .val (.int .i64 200)]) [] := by
 refine qo (N := 17) 0 (by kernel_rfl) Tryz.func59 rfl rfl rfl (by simp only [fr0, qbs, qbt]; exact rfl) rfl fun s0 hs0 => ?_
 refine qz rfl hs0 ?_
 refine zao 3 ?_
 refine zac ?_
 refine zak rfl (zaq 0 rfl V6 rfl) ?_
 refine zak rfl (zaq 1 rfl zr3 rfl) ?_
 refine zak rfl (zaq 2 rfl jT rfl) ?_
 refine zab ?_
 refine qr (l0 := [_]) rfl rfl rfl rfl rfl hs0 ?_
 refine za rfl (qV rfl en (ec (ev1 rfl) (ec (ev1 rfl) (ec (ev1 rfl) en)))) ?_
 refine zab ⟨_, _, _, 3, ev1 rfl, qbK hs0 (by decide), rfl, ?_⟩
 have hs1 : s0.M.length ≤ 3 := qbK hs0 (by decide)
 refine qy rfl hs0 ?_
 refine zae ?_
 refine zao 1 ?_
 refine zac ?_
 refine zaa 1 rfl ?_
 refine za rfl (jZ (ps := [(1, .tmp 7)]) rfl Q2 xB (ec (ev1 rfl) en) rfl rfl rfl) ?_
 refine zak rfl (zaq 3 rfl xB rfl) ?_
 refine zas rfl (kw rfl Q5 (ev1 rfl) (ev1 rfl) rfl rfl rfl rfl) ?_
 refine zab ?_
 refine zah ?_
 refine zak rfl (zaj [3] [] [] rfl (ev1 rfl) (ec (ev1 rfl) en) rfl rfl (Ye B hB hi n h2 hm hn) rfl rfl rfl rfl rfl rfl) ?_
 refine zab ?_
 refine zae ?_
 refine zao 1 ?_
 refine zac ?_
 refine za rfl (zam rfl jm (ev1 rfl)) ?_
 refine zak rfl (zaj [3] [] [4] rfl (ev1 rfl) (ec (ev1 rfl) en) rfl rfl (Yf B hB hi (bAt B 0) (bAt B 1) 2) rfl rfl rfl rfl rfl rfl) ?_
 refine ky rfl (qw [3, 4] [] [] rfl (ev1 rfl) (ec (ev1 rfl) (ec (ev1 rfl) en)) rfl rfl ((Xe B hB hi (bAt B 0) (bAt B 1) n hm hn 2 h2 h0).dead) rfl rfl rfl rfl rfl rfl) rfl ?_
 refine jH (qQ [0, 1, 2] [] rfl rfl rfl (uo _ _) rfl rfl rfl rfl rfl) ?_
 refine qx (rs3 rfl (yv vV rfl rfl rfl) (js tb3 rfl rfl rfl) (js qX rfl rfl rfl)) rfl ?_
 rfl
theorem qaI (B : List Int) (hB : B.length ≤ 4000000000000000000) (hi : isB B) (h2 : ¬ 0 + 2 ≤ B.length) : DFun Tryz.prog 59 [.slf 1 (B).length ((B).flatMap uc8)] [] (.tup [.val (.agg #[.int .i64 0, .int .i64 0, .slice none 0 0]), .val (.int .i64 0), .val (.int .i64 200)]) [] := by
 refine qo (N := 17) 0 (by kernel_rfl) Tryz.func59 rfl rfl rfl (by simp only [fr0, qbs, qbt]; exact rfl) rfl fun s0 hs0 => ?_
 refine qz rfl hs0 ?_
 refine zao 3 ?_
 refine zac ?_
 refine zak rfl (zaq 0 rfl V6 rfl) ?_
 refine zak rfl (zaq 1 rfl zr3 rfl) ?_
 refine zak rfl (zaq 2 rfl jT rfl) ?_
 refine zab ?_
 refine qr (l0 := [_]) rfl rfl rfl rfl rfl hs0 ?_
 refine za rfl (qV rfl en (ec (ev1 rfl) (ec (ev1 rfl) (ec (ev1 rfl) en)))) ?_
 refine zab ⟨_, _, _, 3, ev1 rfl, qbK hs0 (by decide), rfl, ?_⟩
 have hs1 : s0.M.length ≤ 3 := qbK hs0 (by decide)
 refine qy rfl hs0 ?_
 refine zae ?_
 refine zao 1 ?_
 refine zac ?_
 refine zaa 1 rfl ?_
 refine za rfl (jZ (ps := [(1, .tmp 7)]) rfl Q2 xB (ec (ev1 rfl) en) rfl rfl rfl) ?_
 refine zak rfl (zaq 3 rfl xB rfl) ?_
 refine zas rfl (kw rfl Q5 (ev1 rfl) (ev1 rfl) rfl rfl rfl rfl) ?_
 refine zab ?_
 refine zah ?_
 refine ky rfl (qw [3] [] [] rfl (ev1 rfl) (ec (ev1 rfl) en) rfl rfl ((U9 B hB hi h2).dead) rfl rfl rfl rfl rfl rfl) rfl ?_
 refine jH (qQ [0, 1, 2] [] rfl rfl rfl (uo _ _) rfl rfl rfl rfl rfl) ?_
 refine qx (rs3 rfl (yv vV rfl rfl rfl) (js tb3 rfl rfl rfl) (js qX rfl rfl rfl)) rfl ?_
 rfl
theorem qaJ (B : List Int) (hB : B.length ≤ 4000000000000000000) (hi : isB B) (h2 : 0 + 2 ≤ B.length) (hm : gW (bAt B 0) (bAt B 1) = false) : DFun Tryz.prog 59 [.slf 1 (B).length ((B).flatMap uc8)] [] (.tup [.val (.agg #[.int .i64 0, .int .i64 0, .slice none 0 0]), .val (.int .i64 0), .val (.int .i64 200)]) [] := by
 refine qo (N := 17) 0 (by kernel_rfl) Tryz.func59 rfl rfl rfl (by simp only [fr0, qbs, qbt]; exact rfl) rfl fun s0 hs0 => ?_
 refine qz rfl hs0 ?_
 refine zao 3 ?_
 refine zac ?_
 refine zak rfl (zaq 0 rfl V6 rfl) ?_
 refine zak rfl (zaq 1 rfl zr3 rfl) ?_
 refine zak rfl (zaq 2 rfl jT rfl) ?_
 refine zab ?_
 refine qr (l0 := [_]) rfl rfl rfl rfl rfl hs0 ?_
 refine za rfl (qV rfl en (ec (ev1 rfl) (ec (ev1 rfl) (ec (ev1 rfl) en)))) ?_
 refine zab ⟨_, _, _, 3, ev1 rfl, qbK hs0 (by decide), rfl, ?_⟩
 have hs1 : s0.M.length ≤ 3 := qbK hs0 (by decide)
 refine qy rfl hs0 ?_
 refine zae ?_
 refine zao 1 ?_
 refine zac ?_
 refine zaa 1 rfl ?_
 refine za rfl (jZ (ps := [(1, .tmp 7)]) rfl Q2 xB (ec (ev1 rfl) en) rfl rfl rfl) ?_
 refine zak rfl (zaq 3 rfl xB rfl) ?_
 refine zas rfl (kw rfl Q5 (ev1 rfl) (ev1 rfl) rfl rfl rfl rfl) ?_
 refine zab ?_
 refine zah ?_
 refine ky rfl (qw [3] [] [] rfl (ev1 rfl) (ec (ev1 rfl) en) rfl rfl ((Xa B hB hi h2 hm).dead) rfl rfl rfl rfl rfl rfl) rfl ?_
 refine jH (qQ [0, 1, 2] [] rfl rfl rfl (uo _ _) rfl rfl rfl rfl rfl) ?_
 refine qx (rs3 rfl (yv vV rfl rfl rfl) (js tb3 rfl rfl rfl) (js qX rfl rfl rfl)) rfl ?_
 rfl
theorem K7 {w h : Int} {ts : List TL} (hr : jl w h ts = true) : gW w h = true := by
 unfold jl at hr
 rw [qbu] at hr
 exact hr.1
end Go.Proofs.YtofklkbfkoliiaaGreat
namespace Go.Proofs.YtofklkbfkoliiaaGreat
set_option linter.unusedVariables false
set_option linter.unusedSimpArgs false
open Go.RowKit
attribute [local irreducible] kP ji yp gI qW
def wZ (t u : TL) : List Int := if t = u then [0] else gI t
theorem z1 (kn : List TL → TL) : ∀ (a acc b : List TL), qW kn acc (a ++ b) = qW kn acc a ++ qW kn (acc ++ a) b
 | [], acc, b => by rw [qbF, qci, qW, qbF]
 | t :: a, acc, b => by
  rw [qbD, qW, qW, z1 kn a (acc ++ [t]) b, qbY, qbY]
  rfl
theorem xD (kn : List TL → TL) {ts : List TL} {k : Nat} (hk : k < ts.length) : qW kn [] (ts.take (k + 1)) = qW kn [] (ts.take k) ++ wZ ts[k] (kn (ts.take k)) := by
 rw [qbP hk, z1, qbF]
 congr 1
 rw [qW, qW, qci]
 rfl
theorem K8 (t : TL) : (gI t).length ≤ 320 := by
 have h1 := uW t.l
 have h2 := t.h
 unfold gI
 rw [zW]
 omega
theorem Wr (t u : TL) : (wZ t u).length ≤ 320 := by
 unfold wZ
 split
 ·simp
 ·exact K8 t
theorem uq (kn : List TL → TL) : ∀ (ts acc : List TL), (qW kn acc ts).length ≤ ts.length * 320
 | [], _ => by rw [qW]; simp
 | t :: ts, acc => by
  have h1 := uq kn ts (acc ++ [t])
  have h2 := Wr t (kn acc)
  unfold wZ at h2
  rw [qW, qbz, qbW]
  omega
theorem ur (kn : List TL → TL) (acc : List TL) : qW kn acc [] = [] := by rw [qW]
theorem Av (out b : List Int) : out.flatMap uc8 ++ b.flatMap uc8 = (out ++ b).flatMap uc8 := by rw [List.flatMap_append]
theorem Z4 (a b : Int) (old : List TL) (k : Nat) (hk : k ≤ old.length) (hl : old.length ≤ 5000) (out : List Int) (hout : out.length ≤ 100000) (t : TL) : DFun Tryz.prog 110 [.arr 0, .val (.int .i64 (k : Int)), tD t, .loc 1 0] [.arr 5 1 (out).length ((out).flatMap uc8), .mix 144 [.fn (.func 112) [] [.loc 2 0]], .mix 146 [.loc 3 0], .mix 24 [.val (.int .i64 a), .val (.int .i64 b), .slf 256 old.length (old.flatMap tc)]] (.arr 4) [.gone, .mix 144 [.fn (.func 112) [] [.loc 2 0]], .mix 146 [.loc 3 0], .mix 24 [.val (.int .i64 a), .val (.int .i64 b), .slf 256 old.length (old.flatMap tc)], .arr 5 1 ((out ++ wZ t (kz (old.take k)))).length (((out ++ wZ t (kz (old.take k)))).flatMap uc8)] := by
 have htl := K8 t
 refine zap (N := 20) 4 (by kernel_rfl) Tryz.func110 rfl rfl rfl (by simp only [fr0, qbs, qbt]; exact rfl) rfl fun s0 hs0 => ?_
 refine GE (i := 0) rfl fun hl0 hL0 => ?_
 refine zae ?_
 refine zao 1 ?_
 refine zac ?_
 refine zak rfl (gK 4 rfl (ev1 rfl) rfl) ?_
 refine zaa 1 rfl ?_
 refine zab ?_
 refine zae ?_
 refine zae ?_
 refine qg [([4], []), ([1], []), ([], []), ([2, 3], [2, 3]), ([], [])] qP (by kernel_rfl) ?_
 refine zad rfl rfl (kT rfl jt (ev1 rfl) rfl (qA _)) ?_
 refine zad rfl rfl (zan rfl tb144 (ev1 rfl) rfl rfl) ?_
 refine zad rfl rfl (zal (.inl rfl) (ev1 rfl)) ?_
 refine gE rfl rfl (zaj [2, 3] [] [] rfl (ev1 rfl) (ec (ev1 rfl) en) rfl rfl (Z1 a b old k hk hl) rfl rfl rfl rfl rfl rfl) rfl (by simp only [upd, zaf, zag]; exact rfl) ?_
 refine zad rfl rfl (vE eq84 rfl gd84 jt (ev1 rfl) (ev1 rfl)) ?_
 refine qk ?_
 refine qh rfl (fun c1 => ?_) (fun c1 => ?_)
 ·have c2 : t = (kz (old.take k)) := by simpa using c1
  refine zae ?_
  refine zao 2 ?_
  refine zac ?_
  refine zaa 1 rfl ?_
  refine zak rfl (zx (ps := [(0, .const (.int .u8 0))]) 5 rfl qG zr5 rfl (vc (ev1 rfl) vn) rfl (by decide) (by decide) rfl) ?_
  refine zak rfl (vC (j := 6) rfl qG zr5 rfl (ev1 rfl) (ev1 rfl) (Jx rfl) rfl rfl (fun _ => rfl) (fun _ => ⟨by omega, by omega⟩)) ?_
  refine zaa 1 rfl ?_
  refine zab ?_
  refine qa ?_
  refine ko [0, 1, 2, 3, 6] (rs1 rfl (qL rfl)) rfl rfl ?_ ⟨rfl, rfl, rfl, rfl, vF (by unfold wZ; rw [if_pos c2, qbz]; rfl) (by unfold wZ; rw [if_pos c2, ← Av]; rfl), trivial⟩
  rfl
 ·have c2 : t ≠ (kz (old.take k)) := by simpa using c1
  refine zar ?_
  refine zae ?_
  refine zao 1 ?_
  refine zac ?_
  refine zaa 1 rfl ?_
  refine za rfl (kT rfl jt (ev1 rfl) rfl (qA _)) ?_
  refine za rfl (zaj [] [] [] rfl (ev1 rfl) (ec (ev1 rfl) en) rfl rfl (ZX t) rfl rfl rfl rfl rfl rfl) ?_
  refine zak rfl (vC (j := 5) rfl qG zr5 rfl (ev1 rfl) (ev1 rfl) yY rfl rfl (fun _ => yB (fun _ => rfl) _) (fun _ => ⟨by omega, by omega⟩)) ?_
  refine zaa 1 rfl ?_
  refine zab ?_
  refine qa ?_
  refine ko [0, 1, 2, 3, 5] (rs1 rfl (qL rfl)) rfl rfl ?_ ⟨rfl, rfl, rfl, rfl, vF (by unfold wZ; rw [if_neg c2, qbz]) (by unfold wZ; rw [if_neg c2, ← Av]), trivial⟩
  rfl
theorem qaK (a b : Int) (old : List TL) (hl : old.length ≤ 100)  : DFun Tryz.prog 109 [.slf 256 old.length (old.flatMap tc), .arr 0, .fn (.func 110) [] [.loc 1 0]] [.arr 5 1 (([a, b] : List Int)).length ((([a, b] : List Int)).flatMap uc8), .mix 144 [.fn (.func 112) [] [.loc 2 0]], .mix 146 [.loc 3 0], .mix 24 [.val (.int .i64 a), .val (.int .i64 b), .slf 256 old.length (old.flatMap tc)]] (.arr 4) [.gone, .mix 144 [.fn (.func 112) [] [.loc 2 0]], .mix 146 [.loc 3 0], .mix 24 [.val (.int .i64 a), .val (.int .i64 b), .slf 256 old.length (old.flatMap tc)], .arr 5 1 (([a, b] ++ qW kz [] old)).length ((([a, b] ++ qW kz [] old)).flatMap uc8)] := by
 refine zap (N := 23) 4 (by kernel_rfl) Tryz.func109 rfl rfl rfl (by simp only [fr0, qbs, qbt]; exact rfl) rfl fun s0 hs0 => ?_
 refine jY (t := 0) rfl fun hl0 hL0 => ?_
 refine GE (i := 0) rfl fun hl1 hL1 => ?_
 refine zah ?_
 refine zaa 1 rfl ?_
 refine zab ?_
 refine zae ?_
 refine zae ?_
 refine qal 1 rfl rfl rfl (by simp only [qbD, qbF, zaf, zag]; exact rfl) ?_
 refine zac ?_
 refine zaa 1 rfl ?_
 refine za rfl (qE rfl ul (ev1 rfl)) ?_
 refine zaa 1 rfl ?_
 refine zab ?_
 refine zat ?_
 refine qI ⟨hs0, rfl⟩ (α := Nat) (fun k => [(11, .val (.int .i64 (k : Int)))]) [(1, _), (2, _), (9, _), (10, _)] (fun k => [(4, .arr 5 1 (([a, b] ++ qW kz [] (old.take (k)))).length ((([a, b] ++ qW kz [] (old.take (k)))).flatMap uc8))]) [_, _, _, _, .hole] (fun k => k ≤ old.length) (fun k => old.length - k) 0 [0, 1, 2, 3, 4] (qb3 _) rfl ⟨rfl, rfl, rfl, rfl, trivial⟩ ⟨rfl, trivial⟩ ⟨rfl, rfl, rfl, rfl, by rw [List.take_zero, ur]; rfl, trivial⟩ ?_
 intro k hx
 simp only [upd, zaf, zag, qbD, qbF]
 have hk0 := hx
 have hbl := uq kz (old.take k) []
 rw [qbS] at hbl
 refine zah ?_
 refine za rfl (qv rfl (ev1 rfl) (ev1 rfl)) ?_
 refine zab ?_
 refine zae ?_
 refine qh rfl (fun c1 => ?_) (fun c1 => ?_)
 ·try simp only [decide_eq_true_eq, decide_eq_false_iff_not, beq_iff_eq, bne_iff_ne, beq_eq_false_iff_ne, bne_eq_false_iff_eq, qbx, qby, qbu, qbE, qbv, ne_eq, Decidable.not_not, qbQ, qbR] at c1
  refine zar ?_
  refine zae ?_
  refine zat ?_
  refine zae ?_
  have hk : k < old.length := by omega
  refine zao 1 ?_
  refine zac ?_
  refine zaa 1 rfl ?_
  refine za rfl (q0 (j := k) rfl ul (ev1 rfl) (ev1 rfl) qA (by decide) (by omega) (by omega)) ?_
  refine za rfl (xT rfl jt (ev1 rfl) (qA _)) ?_
  refine zak rfl (zaq 5 rfl yU rfl) ?_
  refine zaa 1 rfl ?_
  refine zas rfl (qY rfl jt (ev1 rfl) (ev1 rfl) rfl (qA _) (yx _) ((qA _).trans (qA _).symm)) ?_
  refine zab ?_
  refine zao 1 ?_
  refine zac ?_
  refine zaa 3 rfl ?_
  refine za rfl (kT rfl jt (ev1 rfl) rfl (qA _)) ?_
  refine zak rfl (zaj [4, 1, 2, 3] [] [6] rfl (ev1 rfl) (ec (ev1 rfl) (ec (ev1 rfl) (ec (ev1 rfl) en))) rfl rfl (Z4 a b old k (by omega) (by omega) ([a, b] ++ qW kz [] (old.take (k))) (by simp only [qbz, qbW, qce]; omega) _) rfl rfl rfl rfl rfl rfl) ?_
  refine zaa 1 rfl ?_
  refine zab ?_
  refine zac ?_
  refine za rfl (ql rfl (ev1 rfl) (ev1 rfl) (fun _ => qbB _ (by omega))) ?_
  refine zaa 1 rfl ?_
  refine zab ?_
  refine ⟨k + 1, [0, 1, 2, 3, 6], by omega, by simp only []; omega, rfl, ⟨rfl, rfl, rfl, rfl, rfl, trivial⟩, ⟨rfl, rfl, rfl, rfl, vF (by rw [xD _ hk]; rfl) (by rw [xD _ hk]; rfl), trivial⟩⟩
 ·try simp only [decide_eq_true_eq, decide_eq_false_iff_not, beq_iff_eq, bne_iff_ne, beq_eq_false_iff_ne, bne_eq_false_iff_eq, qbx, qby, qbu, qbE, qbv, ne_eq, Decidable.not_not, qbQ, qbR] at c1
  refine qD ?_
  refine zah ?_
  refine zaa 2 rfl ?_
  refine zab ?_
  refine qa ?_
  have hke : old.take k = old := qbT (by omega)
  refine ko [0, 1, 2, 3, 4] (rs1 rfl (qL rfl)) rfl rfl ?_ ⟨rfl, rfl, rfl, rfl, vF (by rw [hke]) (by rw [hke]), trivial⟩
  rfl
end Go.Proofs.YtofklkbfkoliiaaGreat
namespace Go.Proofs.YtofklkbfkoliiaaGreat
set_option linter.unusedVariables false
set_option linter.unusedSimpArgs false
open Go.RowKit
attribute [local irreducible] kP ji yp gI qW
theorem qaL (a b : Int) (old : List TL) (hm : gW a b = true) (hl : old.length ≤ 100) : DFun Tryz.prog 87 [.agg [.val (.int .i64 a), .val (.int .i64 b), .slf 256 old.length (old.flatMap tc)], .fn (.func 112) [] [.loc 0 0]] [.mix 146 [.loc 1 0], .mix 24 [.val (.int .i64 a), .val (.int .i64 b), .slf 256 old.length (old.flatMap tc)]] (.arr 2) [.mix 146 [.loc 1 0], .mix 24 [.val (.int .i64 a), .val (.int .i64 b), .slf 256 old.length (old.flatMap tc)], .arr 5 1 ((a :: b :: qW kz [] old)).length (((a :: b :: qW kz [] old)).flatMap uc8)] := by
 have hb := JO hm
 refine zap (N := 16) 2 (by kernel_rfl) Tryz.func87 rfl rfl rfl (by simp only [fr0, qbs, qbt]; exact rfl) rfl fun s0 hs0 => ?_
 refine zae ?_
 refine zao 2 ?_
 refine zac ?_
 refine zak rfl (qd 2 rfl (ev1 rfl) rfl) ?_
 refine zak rfl (gL 3 rfl (ev1 rfl) (fun s v h => by cases h <;> rfl) rfl) ?_
 refine zaa 1 rfl ?_
 refine zab ?_
 refine zae ?_
 refine zao 2 ?_
 refine zac ?_
 refine za rfl (zam rfl yw (ev1 rfl)) ?_
 refine za rfl (zan rfl xI (ev1 rfl) rfl rfl) ?_
 refine za rfl (zam rfl y5 (ev1 rfl)) ?_
 refine za rfl (zan rfl tb3 (ev1 rfl) rfl rfl) ?_
 refine za rfl (gb ty3 kn5 rfl (ev1 rfl) (fun _ => IntWalk.u8_in _ (by omega))) ?_
 refine za rfl (zam rfl y6 (ev1 rfl)) ?_
 refine za rfl (zan rfl tb3 (ev1 rfl) rfl rfl) ?_
 refine za rfl (gb ty3 kn5 rfl (ev1 rfl) (fun _ => IntWalk.u8_in _ (by omega))) ?_
 refine zak rfl (zx (ps := [(0, .tmp 9), (1, .tmp 12)]) 4 rfl qG zr5 rfl (vc (ev1 rfl) (vc (ev1 rfl) vn)) rfl (by decide) (by decide) rfl) ?_
 refine za rfl (qV rfl en (ec (ev1 rfl) en)) ?_
 refine zak rfl (zaj [4, 3, 0, 1] [] [5] rfl (ev1 rfl) (ec (ev1 rfl) (ec (ev1 rfl) (ec (ev1 rfl) en))) rfl rfl (qaK a b old hl) rfl rfl rfl rfl rfl rfl) ?_
 refine zaa 1 rfl ?_
 refine zab ?_
 refine qa ?_
 refine ko [0, 1, 5] (rs1 rfl (qL rfl)) rfl rfl ?_ ⟨rfl, rfl, rfl, trivial⟩
 rfl
theorem cnv_y (a b : Int) (old : List TL) (hr : jl a b old = true) (hl : old.length ≤ 100) : DFun Tryz.prog 51 [.agg [.val (.int .i64 a), .val (.int .i64 b), .slf 256 old.length (old.flatMap tc)]] [] (.tup [.arr 0, .val (.int .i64 0)]) [.arr 5 1 ((kK a b old)).length (((kK a b old)).flatMap uc8)] := by
 have hm := K7 hr
 refine zap (N := 13) 0 (by kernel_rfl) Tryz.func51 rfl rfl rfl (by simp only [fr0, qbs, qbt]; exact rfl) rfl fun s0 hs0 => ?_
 refine zae ?_
 refine zao 1 ?_
 refine zac ?_
 refine zak rfl (qd 0 rfl (ev1 rfl) rfl) ?_
 refine zaa 2 rfl ?_
 refine zab ?_
 refine zae ?_
 refine zah ?_
 refine za rfl (qb rfl vV (ev1 rfl) rfl rfl) ?_
 refine za rfl (zaj [] [] [] rfl (ev1 rfl) (ec (ev1 rfl) en) rfl rfl (G0 a b old) rfl rfl rfl rfl rfl rfl) ?_
 refine zaa 1 rfl ?_
 refine zab ?_
 refine zah ?_
 refine zaa 1 rfl ?_
 refine za rfl (qT rfl (ev1 rfl) (ev1 rfl)) ?_
 refine zab ?_
 refine qc rfl (by rw [hr]; rfl) ?_
 refine zar ?_
 refine zae ?_
 refine zao 2 ?_
 refine VR [0] 1 [0] [.mix 24 [.val (.int .i64 a), .val (.int .i64 b), .slf 256 old.length (old.flatMap tc)], .mix 146 [.loc 0 0], .hole] [([0], []), ([0, 1], [0, 1]), ([1, 0, 2], [1, 0, 2]), ([], []), ([], [])] rfl qP (by kernel_rfl) ?_
 refine A8 rfl rfl rfl rfl (qb rfl vV (ev1 rfl) rfl rfl) (qb rfl vV (ev1 rfl) rfl rfl) (qb rfl vV (ev1 rfl) rfl rfl) ?_
 refine A9 rfl rfl rfl (zaj [0] [] [1] rfl (ev1 rfl) (ec (ev1 rfl) en) rfl rfl (Z2 a b old) rfl rfl rfl rfl rfl rfl) rfl (by simp only [upd, zaf, zag]; exact rfl) (by simp only [List.mem_cons, List.not_mem_nil, or_false]; rintro x rfl; rfl) ?_
 refine A7 rfl rfl rfl (zaj [1, 0] [] [2] rfl (ev1 rfl) (ec (ev1 rfl) (ec (ev1 rfl) en)) rfl rfl (qaL a b old hm hl) rfl rfl rfl rfl rfl rfl) rfl (by simp only [upd, zaf, zag]; exact rfl) ?_
 refine Uj rfl rfl rfl (zal (.inr rfl) (ev1 rfl)) ?_
 refine Uj rfl rfl rfl (zal (.inr rfl) (ev1 rfl)) ?_
 refine Uk ?_
 refine qa ?_
 refine ko [2] (rs2 rfl (qL rfl) (qL rfl)) rfl rfl ?_ ⟨rfl, trivial⟩
 rfl
end Go.Proofs.YtofklkbfkoliiaaGreat
namespace Go.Proofs.YtofklkbfkoliiaaGreat
set_option linter.unusedVariables false
set_option linter.unusedSimpArgs false
open Go.RowKit
section
variable {P : Program} {pc : Bool} {o : Oper} {F : Fr} {M : List Blk}
end
section
variable {P : Program} {s0 : St} {n : Cx}
theorem Z5 {co : Code} {F : Fr} {M M' : List Blk} {K : Cont} {k k' : Blk} (i : Nat) (h : k = k') (hi : M[i]? = some k) (hM : M.set i k' = M') (hw : dwp P s0 n co F M' K) : dwp P s0 n co F M K := by
 subst h hM
 obtain ⟨hl, he⟩ := qbq.1 hi
 rw [← he, List.set_getElem_self] at hw
 exact hw
end
end Go.Proofs.YtofklkbfkoliiaaGreat
namespace Go.Proofs.YtofklkbfkoliiaaGreat
set_option linter.unusedVariables false
set_option linter.unusedSimpArgs false
open Go.RowKit
attribute [local irreducible] jn rdP rdN yo gg kP ji yp gI qW kK
theorem cnv_f (a b : Int) (old : List TL) (hr : jl a b old = true) (hl : old.length ≤ 100) : DFun Tryz.prog 51 [.agg [.val (.int .i64 a), .val (.int .i64 b), .slf 256 old.length (old.flatMap tc)]] [] (.tup [.slf 1 ((kK a b old)).length (((kK a b old)).flatMap uc8), .val (.int .i64 0)]) [] := yc (cnv_y a b old hr hl) rfl
theorem Aw (B : List Int) (hB : B.length ≤ 4000000000000000000) (hi : isB B) (n : Nat) (h2 : 0 + 2 ≤ B.length) (hm : gW (bAt B 0) (bAt B 1) = true) (hn : bAt B 0 * bAt B 1 = (n : Int)) (ts : List TL) (q : Nat) (h0 : gg kz B n [] 2 = some (ts, q)) : DFun Tryz.prog 59 [.slf 1 (B).length ((B).flatMap uc8)] [] (.tup [.agg [.val (.int .i64 (bAt B 0)), .val (.int .i64 (bAt B 1)), .slf 256 ts.length (ts.flatMap tc)], .val (.int .i64 (q : Nat)), .val (.int .i64 0)]) [] := yc (rdc_y B hB hi n h2 hm hn ts q h0) rfl
theorem JU (l r : List Int) : DFun Tryz.prog 15 [.slf 1 l.length (l.flatMap uc8), .slf 1 r.length (r.flatMap uc8)] [] (.val (.bool (decide (l = r)))) [] := by
 refine zap (N := 26) 0 (by kernel_rfl) Tryz.func15 rfl rfl rfl (by simp only [fr0, qbs, qbt]; exact rfl) rfl fun s0 hs0 => ?_
 refine jY (t := 0) rfl fun hl0 hL0 => ?_
 refine jY (t := 1) rfl fun hl1 hL1 => ?_
 refine zah ?_
 refine zaa 1 rfl ?_
 refine zab ?_
 refine zae ?_
 refine zah ?_
 refine zaa 1 rfl ?_
 refine za rfl (qE rfl qG (ev1 rfl)) ?_
 refine zaa 1 rfl ?_
 refine za rfl (qE rfl qG (ev1 rfl)) ?_
 refine za rfl (qT rfl (ev1 rfl) (ev1 rfl)) ?_
 refine zab ?_
 refine qh rfl (fun c1 => ?_) (fun c1 => ?_)
 ·try simp only [decide_eq_true_eq, decide_eq_false_iff_not, beq_iff_eq, bne_iff_ne, beq_eq_false_iff_ne, bne_eq_false_iff_eq, qbx, qby, qbu, qbE, qbv, ne_eq, Decidable.not_not, qbQ, qbR] at c1
  refine zah ?_
  refine zaa 1 rfl ?_
  refine zab ?_
  refine qa ?_
  refine qx (rs1 rfl (qL rfl)) rfl ?_
  have hne : l ≠ r := fun e => by subst e; exact c1 rfl
  rw [decide_eq_false hne]
 ·try simp only [decide_eq_true_eq, decide_eq_false_iff_not, beq_iff_eq, bne_iff_ne, beq_eq_false_iff_ne, bne_eq_false_iff_eq, qbx, qby, qbu, qbE, qbv, ne_eq, Decidable.not_not, qbQ, qbR] at c1
  have hlen : l.length = r.length := by omega
  refine zar ?_
  refine zae ?_
  refine zah ?_
  refine zaa 1 rfl ?_
  refine za rfl (qE rfl qG (ev1 rfl)) ?_
  refine zaa 1 rfl ?_
  refine zab ?_
  refine zat ?_
  refine qI ⟨hs0, rfl⟩ (α := Nat) (fun k => [(13, .val (.int .i64 (k : Int)))]) [(0, _), (1, _), (12, _)] (fun k => []) [] (fun k => k ≤ l.length ∧ l.take k = r.take k) (fun k => l.length - k) 0 [] (by simp) rfl ⟨rfl, rfl, rfl, trivial⟩ ⟨rfl, trivial⟩ trivial ?_
  intro k hx
  simp only [upd, zaf, zag, qbD, qbF]
  obtain ⟨hk, he⟩ := hx
  refine zah ?_
  refine za rfl (qv rfl (ev1 rfl) (ev1 rfl)) ?_
  refine zab ?_
  refine zae ?_
  refine qh rfl (fun c2 => ?_) (fun c2 => ?_)
  ·try simp only [decide_eq_true_eq, decide_eq_false_iff_not, beq_iff_eq, bne_iff_ne, beq_eq_false_iff_ne, bne_eq_false_iff_eq, qbx, qby, qbu, qbE, qbv, ne_eq, Decidable.not_not, qbQ, qbR] at c2
   refine zar ?_
   refine zae ?_
   refine zat ?_
   refine zah ?_
   refine zaa 2 rfl ?_
   refine zab ?_
   refine zae ?_
   refine qg [([], []), ([], []), ([], []), ([], []), ([], []), ([], []), ([], []), ([], []), ([], [])] qP (by kernel_rfl) ?_
   refine zad rfl rfl (zal (.inl rfl) (ev1 rfl)) ?_
   refine zad rfl rfl (zal (.inl rfl) (ev1 rfl)) ?_
   refine zad rfl rfl (q0 (j := k) rfl qG (ev1 rfl) (ev1 rfl) (fun _ => rfl) (by decide) (by omega) (by omega)) ?_
   refine zad rfl rfl (ke rfl tb5 (ev1 rfl) rfl) ?_
   refine zad rfl rfl (zal (.inl rfl) (ev1 rfl)) ?_
   refine zad rfl rfl (zal (.inl rfl) (ev1 rfl)) ?_
   refine zad rfl rfl (q0 (j := k) rfl qG (ev1 rfl) (ev1 rfl) (fun _ => rfl) (by decide) (by omega) (by omega)) ?_
   refine zad rfl rfl (ke rfl tb5 (ev1 rfl) rfl) ?_
   refine zad rfl rfl (qT rfl (ev1 rfl) (ev1 rfl)) ?_
   refine qk ?_
   refine qh rfl (fun c2 => ?_) (fun c2 => ?_)
   ·have c3 : l[k] ≠ r[k] := by simpa using c2
    refine zah ?_
    refine zaa 1 rfl ?_
    refine zab ?_
    refine qa ?_
    refine qx (rs1 rfl (qL rfl)) rfl ?_
    have hne : l ≠ r := fun e => by subst e; exact c3 rfl
    rw [decide_eq_false hne]
   ·have c3 : l[k] = r[k] := by simpa using c2
    refine zar ?_
    refine zac ?_
    refine za rfl (ql rfl (ev1 rfl) (ev1 rfl) (fun _ => qbB _ (by omega))) ?_
    refine zaa 1 rfl ?_
    refine zab ?_
    refine ⟨k + 1, [], ⟨by omega, by rw [qbP (by omega), qbP (by omega), he, c3]⟩, by simp only []; omega, rfl, ⟨rfl, rfl, rfl, rfl, trivial⟩, trivial⟩
  ·try simp only [decide_eq_true_eq, decide_eq_false_iff_not, beq_iff_eq, bne_iff_ne, beq_eq_false_iff_ne, bne_eq_false_iff_eq, qbx, qby, qbu, qbE, qbv, ne_eq, Decidable.not_not, qbQ, qbR] at c2
   refine qD ?_
   refine zah ?_
   refine zaa 1 rfl ?_
   refine zab ?_
   refine qa ?_
   refine qx (rs1 rfl (qL rfl)) rfl ?_
   have e : l = r := by
    have h := he
    rw [qbT (by omega), qbT (by omega)] at h
    exact h
   rw [decide_eq_true e]
theorem Qh (l : List Int) (h : l.length ≤ 2000000) : DFun Tryz.prog 16 [.slf 1 l.length (l.flatMap uc8)] [] (.arr 0) [.arr 5 1 l.length (l.flatMap uc8)] := by
 refine zap (N := 8) 0 (by kernel_rfl) Tryz.func16 rfl rfl rfl (by simp only [fr0, qbs, qbt]; exact rfl) rfl fun s0 hs0 => ?_
 refine jY (t := 0) rfl fun hl0 hL0 => ?_
 refine zah ?_
 refine zaa 1 rfl ?_
 refine zab ?_
 refine zae ?_
 refine zah ?_
 refine zaa 1 rfl ?_
 refine VM rfl rfl rfl rfl qG (ev1 rfl) fun nb4 hnb4 => ?_
 refine zab ?_
 refine qh rfl (fun c1 => ?_) (fun c1 => ?_)
 ·try simp only [decide_eq_true_eq, decide_eq_false_iff_not, beq_iff_eq, bne_iff_ne, beq_eq_false_iff_ne, bne_eq_false_iff_eq, qbx, qby, qbu, qbE, qbv, ne_eq, Decidable.not_not, qbQ, qbR] at c1
  refine zah ?_
  refine zaa 1 rfl ?_
  refine zab ?_
  refine KF 2 5 1 rfl rfl rfl ?_
  refine qa ?_
  refine ko [0] (rs1 rfl (qL rfl)) rfl rfl ?_ ⟨?_, trivial⟩
  rfl
  exact (by obtain ⟨h1, h2⟩ := hnb4 c1; simp_all [MFits, vwB])
 ·try simp only [decide_eq_true_eq, decide_eq_false_iff_not, beq_iff_eq, bne_iff_ne, beq_eq_false_iff_ne, bne_eq_false_iff_eq, qbx, qby, qbu, qbE, qbv, ne_eq, Decidable.not_not, qbQ, qbR] at c1
  refine zar ?_
  refine zae ?_
  refine zao 2 ?_
  refine zac ?_
  refine zak rfl (zx (ps := []) 0 rfl qG zr5 rfl vn rfl (by decide) (by decide) rfl) ?_
  refine zaa 1 rfl ?_
  refine zak rfl (vC (j := 1) rfl qG zr5 rfl (ev1 rfl) (ev1 rfl) yY rfl rfl (fun _ => yB (fun _ => rfl) l) (fun _ => ⟨by omega, by omega⟩)) ?_
  refine zaa 1 rfl ?_
  refine zab ?_
  refine qa ?_
  refine ko [1] (rs1 rfl (qL rfl)) rfl rfl ?_ ⟨?_, trivial⟩
  rfl
  simp [vwB]
theorem gS (l : List Int) (h : l.length ≤ 2000000) : DFun Tryz.prog 16 [.slf 1 l.length (l.flatMap uc8)] [] (.slf 1 l.length (l.flatMap uc8)) [] := yc (Qh l h) rfl
theorem JV {α : Type} (l : List α) (n : Nat) : l.take (min l.length n) = l.take n := by
 rcases Nat.le_total l.length n with h | h
 ·rw [Nat.min_eq_left h, qch, qbT h]
 ·rw [Nat.min_eq_right h]
end Go.Proofs.YtofklkbfkoliiaaGreat
namespace Go.Proofs.YtofklkbfkoliiaaGreat
set_option linter.unusedVariables false
set_option linter.unusedSimpArgs false
open Go.RowKit
theorem Vc (l : List Int) (h : l.length ≤ 1048576) : DFun Tryz.prog 116 [.slf 1 (l).length ((l).flatMap uc8)] [] (.tup [.loc 0 0, .val (.int .i64 0)]) [.mix 206 [.slf 1 (l).length ((l).flatMap uc8), .val (.int .i64 0)]] := by
 refine zap (N := 12) 0 (by kernel_rfl) Tryz.func116 rfl rfl rfl (by simp only [fr0, qbs, qbt]; exact rfl) rfl fun s0 hs0 => ?_
 refine jY (t := 0) rfl fun hl0 hL0 => ?_
 refine zah ?_
 refine zaa 2 rfl ?_
 refine zab ?_
 refine zae ?_
 refine zah ?_
 refine zaa 1 rfl ?_
 refine za rfl (qE rfl qG (ev1 rfl)) ?_
 refine za rfl (kA rfl (ev1 rfl) (ev1 rfl)) ?_
 refine zab ?_
 refine qc rfl (decide_eq_false (by omega)) ?_
 refine zar ?_
 refine zae ?_
 refine zao 1 ?_
 refine zac ?_
 refine zaa 1 rfl ?_
 refine za rfl (zaj [] [] [] rfl (ev1 rfl) (ec (ev1 rfl) en) rfl rfl (gS _ (by omega)) rfl rfl rfl rfl rfl rfl) ?_
 refine za rfl (JE rfl UM GY (ev1 rfl) rfl) ?_
 refine za rfl (JF rfl (ev1 rfl) fl206 zr206 rfl) ?_
 refine zak rfl (qd 0 rfl (ev1 rfl) rfl) ?_
 refine zaa 2 rfl ?_
 refine zab ?_
 refine qa ?_
 refine ko [0] (rs2 rfl (qL rfl) (qL rfl)) rfl rfl ?_ ⟨rfl, trivial⟩
 rfl
theorem Qi (l : List Int) (e : Int) : DDef Tryz.prog 140 [.loc 0 0] [.mix 174 [.loc 1 0], .mix 206 [.slf 1 (l).length ((l).flatMap uc8), .val (.int .i64 e)]] none none [.mix 174 [.loc 1 0], .mix 206 [.slf 1 (l).length ((l).flatMap uc8), .val (.int .i64 0)]] := by
 refine GL (dr := .tup []) (t := 2) (N := 7) 2 1 [[0, 1, 2, 3, 4, 5, 6], [1, 0, 2, 3, 4, 5, 6], [1, 2, 0, 3, 4, 5, 6]] qP (by kernel_rfl) Tryz.func140 rfl rfl rfl (by simp only [fr0, qbs, qbt]; exact rfl) rfl rfl (by kernel_rfl) rfl rfl rfl rfl fun s0 hs0 L hL => ?_
 simp only [List.mem_cons, List.not_mem_nil, or_false] at hL
 rcases hL with rfl | rfl | rfl
 ·refine ⟨[0], [2, 3, 4, 5, 6], rfl, ?_⟩
  refine za rfl (zan rfl gz (ev1 rfl) rfl rfl) ?_
  refine zab ?_
  refine za rfl (zaj [] [] [] rfl (ev1 rfl) (ec (ev1 rfl) en) rfl rfl (vj) rfl rfl rfl rfl rfl rfl) ?_
  refine za rfl (qt rfl (ev1 rfl) (fun s v h => by cases h; exact ⟨_, rfl⟩)) ?_
  refine za rfl (zam rfl gA (ev1 rfl)) ?_
  refine za rfl (zam rfl yF (ev1 rfl)) ?_
  refine zas rfl (kJ rfl qX (ev1 rfl) (ev1 rfl) (fun s v h => by cases h <;> exact ⟨rfl, rfl⟩) rfl (by first | decide | exact qbA rfl | simp)) ?_
  refine zab ?_
  refine ko [0, 1] (qH rfl) rfl rfl ?_ ⟨rfl, rfl, trivial⟩
  rfl
 ·refine ⟨[], [0, 2, 3, 4, 5, 6], rfl, ?_⟩
  refine zab ?_
  refine za rfl (zan rfl gz (ev1 rfl) rfl rfl) ?_
  refine za rfl (zaj [] [] [] rfl (ev1 rfl) (ec (ev1 rfl) en) rfl rfl (vj) rfl rfl rfl rfl rfl rfl) ?_
  refine za rfl (qt rfl (ev1 rfl) (fun s v h => by cases h; exact ⟨_, rfl⟩)) ?_
  refine za rfl (zam rfl gA (ev1 rfl)) ?_
  refine za rfl (zam rfl yF (ev1 rfl)) ?_
  refine zas rfl (kJ rfl qX (ev1 rfl) (ev1 rfl) (fun s v h => by cases h <;> exact ⟨rfl, rfl⟩) rfl (by first | decide | exact qbA rfl | simp)) ?_
  refine zab ?_
  refine ko [0, 1] (qH rfl) rfl rfl ?_ ⟨rfl, rfl, trivial⟩
  rfl
 ·refine ⟨[], [2, 0, 3, 4, 5, 6], rfl, ?_⟩
  refine zab ?_
  refine za rfl (zaj [] [] [] rfl (ev1 rfl) (ec (ev1 rfl) en) rfl rfl (vj) rfl rfl rfl rfl rfl rfl) ?_
  refine za rfl (zan rfl gz (ev1 rfl) rfl rfl) ?_
  refine za rfl (qt rfl (ev1 rfl) (fun s v h => by cases h; exact ⟨_, rfl⟩)) ?_
  refine za rfl (zam rfl gA (ev1 rfl)) ?_
  refine za rfl (zam rfl yF (ev1 rfl)) ?_
  refine zas rfl (kJ rfl qX (ev1 rfl) (ev1 rfl) (fun s v h => by cases h <;> exact ⟨rfl, rfl⟩) rfl (by first | decide | exact qbA rfl | simp)) ?_
  refine zab ?_
  refine ko [0, 1] (qH rfl) rfl rfl ?_ ⟨rfl, rfl, trivial⟩
  rfl
theorem JW (l : List Int) (e n : Int) : DDef Tryz.prog 140 [.loc 0 0] [.mix 174 [.loc 1 0], .mix 206 [.slf 1 (l).length ((l).flatMap uc8), .val (.int .i64 e)]] (some (.ifc 130 (.val (.agg #[.int .i64 n])))) none [.mix 174 [.loc 1 0], .mix 206 [.slf 1 (l).length ((l).flatMap uc8), .val (.int .i64 n)]] := by
 refine GL (dr := .tup []) (t := 2) (N := 7) 2 1 [[0, 1, 2, 3, 4, 5, 6], [1, 0, 2, 3, 4, 5, 6], [1, 2, 0, 3, 4, 5, 6]] qP (by kernel_rfl) Tryz.func140 rfl rfl rfl (by simp only [fr0, qbs, qbt]; exact rfl) rfl rfl (by kernel_rfl) rfl rfl rfl rfl fun s0 hs0 L hL => ?_
 simp only [List.mem_cons, List.not_mem_nil, or_false] at hL
 rcases hL with rfl | rfl | rfl
 ·refine ⟨[0], [2, 3, 4, 5, 6], rfl, ?_⟩
  refine za rfl (zan rfl gz (ev1 rfl) rfl rfl) ?_
  refine zab ?_
  refine za rfl (zaj [] [] [] rfl (ev1 rfl) (ec (ev1 rfl) en) rfl rfl (zc n) rfl rfl rfl rfl rfl rfl) ?_
  refine za rfl (qt rfl (ev1 rfl) (fun s v h => by cases h; exact ⟨_, rfl⟩)) ?_
  refine za rfl (zam rfl gA (ev1 rfl)) ?_
  refine za rfl (zam rfl yF (ev1 rfl)) ?_
  refine zas rfl (kJ rfl qX (ev1 rfl) (ev1 rfl) (fun s v h => by cases h <;> exact ⟨rfl, rfl⟩) rfl (by first | decide | exact qbA rfl | simp)) ?_
  refine zab ?_
  refine ko [0, 1] (qH rfl) rfl rfl ?_ ⟨rfl, rfl, trivial⟩
  rfl
 ·refine ⟨[], [0, 2, 3, 4, 5, 6], rfl, ?_⟩
  refine zab ?_
  refine za rfl (zan rfl gz (ev1 rfl) rfl rfl) ?_
  refine za rfl (zaj [] [] [] rfl (ev1 rfl) (ec (ev1 rfl) en) rfl rfl (zc n) rfl rfl rfl rfl rfl rfl) ?_
  refine za rfl (qt rfl (ev1 rfl) (fun s v h => by cases h; exact ⟨_, rfl⟩)) ?_
  refine za rfl (zam rfl gA (ev1 rfl)) ?_
  refine za rfl (zam rfl yF (ev1 rfl)) ?_
  refine zas rfl (kJ rfl qX (ev1 rfl) (ev1 rfl) (fun s v h => by cases h <;> exact ⟨rfl, rfl⟩) rfl (by first | decide | exact qbA rfl | simp)) ?_
  refine zab ?_
  refine ko [0, 1] (qH rfl) rfl rfl ?_ ⟨rfl, rfl, trivial⟩
  rfl
 ·refine ⟨[], [2, 0, 3, 4, 5, 6], rfl, ?_⟩
  refine zab ?_
  refine za rfl (zaj [] [] [] rfl (ev1 rfl) (ec (ev1 rfl) en) rfl rfl (zc n) rfl rfl rfl rfl rfl rfl) ?_
  refine za rfl (zan rfl gz (ev1 rfl) rfl rfl) ?_
  refine za rfl (qt rfl (ev1 rfl) (fun s v h => by cases h; exact ⟨_, rfl⟩)) ?_
  refine za rfl (zam rfl gA (ev1 rfl)) ?_
  refine za rfl (zam rfl yF (ev1 rfl)) ?_
  refine zas rfl (kJ rfl qX (ev1 rfl) (ev1 rfl) (fun s v h => by cases h <;> exact ⟨rfl, rfl⟩) rfl (by first | decide | exact qbA rfl | simp)) ?_
  refine zab ?_
  refine ko [0, 1] (qH rfl) rfl rfl ?_ ⟨rfl, rfl, trivial⟩
  rfl
theorem Z6 (L : List Int) (hL : L.length ≤ 2000000) (w : Nat) (hw : 1 ≤ w ∧ w ≤ 8) (h : w ≤ L.length) : DFun Tryz.prog 138 [.loc 0 0, .loc 1 0, .loc 2 0] [.flat 3 [.int .i64 (w : Int)], .mix 174 [.loc 3 0], .flat 25 [.int .u64 0], .mix 206 [.slf 1 (L).length ((L).flatMap uc8), .val (.int .i64 0)]] (.tup []) [.flat 3 [.int .i64 (w : Int)], .mix 174 [.loc 3 0], .flat 25 [.int .u64 (kG w L)], .mix 206 [.slf 1 (L.drop w).length ((L.drop w).flatMap uc8), .val (.int .i64 0)]] := by
 refine zap (N := 11) 4 (by kernel_rfl) Tryz.func138 rfl rfl rfl (by simp only [fr0, qbs, qbt]; exact rfl) rfl fun s0 hs0 => ?_
 refine zah ?_
 refine za rfl (qB rfl tb3 (ev1 rfl) rfl rfl) ?_
 refine za rfl (xv (ps := [(0, .tmp 3)]) rfl um zr3 rfl (vc (ev1 rfl) vn) rfl (by decide) (by decide)) ?_
 refine za rfl (zaj [] [] [] rfl (ev1 rfl) (ec (ev1 rfl) en) rfl rfl (vi [(w : Int)] (by simp [JP]; omega)) rfl rfl rfl rfl rfl rfl) ?_
 refine zab ?_
 refine qg [([1], []), ([], []), ([], []), ([0], []), ([3], [3]), ([2], [2])] qP (by kernel_rfl) ?_
 refine zad rfl rfl (zan rfl gz (ev1 rfl) rfl rfl) ?_
 refine zad rfl rfl (qt rfl (ev1 rfl) (fun s v h => by cases h; exact ⟨_, rfl⟩)) ?_
 refine zad rfl rfl (zam rfl gA (ev1 rfl)) ?_
 refine zad rfl rfl (qB rfl tb3 (ev1 rfl) rfl rfl) ?_
 refine gE rfl rfl (zaj [3] [] [] rfl (ev1 rfl) (ec (ev1 rfl) (ec (ev1 rfl) en)) rfl rfl (K0 _ L (by omega) 0 w h) rfl rfl rfl rfl rfl rfl) rfl (by simp only [upd, zaf, zag]; exact rfl) ?_
 refine j0 rfl rfl (qK rfl qZ (ev1 rfl) (ev1 rfl) rfl) rfl (by simp only [upd, zaf, zag]; exact rfl) ?_
 refine qk ?_
 refine ko [0, 1, 2, 3] (qH rfl) rfl rfl ?_ ⟨rfl, rfl, rfl, rfl, trivial⟩
 rfl
theorem Xg (L : List Int) (w : Nat) (hw : 1 ≤ w ∧ w ≤ 8) (h : L.length < w) : DPan Tryz.prog 138 [.loc 0 0, .loc 1 0, .loc 2 0] [.flat 3 [.int .i64 (w : Int)], .mix 174 [.loc 3 0], .flat 25 [.int .u64 0], .mix 206 [.slf 1 (L).length ((L).flatMap uc8), .val (.int .i64 0)]] (.ifc 130 (.val (.agg #[.int .i64 110]))) [.flat 3 [.int .i64 (w : Int)], .mix 174 [.loc 3 0], .flat 25 [.int .u64 0], .mix 206 [.slf 1 (L).length ((L).flatMap uc8), .val (.int .i64 0)]] := by
 refine zap (N := 11) 4 (by kernel_rfl) Tryz.func138 rfl rfl rfl (by simp only [fr0, qbs, qbt]; exact rfl) rfl fun s0 hs0 => ?_
 refine zah ?_
 refine za rfl (qB rfl tb3 (ev1 rfl) rfl rfl) ?_
 refine za rfl (xv (ps := [(0, .tmp 3)]) rfl um zr3 rfl (vc (ev1 rfl) vn) rfl (by decide) (by decide)) ?_
 refine za rfl (zaj [] [] [] rfl (ev1 rfl) (ec (ev1 rfl) en) rfl rfl (vi [(w : Int)] (by simp [JP]; omega)) rfl rfl rfl rfl rfl rfl) ?_
 refine zab ?_
 refine gt 4 [([1], []), ([], []), ([], []), ([0], [])] qP (by kernel_rfl) rfl rfl ?_
 refine zad rfl rfl (zan rfl gz (ev1 rfl) rfl rfl) ?_
 refine zad rfl rfl (qt rfl (ev1 rfl) (fun s v h => by cases h; exact ⟨_, rfl⟩)) ?_
 refine zad rfl rfl (zam rfl gA (ev1 rfl)) ?_
 refine zad rfl rfl (qB rfl tb3 (ev1 rfl) rfl rfl) ?_
 refine qk ⟨_, _, _, rfl, qw [3] [] [] rfl (ev1 rfl) (ec (ev1 rfl) (ec (ev1 rfl) en)) rfl rfl (zU _ L 0 w h) rfl rfl rfl rfl rfl rfl, ?_⟩
 refine xf [0, 1, 2, 3] rfl rfl ?_ ⟨rfl, rfl, rfl, rfl, trivial⟩
 rfl
theorem Xh (L : List Int) (hL : L.length ≤ 2000000) (w : Nat) (hw : 1 ≤ w ∧ w ≤ 8) (h : w ≤ L.length) : DFun Tryz.prog 137 [.loc 0 0, .fn (.func 138) [] [.loc 1 0, .loc 2 0, .loc 3 0]] [.mix 206 [.slf 1 (L).length ((L).flatMap uc8), .val (.int .i64 0)], .flat 3 [.int .i64 (w : Int)], .mix 174 [.loc 0 0], .flat 25 [.int .u64 0]] (.tup []) [.mix 206 [.slf 1 (L.drop w).length ((L.drop w).flatMap uc8), .val (.int .i64 0)], .flat 3 [.int .i64 (w : Int)], .mix 174 [.loc 0 0], .flat 25 [.int .u64 (kG w L)]] := by
 refine qo (N := 17) 4 (by kernel_rfl) Tryz.func137 rfl rfl rfl (by simp only [fr0, qbs, qbt]; exact rfl) rfl fun s0 hs0 => ?_
 refine qz rfl hs0 ?_
 refine zao 1 ?_
 refine zac ?_
 refine zak rfl (gL 4 rfl (ev1 rfl) (fun s v h => by cases h <;> rfl) rfl) ?_
 refine zab ?_
 refine qz rfl hs0 ?_
 refine zah ?_
 refine za rfl (zan rfl gz (ev1 rfl) rfl rfl) ?_
 refine za rfl (QE rfl Q4 (ev1 rfl)) ?_
 refine zaa 1 rfl ?_
 refine zai (qe rfl rfl rfl) rfl rfl rfl (zan rfl gz (ev1 rfl) rfl rfl) ?_
 refine zai (qe rfl rfl rfl) rfl rfl rfl (qt rfl (ev2 rfl) (fun s v h => by cases h; exact ⟨_, rfl⟩)) ?_
 refine zai (qe rfl rfl rfl) rfl rfl rfl (zam rfl gA (ev2 rfl)) ?_
 refine zai (qe rfl rfl rfl) rfl rfl rfl (zam rfl yF (ev2 rfl)) ?_
 refine zai (qe rfl rfl rfl) rfl rfl rfl (zan rfl qX (ev2 rfl) rfl rfl) ?_
 refine zai (qe rfl rfl rfl) rfl rfl rfl (qT rfl (ev2 rfl) (ev1 rfl)) ?_
 refine za rfl (kx rfl (ev1 rfl) (ev3 rfl id)) ?_
 refine zab ?_
 refine qc rfl (rfl) ?_
 refine zar ?_
 refine qr (l0 := [_]) rfl rfl rfl rfl rfl hs0 ?_
 refine za rfl (qV rfl en (ec (ev1 rfl) en)) ?_
 refine zab ⟨_, _, _, 5, ev1 rfl, qbK hs0 (by decide), rfl, ?_⟩
 have hs1 : s0.M.length ≤ 5 := qbK hs0 (by decide)
 refine qy rfl hs0 ?_
 refine zac ?_
 refine zaa 1 rfl ?_
 refine zak rfl (zaj [1, 2, 3, 0] [] [] rfl (ev1 rfl) en rfl rfl (Z6 L hL w hw h) rfl rfl rfl rfl rfl rfl) ?_
 refine zab ?_
 refine jH (kL [4, 0] [] rfl rfl (Qi _ _) rfl rfl rfl rfl rfl) ?_
 refine ko [0, 1, 2, 3] (qH rfl) rfl rfl ?_ ⟨rfl, rfl, rfl, rfl, trivial⟩
 rfl
theorem Xi (L : List Int) (w : Nat) (hw : 1 ≤ w ∧ w ≤ 8) (h : L.length < w) : DFun Tryz.prog 137 [.loc 0 0, .fn (.func 138) [] [.loc 1 0, .loc 2 0, .loc 3 0]] [.mix 206 [.slf 1 (L).length ((L).flatMap uc8), .val (.int .i64 0)], .flat 3 [.int .i64 (w : Int)], .mix 174 [.loc 0 0], .flat 25 [.int .u64 0]] (.tup []) [.mix 206 [.slf 1 (L).length ((L).flatMap uc8), .val (.int .i64 110)], .flat 3 [.int .i64 (w : Int)], .mix 174 [.loc 0 0], .flat 25 [.int .u64 0]] := by
 refine qo (N := 17) 4 (by kernel_rfl) Tryz.func137 rfl rfl rfl (by simp only [fr0, qbs, qbt]; exact rfl) rfl fun s0 hs0 => ?_
 refine qz rfl hs0 ?_
 refine zao 1 ?_
 refine zac ?_
 refine zak rfl (gL 4 rfl (ev1 rfl) (fun s v h => by cases h <;> rfl) rfl) ?_
 refine zab ?_
 refine qz rfl hs0 ?_
 refine zah ?_
 refine za rfl (zan rfl gz (ev1 rfl) rfl rfl) ?_
 refine za rfl (QE rfl Q4 (ev1 rfl)) ?_
 refine zaa 1 rfl ?_
 refine zai (qe rfl rfl rfl) rfl rfl rfl (zan rfl gz (ev1 rfl) rfl rfl) ?_
 refine zai (qe rfl rfl rfl) rfl rfl rfl (qt rfl (ev2 rfl) (fun s v h => by cases h; exact ⟨_, rfl⟩)) ?_
 refine zai (qe rfl rfl rfl) rfl rfl rfl (zam rfl gA (ev2 rfl)) ?_
 refine zai (qe rfl rfl rfl) rfl rfl rfl (zam rfl yF (ev2 rfl)) ?_
 refine zai (qe rfl rfl rfl) rfl rfl rfl (zan rfl qX (ev2 rfl) rfl rfl) ?_
 refine zai (qe rfl rfl rfl) rfl rfl rfl (qT rfl (ev2 rfl) (ev1 rfl)) ?_
 refine za rfl (kx rfl (ev1 rfl) (ev3 rfl id)) ?_
 refine zab ?_
 refine qc rfl (rfl) ?_
 refine zar ?_
 refine qr (l0 := [_]) rfl rfl rfl rfl rfl hs0 ?_
 refine za rfl (qV rfl en (ec (ev1 rfl) en)) ?_
 refine zab ⟨_, _, _, 5, ev1 rfl, qbK hs0 (by decide), rfl, ?_⟩
 have hs1 : s0.M.length ≤ 5 := qbK hs0 (by decide)
 refine qy rfl hs0 ?_
 refine zac ?_
 refine zaa 1 rfl ?_
 refine ky rfl (qw [1, 2, 3, 0] [] [] rfl (ev1 rfl) en rfl rfl (Xg L w hw h) rfl rfl rfl rfl rfl rfl) rfl ?_
 refine jH (qQ [4, 0] [] rfl rfl rfl (JW _ _ _) rfl rfl rfl rfl rfl) ?_
 refine ko [0, 1, 2, 3] (qH rfl) rfl rfl ?_ ⟨rfl, rfl, rfl, rfl, trivial⟩
 rfl
theorem Z7 (L : List Int) (hL : L.length ≤ 2000000) (w : Nat) (hw : 1 ≤ w ∧ w ≤ 8) (h : w ≤ L.length) : DFun Tryz.prog 130 [.loc 0 0, .val (.int .i64 (w : Int))] [.mix 206 [.slf 1 (L).length ((L).flatMap uc8), .val (.int .i64 0)]] (.val (.int .u64 (kG w L))) [.mix 206 [.slf 1 (L.drop w).length ((L.drop w).flatMap uc8), .val (.int .i64 0)]] := by
 refine zap (N := 9) 1 (by kernel_rfl) Tryz.func130 rfl rfl rfl (by simp only [fr0, qbs, qbt]; exact rfl) rfl fun s0 hs0 => ?_
 refine zae ?_
 refine zao 3 ?_
 refine zac ?_
 refine zak rfl (gL 1 rfl (ev1 rfl) (fun s v h => by cases h <;> rfl) rfl) ?_
 refine zak rfl (uH 2 rfl (ev1 rfl) rfl) ?_
 refine zak rfl (zaq 3 rfl zr25 rfl) ?_
 refine zab ?_
 refine zah ?_
 refine za rfl (zan rfl gz (ev1 rfl) rfl rfl) ?_
 refine za rfl (qV rfl en (ec (ev1 rfl) (ec (ev1 rfl) (ec (ev1 rfl) en)))) ?_
 refine zak rfl (zaj [0, 2, 1, 3] [] [] rfl (ev1 rfl) (ec (ev1 rfl) (ec (ev1 rfl) en)) rfl rfl (Xh L hL w hw h) rfl rfl rfl rfl rfl rfl) ?_
 refine zab ?_
 refine zah ?_
 refine za rfl (qB rfl qZ (ev1 rfl) rfl rfl) ?_
 refine zas rfl (qK rfl qZ (ev1 rfl) (ev1 rfl) rfl) ?_
 refine zab ?_
 refine qa ?_
 refine ko [0] (rs1 rfl (js qZ rfl rfl rfl)) rfl rfl ?_ ⟨rfl, trivial⟩
 rfl
theorem Xj (L : List Int) (w : Nat) (hw : 1 ≤ w ∧ w ≤ 8) (h : L.length < w) : DFun Tryz.prog 130 [.loc 0 0, .val (.int .i64 (w : Int))] [.mix 206 [.slf 1 (L).length ((L).flatMap uc8), .val (.int .i64 0)]] (.val (.int .u64 0)) [.mix 206 [.slf 1 (L).length ((L).flatMap uc8), .val (.int .i64 110)]] := by
 refine zap (N := 9) 1 (by kernel_rfl) Tryz.func130 rfl rfl rfl (by simp only [fr0, qbs, qbt]; exact rfl) rfl fun s0 hs0 => ?_
 refine zae ?_
 refine zao 3 ?_
 refine zac ?_
 refine zak rfl (gL 1 rfl (ev1 rfl) (fun s v h => by cases h <;> rfl) rfl) ?_
 refine zak rfl (uH 2 rfl (ev1 rfl) rfl) ?_
 refine zak rfl (zaq 3 rfl zr25 rfl) ?_
 refine zab ?_
 refine zah ?_
 refine za rfl (zan rfl gz (ev1 rfl) rfl rfl) ?_
 refine za rfl (qV rfl en (ec (ev1 rfl) (ec (ev1 rfl) (ec (ev1 rfl) en)))) ?_
 refine zak rfl (zaj [0, 2, 1, 3] [] [] rfl (ev1 rfl) (ec (ev1 rfl) (ec (ev1 rfl) en)) rfl rfl (Xi L w hw h) rfl rfl rfl rfl rfl rfl) ?_
 refine zab ?_
 refine zah ?_
 refine za rfl (qB rfl qZ (ev1 rfl) rfl rfl) ?_
 refine zas rfl (qK rfl qZ (ev1 rfl) (ev1 rfl) rfl) ?_
 refine zab ?_
 refine qa ?_
 refine ko [0] (rs1 rfl (js qZ rfl rfl rfl)) rfl rfl ?_ ⟨rfl, trivial⟩
 rfl
end Go.Proofs.YtofklkbfkoliiaaGreat
namespace Go.Proofs.YtofklkbfkoliiaaGreat
set_option linter.unusedVariables false
set_option linter.unusedSimpArgs false
def ut : Nat → Nat → List Int
 | 0, _ => []
 | w + 1, n => ((n / 256 ^ w % 256 : Nat) : Int) :: ut w n
def jC (l : List Int) (acc : Nat) : Nat := l.foldl (fun a b => a * 256 + b.toNat) acc
theorem u0 : ∀ w n, (ut w n).length = w
 | 0, _ => rfl
 | w + 1, n => by rw [ut, qbW, u0]
theorem z2 (w : Nat) : 0 < 256 ^ w := Nat.pow_pos (by decide)
theorem Yg : ∀ (w a v : Nat), ut w (a * 256 ^ w + v) = ut w v
 | 0, _, _ => rfl
 | w + 1, a, v => by
  have e : a * 256 ^ (w + 1) + v = (a * 256) * 256 ^ w + v := by rw [Nat.pow_succ, Nat.mul_assoc, Nat.mul_comm 256]
  rw [ut, ut, e, Yg w (a * 256) v]
  congr 2
  rw [Nat.mul_comm, Nat.mul_add_div (z2 w)]
  omega
theorem Yh : ∀ (w n acc : Nat), jC (ut w n) acc = acc * 256 ^ w + n % 256 ^ w
 | 0, n, acc => by simp [ut, jC, Nat.mod_one]
 | w + 1, n, acc => by
  have h := Yh w n (acc * 256 + n / 256 ^ w % 256)
  unfold jC at h ⊢
  rw [ut, List.foldl_cons, qcb, h, Nat.pow_succ, Nat.mod_mul, Nat.add_mul, Nat.mul_assoc, Nat.mul_comm 256, Nat.mul_comm (n / 256 ^ w % 256)]
  omega
theorem u3 : ∀ (l : List Int) (acc : Nat), jC l acc = acc * 256 ^ l.length + jC l 0
 | [], acc => by simp [jC]
 | x :: l, acc => by
  have h1 := u3 l (acc * 256 + x.toNat)
  have h2 := u3 l (0 * 256 + x.toNat)
  unfold jC at h1 h2 ⊢
  rw [List.foldl_cons, List.foldl_cons, h1, h2, qbW, Nat.pow_succ, Nat.add_mul, Nat.zero_mul, qbs, Nat.mul_assoc, Nat.mul_comm 256]
  omega
theorem JX : ∀ (l : List Int), isB l → jC l 0 < 256 ^ l.length
 | [], _ => by simp [jC]
 | x :: l, h => by
  have h1 := JX l fun y hy => h y (qb4 _ hy)
  have hx := h x (qb1 ..)
  have h2 := u3 l (0 * 256 + x.toNat)
  unfold jC at h1 h2 ⊢
  rw [List.foldl_cons, h2, qbW, Nat.pow_succ, Nat.zero_mul, qbs]
  have : x.toNat * 256 ^ l.length + 256 ^ l.length ≤ 256 ^ l.length * 256 := by
   rw [Nat.mul_comm (256 ^ l.length) 256, ← qcg]
   exact qb6 _ (by omega)
  omega
theorem Vd : ∀ (l : List Int), isB l → ut l.length (jC l 0) = l
 | [], _ => rfl
 | x :: l, h => by
  have hl : isB l := fun y hy => h y (qb4 _ hy)
  have h1 := Vd l hl
  have hv := JX l hl
  have hx := h x (qb1 ..)
  have h2 : jC (x :: l) 0 = x.toNat * 256 ^ l.length + jC l 0 := by
   have h2 := u3 l (0 * 256 + x.toNat)
   unfold jC at h2 ⊢
   rw [List.foldl_cons, h2, Nat.zero_mul, qbs]
  rw [h2, qbW, ut, Yg, h1]
  congr 1
  rw [Nat.mul_comm, Nat.mul_add_div (z2 _), Nat.div_eq_of_lt hv]
  omega
def k7 (w : Nat) (n : Int) : List Int := ut w n.toNat
def tkN (S : Int) (w : Nat) : Tkr Int := fun b => if b.length < w then .err S else .ok (jC (b.take w) 0 : Int) (b.drop w)
theorem cdN (S : Int) (w : Nat) : Cd S (fun n : Int => 0 ≤ n ∧ n < (256 ^ w : Nat)) (k7 w) (tkN S w) where
 fwd n r h := by
  have hl : (k7 w n).length = w := u0 _ _
  unfold tkN
  rw [if_neg (by rw [qbz]; omega), List.take_append_of_le_length (by omega), qbT (by omega), List.drop_append_of_le_length (by omega), List.drop_of_length_le (by omega)]
  unfold k7
  rw [Yh, Nat.zero_mul, qbs, Nat.mod_eq_of_lt (by omega), Int.toNat_of_nonneg h.1]
  rfl
 bwd b n r hb h := by
  unfold tkN at h
  by_cases hw : b.length < w
  ·rw [if_pos hw] at h; cases h
  ·rw [if_neg hw] at h
   cases h
   have hb' : isB (b.take w) := fun x hx => hb x (List.mem_of_mem_take hx)
   have hl : (b.take w).length = w := by rw [qbS]; omega
   have h1 := Vd _ hb'
   have h2 := JX _ hb'
   rw [hl] at h1 h2
   refine ⟨?_, Int.natCast_nonneg _, by exact_mod_cast h2⟩
   unfold k7
   rw [qcb, h1, List.take_append_drop]
 sh n k h hk := by
  have hl : (k7 w n).length = w := u0 _ _
  unfold tkN
  rw [if_pos (by rw [qbS]; omega)]
end Go.Proofs.YtofklkbfkoliiaaGreat
namespace Go.Proofs.YtofklkbfkoliiaaGreat
set_option linter.unusedVariables false
set_option linter.unusedSimpArgs false
section
variable {α β : Type} {S : Int} {ok : α → Prop} {lay : α → List Int} {tk : Tkr α} {ok2 : α → β → Prop} {lay2 : α → β → List Int} {tk2 : α → Tkr β}
theorem Cd.dep (c : Cd S ok lay tk) (d : ∀ a, ok a → Cd S (ok2 a) (lay2 a) (tk2 a)) : Cd S (fun p : α × β => ok p.1 ∧ ok2 p.1 p.2) (fun p => lay p.1 ++ lay2 p.1 p.2) (fun b => (tk b).bind fun a r => (tk2 a r).bind fun x r => .ok (a, x) r) where
 fwd p r h := by
  rw [qbY, c.fwd _ _ h.1]
  show (tk2 _ _).bind _ = _
  rw [(d _ h.1).fwd _ _ h.2]
  rfl
 bwd b p r hb h := by
  cases h1 : tk b with
  | err e => rw [h1] at h; cases h
  | ok a r1 =>
   rw [h1] at h
   have h : (tk2 a r1).bind (fun x r => Tk.ok (a, x) r) = .ok p r := h
   obtain ⟨e1, k1⟩ := c.bwd b a r1 hb h1
   cases h2 : tk2 a r1 with
   | err e => rw [h2] at h; cases h
   | ok x r2 =>
    rw [h2] at h
    cases h
    obtain ⟨e2, k2⟩ := (d a k1).bwd r1 x r (by rw [e1] at hb; exact (isB_app.1 hb).2) h2
    exact ⟨by rw [e1, e2, qbY], k1, k2⟩
 sh p k h hk := by
  by_cases h1 : k < (lay p.1).length
  ·rw [List.take_append_of_le_length (by omega), c.sh _ _ h.1 h1]
   rfl
  ·rw [qbz] at hk
   rw [List.take_append, qbT (by omega), c.fwd _ _ h.1]
   show (tk2 _ _).bind _ = _
   rw [(d _ h.1).sh _ _ h.2 (by omega)]
   rfl
theorem Cd.iff {ok' : α → Prop} (c : Cd S ok lay tk) (h : ∀ a, ok' a ↔ ok a) : Cd S ok' lay tk where
 fwd a r k := c.fwd a r ((h a).1 k)
 bwd b a r hb e := ⟨(c.bwd b a r hb e).1, (h a).2 (c.bwd b a r hb e).2⟩
 sh a k k1 hk := c.sh a k ((h a).1 k1) hk
end
theorem Xk {i : I3} (h : uS i = true) : (1 ≤ i.t ∧ i.t ≤ 4611686018427387904) ∧ (1 ≤ i.s ∧ i.s ≤ 8) ∧ (1 ≤ i.q ∧ i.q ≤ 4611686018427387904) := by
 unfold uS UI isSt at h
 simpa using h
def idB (i : I3) : List Int := k7 8 i.t ++ (k7 1 i.s ++ k7 8 i.q)
def Ax (S : Int) : Tkr I3 := fun b => ((tkN S 8 b).bind fun t r => ((tkN S 1 r).bind fun s r => (tkN S 8 r).bind fun q r => Tk.ok (s, q) r).bind fun p r => .ok (t, p) r).bind fun a r => .ok ⟨a.1, a.2.1, a.2.2⟩ r
def tkId (S C : Int) : Tkr I3 := fun b => (Ax S b).bind fun a r => if uS a then .ok a r else .err C
theorem Ws (S C : Int) : Cd S (fun i => uS i = true) idB (tkId S C) :=
 ((((cdN S 8).seq ((cdN S 1).seq (cdN S 8))).map (ok2 := fun i : I3 => (0 ≤ i.t ∧ i.t < (256 ^ 8 : Nat)) ∧ (0 ≤ i.s ∧ i.s < (256 ^ 1 : Nat)) ∧ (0 ≤ i.q ∧ i.q < (256 ^ 8 : Nat))) (fun p => (⟨p.1, p.2.1, p.2.2⟩ : I3)) (fun i => (i.t, i.s, i.q)) (fun a h => ⟨rfl, h⟩) (fun x h => ⟨h, rfl⟩)).need C uS).iff fun i => by
  constructor
  ·intro h
   obtain ⟨h1, h2, h3⟩ := Xk h
   have e8 : ((256 ^ 8 : Nat) : Int) = 18446744073709551616 := by decide
   have e1 : ((256 ^ 1 : Nat) : Int) = 256 := by decide
   refine ⟨⟨?_, ?_, ?_⟩, h⟩ <;> (first | rw [e8] | rw [e1]) <;> omega
  ·exact fun h => h.2
def xm (x : Int) : List Int := k7 1 (x + 64)
def tkPl (S : Int) : Tkr Int := fun b => (tkN S 1 b).bind fun a r => .ok (a - 64) r
theorem xK (S : Int) : Cd S (fun x : Int => -64 ≤ x ∧ x < 192) xm (tkPl S) :=
 (cdN S 1).map (fun a => a - 64) (fun x => x + 64) (fun a h => by
  have e1 : ((256 ^ 1 : Nat) : Int) = 256 := by decide
  rw [e1] at h
  exact ⟨by omega, by omega⟩) (fun x h => by
  have e1 : ((256 ^ 1 : Nat) : Int) = 256 := by decide
  rw [e1]
  exact ⟨by omega, by omega⟩)
def okC (c : C4) : Prop := (0 ≤ c.r ∧ c.r < (256 ^ 1 : Nat)) ∧ (0 ≤ c.g ∧ c.g < (256 ^ 1 : Nat)) ∧ (0 ≤ c.b ∧ c.b < (256 ^ 1 : Nat)) ∧ (0 ≤ c.a ∧ c.a < (256 ^ 1 : Nat))
def Wt (c : C4) : List Int := k7 1 c.r ++ (k7 1 c.g ++ (k7 1 c.b ++ k7 1 c.a))
def Xl (S : Int) : Tkr C4 := fun b => ((tkN S 1 b).bind fun t r => ((tkN S 1 r).bind fun s r => ((tkN S 1 r).bind fun p r => (tkN S 1 r).bind fun q r => Tk.ok (p, q) r).bind fun q r => Tk.ok (s, q) r).bind fun p r => .ok (t, p) r).bind fun a r => .ok ⟨a.1, a.2.1, a.2.2.1, a.2.2.2⟩ r
theorem cdCo (S : Int) : Cd S okC Wt (Xl S) :=
 ((cdN S 1).seq ((cdN S 1).seq ((cdN S 1).seq (cdN S 1)))).map (ok2 := okC) (fun p : Int × Int × Int × Int => (⟨p.1, p.2.1, p.2.2.1, p.2.2.2⟩ : C4)) (fun c => (c.r, c.g, c.b, c.a)) (fun a h => ⟨rfl, h⟩) (fun x h => ⟨h, rfl⟩)
def tkSi (S C : Int) : Tkr Int := fun b => (tkN S 1 b).bind fun a r => if siD a then .ok a r else .err C
theorem cdSi (S C : Int) : Cd S (fun n => siD n = true) (k7 1) (tkSi S C) :=
 ((cdN S 1).need C siD).iff fun n => by
  have e1 : ((256 ^ 1 : Nat) : Int) = 256 := by decide
  rw [e1]
  constructor
  ·intro h
   have h2 := h
   unfold siD at h2
   simp at h2
   exact ⟨by omega, h⟩
  ·exact fun h => h.2
def stBy (s : (Int × Int) × List C4) : List Int := (k7 1 s.1.1 ++ k7 1 s.1.2) ++ s.2.flatMap Wt
def tkSt (S C : Int) : Tkr ((Int × Int) × List C4) := fun b => ((tkSi S C b).bind fun a r => (tkSi S C r).bind fun x r => Tk.ok (a, x) r).bind fun a r => (gX (Xl S) (a.1 * a.2).toNat r).bind fun x r => .ok (a, x) r
theorem cdSt (S C : Int) : Cd S (fun s : (Int × Int) × List C4 => (siD s.1.1 = true ∧ siD s.1.2 = true) ∧ s.2.length = (s.1.1 * s.1.2).toNat ∧ ∀ c ∈ s.2, okC c) stBy (tkSt S C) :=
 ((cdSi S C).seq (cdSi S C)).dep (ok2 := fun (a : Int × Int) (l : List C4) => l.length = (a.1 * a.2).toNat ∧ ∀ c ∈ l, okC c) (lay2 := fun _ (l : List C4) => l.flatMap Wt) (fun a _ => (cdCo S).rep (a.1 * a.2).toNat)
end Go.Proofs.YtofklkbfkoliiaaGreat
namespace Go.Proofs.YtofklkbfkoliiaaGreat
set_option linter.unusedVariables false
set_option linter.unusedSimpArgs false
def xL (x : Int) : Prop := -64 ≤ x ∧ x < 192
def isSz (x : Int) : Prop := 0 ≤ x ∧ x < (256 ^ 2 : Nat)
def cd12 (S C k : Int) : { tk : Tkr OpM // Cd S (fun o : OpM => o.kd = k ∧ uS o.id = true ∧ xL o.x ∧ xL o.y ∧ xL o.x2 ∧ xL o.y2 ∧ isSz o.sz ∧ okC o.co ∧ o.sw = 0 ∧ o.sh = 0 ∧ o.px = [] ∧ o.tg = zI3) (fun o => idB o.id ++ (xm o.x ++ (xm o.y ++ (xm o.x2 ++ (xm o.y2 ++ (k7 2 o.sz ++ Wt o.co)))))) tk } :=
 ⟨_, ((Ws S C).seq ((xK S).seq ((xK S).seq ((xK S).seq ((xK S).seq ((cdN S 2).seq (cdCo S))))))).map (fun p : I3 × Int × Int × Int × Int × Int × C4 => (⟨p.1, k, p.2.1, p.2.2.1, p.2.2.2.1, p.2.2.2.2.1, p.2.2.2.2.2.1, p.2.2.2.2.2.2, 0, 0, [], zI3⟩ : OpM)) (fun o => (o.id, o.x, o.y, o.x2, o.y2, o.sz, o.co))
  (fun a h => ⟨rfl, rfl, h.1, h.2.1, h.2.2.1, h.2.2.2.1, h.2.2.2.2.1, h.2.2.2.2.2.1, h.2.2.2.2.2.2, rfl, rfl, rfl, rfl⟩)
  (fun o h => by
   obtain ⟨id, kd, x, y, x2, y2, sz, co, sw, sh, px, tg⟩ := o
   obtain ⟨h1, h2, h3, h4, h5, h6, h7, h8, h9, h10, h11, h12⟩ := h
   dsimp only at h1 h2 h3 h4 h5 h6 h7 h8 h9 h10 h11 h12
   subst h1 h9 h10 h11 h12
   exact ⟨⟨h2, h3, h4, h5, h6, h7, h8⟩, rfl⟩)⟩
def cd34 (S C k : Int) : { tk : Tkr OpM // Cd S (fun o : OpM => o.kd = k ∧ uS o.id = true ∧ xL o.x ∧ xL o.y ∧ xL o.x2 ∧ xL o.y2 ∧ o.sz = 0 ∧ okC o.co ∧ o.sw = 0 ∧ o.sh = 0 ∧ o.px = [] ∧ o.tg = zI3) (fun o => idB o.id ++ (xm o.x ++ (xm o.y ++ (xm o.x2 ++ (xm o.y2 ++ Wt o.co))))) tk } :=
 ⟨_, ((Ws S C).seq ((xK S).seq ((xK S).seq ((xK S).seq ((xK S).seq (cdCo S)))))).map (fun p : I3 × Int × Int × Int × Int × C4 => (⟨p.1, k, p.2.1, p.2.2.1, p.2.2.2.1, p.2.2.2.2.1, 0, p.2.2.2.2.2, 0, 0, [], zI3⟩ : OpM)) (fun o => (o.id, o.x, o.y, o.x2, o.y2, o.co))
  (fun a h => ⟨rfl, rfl, h.1, h.2.1, h.2.2.1, h.2.2.2.1, h.2.2.2.2.1, rfl, h.2.2.2.2.2, rfl, rfl, rfl, rfl⟩)
  (fun o h => by
   obtain ⟨id, kd, x, y, x2, y2, sz, co, sw, sh, px, tg⟩ := o
   obtain ⟨h1, h2, h3, h4, h5, h6, h7, h8, h9, h10, h11, h12⟩ := h
   dsimp only at h1 h2 h3 h4 h5 h6 h7 h8 h9 h10 h11 h12
   subst h1 h7 h9 h10 h11 h12
   exact ⟨⟨h2, h3, h4, h5, h6, h8⟩, rfl⟩)⟩
def cd5 (S C k : Int) : { tk : Tkr OpM // Cd S (fun o : OpM => o.kd = k ∧ uS o.id = true ∧ xL o.x ∧ xL o.y ∧ o.x2 = 0 ∧ o.y2 = 0 ∧ isSz o.sz ∧ okC o.co ∧ o.sw = 0 ∧ o.sh = 0 ∧ o.px = [] ∧ o.tg = zI3) (fun o => idB o.id ++ (xm o.x ++ (xm o.y ++ (k7 2 o.sz ++ Wt o.co)))) tk } :=
 ⟨_, ((Ws S C).seq ((xK S).seq ((xK S).seq ((cdN S 2).seq (cdCo S))))).map (fun p : I3 × Int × Int × Int × C4 => (⟨p.1, k, p.2.1, p.2.2.1, 0, 0, p.2.2.2.1, p.2.2.2.2, 0, 0, [], zI3⟩ : OpM)) (fun o => (o.id, o.x, o.y, o.sz, o.co))
  (fun a h => ⟨rfl, rfl, h.1, h.2.1, h.2.2.1, rfl, rfl, h.2.2.2.1, h.2.2.2.2, rfl, rfl, rfl, rfl⟩)
  (fun o h => by
   obtain ⟨id, kd, x, y, x2, y2, sz, co, sw, sh, px, tg⟩ := o
   obtain ⟨h1, h2, h3, h4, h5, h6, h7, h8, h9, h10, h11, h12⟩ := h
   dsimp only at h1 h2 h3 h4 h5 h6 h7 h8 h9 h10 h11 h12
   subst h1 h5 h6 h9 h10 h11 h12
   exact ⟨⟨h2, h3, h4, h7, h8⟩, rfl⟩)⟩
def cd6 (S C k : Int) : { tk : Tkr OpM // Cd S (fun o : OpM => o.kd = k ∧ uS o.id = true ∧ xL o.x ∧ xL o.y ∧ o.x2 = 0 ∧ o.y2 = 0 ∧ o.sz = 0 ∧ o.co = zC4 ∧ ((siD o.sw = true ∧ siD o.sh = true) ∧ o.px.length = (o.sw * o.sh).toNat ∧ ∀ c ∈ o.px, okC c) ∧ o.tg = zI3) (fun o => idB o.id ++ (xm o.x ++ (xm o.y ++ stBy ((o.sw, o.sh), o.px)))) tk } :=
 ⟨_, ((Ws S C).seq ((xK S).seq ((xK S).seq (cdSt S C)))).map (fun p : I3 × Int × Int × (Int × Int) × List C4 => (⟨p.1, k, p.2.1, p.2.2.1, 0, 0, 0, zC4, p.2.2.2.1.1, p.2.2.2.1.2, p.2.2.2.2, zI3⟩ : OpM)) (fun o => (o.id, o.x, o.y, (o.sw, o.sh), o.px))
  (fun a h => ⟨rfl, rfl, h.1, h.2.1, h.2.2.1, rfl, rfl, rfl, rfl, h.2.2.2, rfl⟩)
  (fun o h => by
   obtain ⟨id, kd, x, y, x2, y2, sz, co, sw, sh, px, tg⟩ := o
   obtain ⟨h1, h2, h3, h4, h5, h6, h7, h8, h9, h10⟩ := h
   dsimp only at h1 h2 h3 h4 h5 h6 h7 h8 h9 h10
   subst h1 h5 h6 h7 h8 h10
   exact ⟨⟨h2, h3, h4, h9⟩, rfl⟩)⟩
def cd78 (S C k : Int) : { tk : Tkr OpM // Cd S (fun o : OpM => o.kd = k ∧ uS o.id = true ∧ o.x = 0 ∧ o.y = 0 ∧ o.x2 = 0 ∧ o.y2 = 0 ∧ o.sz = 0 ∧ o.co = zC4 ∧ o.sw = 0 ∧ o.sh = 0 ∧ o.px = [] ∧ uS o.tg = true) (fun o => idB o.id ++ idB o.tg) tk } :=
 ⟨_, ((Ws S C).seq (Ws S C)).map (fun p : I3 × I3 => (⟨p.1, k, 0, 0, 0, 0, 0, zC4, 0, 0, [], p.2⟩ : OpM)) (fun o => (o.id, o.tg))
  (fun a h => ⟨rfl, rfl, h.1, rfl, rfl, rfl, rfl, rfl, rfl, rfl, rfl, rfl, h.2⟩)
  (fun o h => by
   obtain ⟨id, kd, x, y, x2, y2, sz, co, sw, sh, px, tg⟩ := o
   obtain ⟨h1, h2, h3, h4, h5, h6, h7, h8, h9, h10, h11, h12⟩ := h
   dsimp only at h1 h2 h3 h4 h5 h6 h7 h8 h9 h10 h11 h12
   subst h1 h3 h4 h5 h6 h7 h8 h9 h10 h11
   exact ⟨⟨h2, h12⟩, rfl⟩)⟩
end Go.Proofs.YtofklkbfkoliiaaGreat
namespace Go.Proofs.YtofklkbfkoliiaaGreat
set_option linter.unusedVariables false
set_option linter.unusedSimpArgs false
def Wu (C : Int) (tk : Tkr OpM) : Tkr OpM := fun b => (tk b).bind fun a r => if opB a then .ok a r else .err C
def tkK (S C k : Int) : Tkr OpM :=
 if k = 1 ∨ k = 2 then Wu C (cd12 S C k).1 else if k = 3 ∨ k = 4 then Wu C (cd34 S C k).1 else if k = 5 then Wu C (cd5 S C k).1 else if k = 6 then Wu C (cd6 S C k).1 else Wu C (cd78 S C k).1
def isK (k : Int) : Bool := decide (1 ≤ k) && decide (k ≤ 8)
def Xm (S C : Int) : Tkr OpM := fun b => (((tkN S 1 b).bind fun a r => if isK a then .ok a r else .err C).bind fun a r => (tkK S C a r).bind fun x r => Tk.ok (a, x) r).bind fun a r => .ok a.2 r
end Go.Proofs.YtofklkbfkoliiaaGreat
namespace Go.Proofs.YtofklkbfkoliiaaGreat
set_option linter.unusedVariables false
set_option linter.unusedSimpArgs false
def isM (n : Int) : Bool := decide (n ≤ 64)
def Xn (S C : Int) : Tkr (List OpM) := fun b => (((tkN S 1 b).bind fun a r => if isM a then .ok a r else .err C).bind fun a r => (gX (Xm S C) a.toNat r).bind fun x r => Tk.ok (a, x) r).bind fun a r => .ok a.2 r
def wq (l : List Int) : List Int := l.flatMap (k7 8)
theorem qaM (S : Int) : Cd S (fun l : List Int => l.length = 8 ∧ ∀ n ∈ l, 0 ≤ n ∧ n < (256 ^ 8 : Nat)) wq (gX (tkN S 8) 8) := (cdN S 8).rep 8
end Go.Proofs.YtofklkbfkoliiaaGreat
namespace Go.Proofs.YtofklkbfkoliiaaGreat
set_option linter.unusedVariables false
set_option linter.unusedSimpArgs false
section
variable {α : Type} {S : Int} {ok : α → Prop} {lay : α → List Int} {tk : Tkr α}
theorem Cd.back (c : Cd S ok lay tk) {b r : List Int} {a : α} (hb : isB b) (h : tk b = .ok a r) : r.length ≤ b.length ∧ b.take (b.length - r.length) = lay a ∧ b.length - r.length = (lay a).length ∧ ok a := by
 obtain ⟨e, k⟩ := c.bwd b a r hb h
 have hl : b.length = (lay a).length + r.length := by rw [e, qbz]
 refine ⟨by omega, ?_, by omega, k⟩
 rw [show b.length - r.length = (lay a).length by omega, e, List.take_append_of_le_length (qbM _), qbT (qbM _)]
end
theorem Yi : ∀ w n, isB (ut w n)
 | 0, _ => fun x h => by cases h
 | w + 1, n => fun x h => by
  rw [ut] at h
  rcases List.mem_cons.1 h with rfl | h
  ·omega
  ·exact Yi w n x h
theorem wt (w : Nat) (n : Int) : isB (k7 w n) := Yi _ _
end Go.Proofs.YtofklkbfkoliiaaGreat
namespace Go.Proofs.YtofklkbfkoliiaaGreat
set_option linter.unusedVariables false
set_option linter.unusedSimpArgs false
def mkV (l : List Int) : Vec := fun i => if 1 ≤ i ∧ i ≤ 8 then (l.getD (i - 1) 0).toNat else 0
def gY (v : Vec) : List Int := [(v 1 : Int), v 2, v 3, v 4, v 5, v 6, v 7, v 8]
def vL (v : Vec) : List Int := wq (gY v)
def Yj (S C : Int) : Tkr Vec := fun b => ((gX (tkN S 8) 8 b).bind fun a r => Tk.ok (mkV a) r).bind fun a r => if vB a then .ok a r else .err C
theorem Xo {v : Vec} (h0 : v 0 = 0) (h9 : ∀ i, 9 ≤ i → v i = 0) : mkV (gY v) = v := by
 funext i
 unfold mkV
 by_cases h : 1 ≤ i ∧ i ≤ 8
 ·rw [if_pos h]
  have : i = 1 ∨ i = 2 ∨ i = 3 ∨ i = 4 ∨ i = 5 ∨ i = 6 ∨ i = 7 ∨ i = 8 := by omega
  rcases this with rfl | rfl | rfl | rfl | rfl | rfl | rfl | rfl <;> rfl
 ·rw [if_neg h]
  by_cases e : i = 0
  ·rw [e, h0]
  ·rw [h9 i (by omega)]
theorem Xp : ∀ {l : List Int}, l.length = 8 → (∀ n ∈ l, 0 ≤ n) → gY (mkV l) = l
 | [a, b, c, d, e, f, g, h], _, hn => by
  have k : ∀ n ∈ [a, b, c, d, e, f, g, h], ((n.toNat : Nat) : Int) = n := fun n hm => Int.toNat_of_nonneg (hn n hm)
  show [((a.toNat : Nat) : Int), b.toNat, c.toNat, d.toNat, e.toNat, f.toNat, g.toNat, h.toNat] = _
  rw [k a (by simp), k b (by simp), k c (by simp), k d (by simp), k e (by simp), k f (by simp), k g (by simp), k h (by simp)]
theorem Ay (S C : Int) : Cd S (fun v : Vec => vB v = true ∧ ∀ i, 9 ≤ i → v i = 0) vL (Yj S C) :=
 (((qaM S).map (ok2 := fun v : Vec => v 0 = 0 ∧ (∀ i, 9 ≤ i → v i = 0) ∧ ∀ i, i < 9 → (v i : Int) < (256 ^ 8 : Nat)) mkV gY
  (fun l h => ⟨Xp h.1 fun n hn => (h.2 n hn).1, rfl, fun i hi => if_neg (by omega), fun i hi => by
   unfold mkV
   by_cases e : 1 ≤ i ∧ i ≤ 8
   ·rw [if_pos e]
    have hl : i - 1 < l.length := by rw [h.1]; omega
    rw [qbV, qbr hl]
    have := h.2 _ (qb9 hl)
    show ((l[i - 1].toNat : Nat) : Int) < _
    rw [Int.toNat_of_nonneg this.1]
    exact this.2
   ·rw [if_neg e]
    decide⟩)
  (fun v h => ⟨⟨rfl, fun n hn => by
   have e : ∃ i, i < 9 ∧ n = (v i : Int) := by
    unfold gY at hn
    simp only [List.mem_cons, List.not_mem_nil, or_false] at hn
    rcases hn with e | e | e | e | e | e | e | e
    ·exact ⟨1, by omega, e⟩
    ·exact ⟨2, by omega, e⟩
    ·exact ⟨3, by omega, e⟩
    ·exact ⟨4, by omega, e⟩
    ·exact ⟨5, by omega, e⟩
    ·exact ⟨6, by omega, e⟩
    ·exact ⟨7, by omega, e⟩
    ·exact ⟨8, by omega, e⟩
   obtain ⟨i, hi, rfl⟩ := e
   exact ⟨Int.natCast_nonneg _, h.2.2 i hi⟩⟩, Xo h.1 h.2.1⟩)).need C vB).iff fun v => by
  constructor
  ·intro h
   obtain ⟨a, b⟩ := vB_iff.1 h.1
   refine ⟨⟨a, h.2, fun i hi => ?_⟩, h.1⟩
   have e8 : ((256 ^ 8 : Nat) : Int) = 18446744073709551616 := by decide
   have : v i ≤ 4611686018427387904 := b i hi
   rw [e8]
   omega
  ·exact fun h => ⟨h.2, h.1.2.1⟩
end Go.Proofs.YtofklkbfkoliiaaGreat
