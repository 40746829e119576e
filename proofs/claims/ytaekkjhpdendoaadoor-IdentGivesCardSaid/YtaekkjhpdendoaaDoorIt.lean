/- what types are; ids and clocks as data -/
import Derived.Test.YtaekkjhpdendoaaDoorLw
import Derived.Test.YtaekkjhpdendoaaDoorProg
namespace Go.Proofs.YtaekkjhpdendoaaDoor
set_option linter.unusedVariables false
set_option linter.unusedSimpArgs false
open Go.RowKit
theorem mixed : Tryd.prog.follows .mixedOrders = true := by kernel_rfl
theorem ar64 : arE Tryd.prog 64 = some (9, 3) := by kernel_rfl
theorem ar66 : arE Tryd.prog 66 = some (9, 3) := by kernel_rfl
theorem ar91 : arE Tryd.prog 91 = some (3, 1) := by kernel_rfl
theorem eq27 {a0 : Int} {a1 : Int} {a2 : Int} {b0 : Int} {b1 : Int} {b2 : Int} : eqT Tryd.prog 9 27 [.int .u64 a0, .int .i64 a1, .int .u64 a2] [.int .u64 b0, .int .i64 b1, .int .u64 b2] = some ((a0 == b0) && ((a1 == b1) && ((a2 == b2) && true))) := by kernel_rfl
theorem eq40 {a0 : Int} {a1 : Int} {a2 : Int} {b0 : Int} {b1 : Int} {b2 : Int} : eqT Tryd.prog 9 40 [.int .i64 a0, .int .u64 a1, .int .u64 a2] [.int .i64 b0, .int .u64 b1, .int .u64 b2] = some ((a0 == b0) && ((a1 == b1) && ((a2 == b2) && true))) := by kernel_rfl
theorem fl27 : fdL Tryd.prog 27 = some [(0, 1), (1, 1), (2, 1)] := by kernel_rfl
theorem fl40 : fdL Tryd.prog 40 = some [(0, 1), (1, 1), (2, 1)] := by kernel_rfl
theorem fl81 : fdL Tryd.prog 81 = some [(0, 3)] := by kernel_rfl
theorem fo27_0 : fdO Tryd.prog 27 0 = some 0 := by kernel_rfl
theorem fo27_1 : fdO Tryd.prog 27 1 = some 1 := by kernel_rfl
theorem fo27_2 : fdO Tryd.prog 27 2 = some 2 := by kernel_rfl
theorem fo40_0 : fdO Tryd.prog 40 0 = some 0 := by kernel_rfl
theorem fo40_1 : fdO Tryd.prog 40 1 = some 1 := by kernel_rfl
theorem fo40_2 : fdO Tryd.prog 40 2 = some 2 := by kernel_rfl
theorem fo68_0 : fdO Tryd.prog 68 0 = some 0 := by kernel_rfl
theorem fo68_1 : fdO Tryd.prog 68 1 = some 1 := by kernel_rfl
theorem fo68_2 : fdO Tryd.prog 68 2 = some 2 := by kernel_rfl
theorem fo81_0 : fdO Tryd.prog 81 0 = some 0 := by kernel_rfl
theorem gd27 : Tryd.prog.eqGuardType Tryd.prog.depth 27 = false := by kernel_rfl
theorem gd40 : Tryd.prog.eqGuardType Tryd.prog.depth 40 = false := by kernel_rfl
theorem kn25 : knd Tryd.prog 25 = some .u64 := by kernel_rfl
theorem kn3 : knd Tryd.prog 3 = some .i64 := by kernel_rfl
theorem kn69 : knd Tryd.prog 69 = some .u64 := by kernel_rfl
theorem mp65 : mpT Tryd.prog 65 = some (27, 3) := by kernel_rfl
theorem ni89 : niF Tryd.prog 89 = true := by kernel_rfl
theorem sl22 : slE Tryd.prog 22 = some (27, 3, 24) := by kernel_rfl
theorem sl36 : slE Tryd.prog 36 = some (40, 3, 24) := by kernel_rfl
theorem sl37 : slE Tryd.prog 37 = some (25, 1, 8) := by kernel_rfl
theorem sl63 : slE Tryd.prog 63 = some (68, 3, 24) := by kernel_rfl
theorem sl96 : slE Tryd.prog 96 = some (3, 1, 8) := by kernel_rfl
theorem tb22 : tyB Tryd.prog 22 = some (false, 1) := by kernel_rfl
theorem tb25 : tyB Tryd.prog 25 = some (false, 1) := by kernel_rfl
theorem tb27 : tyB Tryd.prog 27 = some (true, 3) := by kernel_rfl
theorem tb28 : tyB Tryd.prog 28 = some (false, 1) := by kernel_rfl
theorem tb3 : tyB Tryd.prog 3 = some (false, 1) := by kernel_rfl
theorem tb31 : tyB Tryd.prog 31 = some (false, 1) := by kernel_rfl
theorem tb4 : tyB Tryd.prog 4 = some (false, 1) := by kernel_rfl
theorem tb40 : tyB Tryd.prog 40 = some (true, 3) := by kernel_rfl
theorem tb68 : tyB Tryd.prog 68 = some (true, 3) := by kernel_rfl
theorem tb81 : tyB Tryd.prog 81 = some (true, 3) := by kernel_rfl
theorem tb89 : tyB Tryd.prog 89 = some (true, 0) := by kernel_rfl
theorem tb91 : tyB Tryd.prog 91 = some (true, 3) := by kernel_rfl
theorem ty21 : (tyB Tryd.prog 21).isSome = true := by kernel_rfl
theorem ty25 : (tyB Tryd.prog 25).isSome = true := by kernel_rfl
theorem ty3 : (tyB Tryd.prog 3).isSome = true := by kernel_rfl
theorem ty69 : (tyB Tryd.prog 69).isSome = true := by kernel_rfl
theorem un4 : Tryd.prog.underlying 4 = some .bool := by kernel_rfl
theorem un9 : Tryd.prog.underlying 9 = some .string := by kernel_rfl
theorem zr25 : zrC Tryd.prog 25 = some [.int .u64 0] := by kernel_rfl
theorem zr27 : zrC Tryd.prog 27 = some [.int .u64 0, .int .i64 0, .int .u64 0] := by kernel_rfl
theorem zr28 : zrC Tryd.prog 28 = some [.int .i64 0] := by kernel_rfl
theorem zr3 : zrC Tryd.prog 3 = some [.int .i64 0] := by kernel_rfl
theorem zr4 : zrC Tryd.prog 4 = some [.bool false] := by kernel_rfl
theorem zr40 : zrC Tryd.prog 40 = some [.int .i64 0, .int .u64 0, .int .u64 0] := by kernel_rfl
theorem zr64 : zrC Tryd.prog 64 = some [.int .i64 0, .int .u64 0, .int .u64 0, .int .i64 0, .int .u64 0, .int .u64 0, .int .i64 0, .int .u64 0, .int .u64 0, .int .i64 0, .int .u64 0, .int .u64 0, .int .i64 0, .int .u64 0, .int .u64 0, .int .i64 0, .int .u64 0, .int .u64 0, .int .i64 0, .int .u64 0, .int .u64 0, .int .i64 0, .int .u64 0, .int .u64 0, .int .i64 0, .int .u64 0, .int .u64 0] := by kernel_rfl
theorem zr66 : zrC Tryd.prog 66 = some [.int .u64 0, .int .i64 0, .int .u64 0, .int .u64 0, .int .i64 0, .int .u64 0, .int .u64 0, .int .i64 0, .int .u64 0, .int .u64 0, .int .i64 0, .int .u64 0, .int .u64 0, .int .i64 0, .int .u64 0, .int .u64 0, .int .i64 0, .int .u64 0, .int .u64 0, .int .i64 0, .int .u64 0, .int .u64 0, .int .i64 0, .int .u64 0, .int .u64 0, .int .i64 0, .int .u64 0] := by kernel_rfl
theorem zr68 : zrC Tryd.prog 68 = some [.int .i64 0, .bool false, .int .u64 0] := by kernel_rfl
theorem zr81 : zrC Tryd.prog 81 = some [.int .i64 0, .int .u64 0, .int .u64 0] := by kernel_rfl
theorem zr89 : zrC Tryd.prog 89 = some [] := by kernel_rfl
theorem zr91 : zrC Tryd.prog 91 = some [.int .u64 0, .int .u64 0, .int .u64 0] := by kernel_rfl
theorem zv3 : zrV Tryd.prog 3 = some (.int .i64 0) := by kernel_rfl
theorem zv89 : zrV Tryd.prog 89 = some (.agg #[]) := by kernel_rfl
structure I3 where
  t : Int
  s : Int
  q : Int
deriving DecidableEq
def idc (i : I3) : List Value := [.int .u64 i.t, .int .i64 i.s, .int .u64 i.q]
abbrev idD (i : I3) : D := .val (.agg #[.int .u64 i.t, .int .i64 i.s, .int .u64 i.q])
def ic (n : Int) : List Value := [.int .i64 n]
def uc (n : Int) : List Value := [.int .u64 n]
abbrev rowI (l : List Int) : D := .slf 1 l.length (l.flatMap ic)
abbrev rowU (l : List Int) : D := .slf 1 l.length (l.flatMap uc)
abbrev rowD (l : List I3) : D := .slf 3 l.length (l.flatMap idc)
def isNum (n : Int) : Bool := decide (1 ≤ n) && decide (n ≤ 4611686018427387904)
def isSt (n : Int) : Bool := decide (1 ≤ n) && decide (n ≤ 8)
def mayR (i : I3) : Bool := isNum i.t && (isSt i.s && isNum i.q)
def errOr (b : Bool) (n : Int) : Int := match b with | true => 0 | false => n
def lessR (a b : I3) : Bool := if a.t ≠ b.t then decide (a.t < b.t) else if a.s ≠ b.s then decide (a.s < b.s) else decide (a.q < b.q)
def cmpI (x y : Int) : Int := if x < y then -1 else if y < x then 1 else 0
def orL : List Int → Int
  | [] => 0
  | a :: l => if a ≠ 0 then a else orL l
theorem orL_drop {l : List Int} {k : Nat} (h : k < l.length) : orL (l.drop k) = if l[k] ≠ 0 then l[k] else orL (l.drop (k + 1)) := by
  rw [List.drop_eq_getElem_cons h, orL]
def eqI (a b : I3) : Bool := (a.t == b.t) && ((a.s == b.s) && ((a.q == b.q) && true))
theorem eqI_iff {a b : I3} : eqI a b = true ↔ a = b := by
  obtain ⟨t, s, q⟩ := a
  obtain ⟨t', s', q'⟩ := b
  simp [eqI]
theorem eqI_no {a b : I3} : eqI a b = false ↔ a ≠ b := by
  rw [← Bool.not_eq_true, eqI_iff]
def cmpR (a b : I3) : Int := if eqI a b then 0 else orL [cmpI a.t b.t, cmpI a.s b.s, cmpI a.q b.q]
def lessC (a b : I3) : Bool := decide (cmpR a b < 0)
def sgnC (a b : I3) : Int := if lessC a b then -1 else if lessC b a then 1 else 0
def sink (j : Nat) (l : List I3) : List I3 :=
  if h : 0 < j ∧ j < l.length then
    if sgnC l[j] l[j - 1] < 0 then sink (j - 1) ((l.set j l[j - 1]).set (j - 1) l[j]) else l
  else l
termination_by j
decreasing_by omega
theorem sink_go {j : Nat} {l : List I3} (h : 0 < j) (h2 : j < l.length) (h3 : sgnC l[j] l[j - 1] < 0) : sink j l = sink (j - 1) ((l.set j l[j - 1]).set (j - 1) l[j]) := by
  conv => lhs; rw [sink]
  rw [dif_pos ⟨h, h2⟩, if_pos h3]
theorem sink_stop {j : Nat} {l : List I3} (h : ¬ (0 < j) ∨ ∃ (h2 : j < l.length), ¬ sgnC l[j] l[j - 1] < 0) : sink j l = l := by
  rw [sink]
  split
  · rename_i h'
    rcases h with h | ⟨_, h⟩
    · exact absurd h'.1 h
    · rw [if_neg h]
  · rfl
theorem sink_len : ∀ (j : Nat) (l : List I3), (sink j l).length = l.length := by
  intro j
  induction j with
  | zero => intro l; rw [sink_stop (.inl (by omega))]
  | succ j ih =>
    intro l
    by_cases h : j + 1 < l.length
    · by_cases h3 : sgnC l[j + 1] l[j + 1 - 1] < 0
      · rw [sink_go (by omega) h h3]; exact (ih _).trans (by simp)
      · rw [sink_stop (.inr ⟨h, h3⟩)]
    · rw [sink, dif_neg (fun q => h q.2)]
def srt : Nat → Nat → List I3 → List I3
  | 0, _, l => l
  | f + 1, i, l => srt f (i + 1) (sink i l)
theorem srt_len : ∀ (f i : Nat) (l : List I3), (srt f i l).length = l.length
  | 0, _, _ => rfl
  | f + 1, i, l => by rw [srt, srt_len f, sink_len]
def isortC (l : List I3) : List I3 := srt (l.length - 1) 1 l
theorem isortC_len (l : List I3) : (isortC l).length = l.length := srt_len _ _ _
theorem bn_t {b : Bool} (h : (!b) = true) : b = false := by cases b <;> simp_all
theorem bn_f {b : Bool} (h : (!b) = false) : b = true := by cases b <;> simp_all
theorem lessR_self (a : I3) : lessR a a = false := by simp [lessR]
theorem cmpR_eq (a b : I3) : cmpR a b = if lessR a b then -1 else if lessR b a then 1 else 0 := by
  obtain ⟨t, s, q⟩ := a
  obtain ⟨t', s', q'⟩ := b
  by_cases e : (⟨t, s, q⟩ : I3) = ⟨t', s', q'⟩
  · cases e
    simp [cmpR, eqI, lessR_self]
  · have h : eqI ⟨t, s, q⟩ ⟨t', s', q'⟩ = false := eqI_no.2 e
    simp only [cmpR, h, orL, cmpI, lessR]
    by_cases h1 : t = t'
    · subst h1
      by_cases h2 : s = s'
      · subst h2
        have h3 : q ≠ q' := fun x => e (by rw [x])
        rcases Int.lt_or_gt_of_ne h3 with g | g
        · simp [g, h3]
        · simp [g, h3.symm, h3, Int.not_lt.2 (Int.le_of_lt g)]
      · rcases Int.lt_or_gt_of_ne h2 with g | g
        · simp [g, h2]
        · simp [g, h2, Ne.symm h2, Int.not_lt.2 (Int.le_of_lt g)]
    · rcases Int.lt_or_gt_of_ne h1 with g | g
      · simp [g, h1]
      · simp [g, h1, Ne.symm h1, Int.not_lt.2 (Int.le_of_lt g)]
theorem lessC_eq (a b : I3) : lessC a b = lessR a b := by
  unfold lessC
  rw [cmpR_eq]
  cases h : lessR a b <;> cases h2 : lessR b a <;> simp
def ris : List I3 → Bool
  | [] => true
  | a :: l => match l with
    | [] => true
    | b :: _ => lessR a b && ris l
theorem ris_drop {l : List I3} {k : Nat} (h : k + 1 < l.length) : ris (l.drop k) = (lessR l[k] l[k + 1] && ris (l.drop (k + 1))) := by
  rw [List.drop_eq_getElem_cons (show k < l.length by omega), List.drop_eq_getElem_cons h, ris]
theorem ris_end {l : List I3} {k : Nat} (h : l.length ≤ k + 1) : ris (l.drop k) = true := by
  by_cases e : k < l.length
  · rw [List.drop_eq_getElem_cons e, List.drop_of_length_le (by omega), ris]
  · rw [List.drop_of_length_le (by omega), ris]
structure C3 where
  s : Int
  t : Int
  q : Int
deriving DecidableEq
def ckc (c : C3) : List Value := [.int .i64 c.s, .int .u64 c.t, .int .u64 c.q]
abbrev ckD (c : C3) : D := .val (.agg #[.int .i64 c.s, .int .u64 c.t, .int .u64 c.q])
def eqC (a b : C3) : Bool := (a.s == b.s) && ((a.t == b.t) && ((a.q == b.q) && true))
theorem eqC_iff {a b : C3} : eqC a b = true ↔ a = b := by
  obtain ⟨t, s, q⟩ := a
  obtain ⟨t', s', q'⟩ := b
  simp [eqC]
def zC : C3 := ⟨0, 0, 0⟩
def zI : I3 := ⟨0, 0, 0⟩
def clkR (c : C3) : Bool := isSt c.s && (decide (c.t ≤ 4611686018427387904) && decide (c.q ≤ 4611686018427387904))
def C3.rng (c : C3) : Prop := 0 ≤ c.t ∧ 0 ≤ c.q
def newC (s : Int) : C3 × Int := if isSt s then (⟨s, 0, 0⟩, 0) else (zC, 2)
def stepC (c : C3) : C3 := ⟨c.s, c.t + 1, c.q + 1⟩
def stepI (c : C3) : I3 := ⟨c.t + 1, c.s, c.q + 1⟩
def lateC (c : C3) : Bool := (c.t == 4611686018427387904) || (c.q == 4611686018427387904)
def nextC (c : C3) : C3 × I3 × Int := if clkR c then (if lateC c then (zC, zI, 212) else (stepC c, stepI c, 0)) else (zC, zI, 211)
def nextR (c : C3) : C3 × I3 × Bool := if lateC c then (zC, zI, false) else (stepC c, stepI c, true)
def over (t : Int) : Bool := decide (4611686018427387904 < t)
def ixU : List Int → Nat → Int
  | [], _ => -1
  | a :: l, k => if over a then (k : Int) else ixU l (k + 1)
theorem ixU_drop {l : List Int} {k : Nat} (h : k < l.length) : ixU (l.drop k) k = if over l[k] then (k : Int) else ixU (l.drop (k + 1)) (k + 1) := by
  rw [List.drop_eq_getElem_cons h, ixU]
theorem ixU_any : ∀ (l : List Int) (k : Nat), decide (0 ≤ ixU l k) = l.any over
  | [], _ => by simp [ixU]
  | a :: l, k => by
    rw [ixU, List.any_cons]
    cases h : over a
    · simpa using ixU_any l (k + 1)
    · simp
def maxT (t : Int) (l : List Int) : Int := l.foldl max t
theorem maxT_take {t : Int} {l : List Int} {k : Nat} (h : k < l.length) : maxT t (l.take (k + 1)) = max (maxT t (l.take k)) l[k] := by
  rw [List.take_succ_eq_append_getElem h, maxT, List.foldl_append]; rfl
def seeC (c : C3) (l : List Int) : C3 × Int := if clkR c then (if l.any over then (zC, 2) else (⟨c.s, maxT c.t l, c.q⟩, 0)) else (zC, 211)
def seeR (c : C3) (l : List Int) : C3 × Bool := if l.any over then (zC, false) else (⟨c.s, maxT c.t l, c.q⟩, true)
theorem any_take {l : List Int} {k : Nat} (h : k < l.length) : (l.take (k + 1)).any over = ((l.take k).any over || over l[k]) := by
  rw [List.take_succ_eq_append_getElem h, List.any_append]; simp only [List.any_cons, List.any_nil, Bool.or_false]
theorem okE {b : Bool} {n : Int} (hn : n ≠ 0) (h : errOr b n = 0) : b = true := by cases b <;> simp_all [errOr]
theorem badE {b : Bool} {n : Int} (h : ¬ errOr b n = 0) : b = false := by cases b <;> simp_all [errOr]
theorem give_ok {c : C3} (hr : c.rng) (h : clkR c = true) (h2 : ¬ c.t = 4611686018427387904 ∧ ¬ c.q = 4611686018427387904) : (0 ≤ c.t ∧ c.t < 4611686018427387904) ∧ (0 ≤ c.q ∧ c.q < 4611686018427387904) := by
  obtain ⟨h3, h4⟩ := hr
  simp only [clkR, Bool.and_eq_true, decide_eq_true_eq] at h
  omega
theorem lessR_iff (a b : I3) : lessR a b = true ↔ a.t < b.t ∨ (a.t = b.t ∧ (a.s < b.s ∨ (a.s = b.s ∧ a.q < b.q))) := by
  unfold lessR
  by_cases h1 : a.t = b.t
  · rw [if_neg (by simpa using h1)]
    by_cases h2 : a.s = b.s
    · rw [if_neg (by simpa using h2)]
      simp only [decide_eq_true_eq]
      omega
    · rw [if_pos h2]
      simp only [decide_eq_true_eq]
      omega
  · rw [if_pos h1]
    simp only [decide_eq_true_eq]
    omega
theorem lt_le {x a b : I3} (h : lessR x a = true) (hab : lessR b a = false) : lessR x b = true := by
  rw [lessR_iff] at *
  have : ¬ (b.t < a.t ∨ (b.t = a.t ∧ (b.s < a.s ∨ (b.s = a.s ∧ b.q < a.q)))) := fun h' => by rw [(lessR_iff b a).2 h'] at hab; cases hab
  omega
theorem lt_asymm' {x a : I3} (h : lessR x a = true) : lessR a x = false := by
  rw [← Bool.not_eq_true]
  intro h'
  rw [lessR_iff] at *
  omega
theorem sgnC_neg (a b : I3) : sgnC a b < 0 ↔ lessR a b = true := by
  unfold sgnC
  rw [lessC_eq, lessC_eq]
  cases lessR a b <;> cases lessR b a <;> simp
/-- inserted from the right -/
def insR : List I3 → I3 → List I3
  | P, x => ((P.reverse.dropWhile fun y => lessR x y).reverse) ++ x :: (P.reverse.takeWhile fun y => lessR x y).reverse
theorem insR_nil (x : I3) : insR [] x = [x] := rfl
theorem insR_go (P : List I3) (y x : I3) (h : lessR x y = true) : insR (P ++ [y]) x = insR P x ++ [y] := by
  unfold insR; simp [h]
theorem insR_stop (P : List I3) (y x : I3) (h : lessR x y = false) : insR (P ++ [y]) x = P ++ [y] ++ [x] := by
  unfold insR; simp [h]
theorem insR_len (P : List I3) (x : I3) : (insR P x).length = P.length + 1 := by
  unfold insR
  simp only [List.length_append, List.length_cons, List.length_reverse]
  have := congrArg List.length (List.takeWhile_append_dropWhile (p := fun y => lessR x y) (l := P.reverse))
  simp only [List.length_append, List.length_reverse] at this
  omega
theorem sink_ins : ∀ (n : Nat) (P : List I3) (x : I3) (R : List I3), P.length = n → sink n (P ++ x :: R) = insR P x ++ R := by
  intro n
  induction n with
  | zero =>
    intro P x R h
    obtain rfl := List.eq_nil_of_length_eq_zero h
    rw [sink_stop (.inl (by omega))]
    rfl
  | succ n ih =>
    intro P x R h
    rcases List.eq_nil_or_concat P with e | ⟨Q, y, e⟩
    · subst e; simp at h
    · rw [List.concat_eq_append] at e
      subst e
      have hQ : Q.length = n := by simpa using h
      subst hQ
      have g1 : (Q ++ [y] ++ x :: R)[Q.length + 1]'(by simp <;> omega) = x := by
        rw [List.getElem_append_right (by simp)]; simp
      have g2 : (Q ++ [y] ++ x :: R)[Q.length + 1 - 1]'(by simp <;> omega) = y := by
        rw [List.getElem_append_left (by simp)]; simp
      cases hl : lessR x y with
      | true =>
        rw [sink_go (by omega) (by simp <;> omega) (by rw [g1, g2]; exact (sgnC_neg _ _).2 hl), insR_go _ _ _ hl, g1, g2]
        have e2 : ((Q ++ [y] ++ x :: R).set (Q.length + 1) y).set (Q.length + 1 - 1) x = Q ++ x :: y :: R := by
          rw [List.append_assoc, List.set_append_right _ _ (by omega), show Q.length + 1 - Q.length = 1 by omega, show Q.length + 1 - 1 = Q.length by omega, List.set_append_right _ _ (by omega)]
          simp
        rw [e2, show Q.length + 1 - 1 = Q.length by omega, ih Q x (y :: R) rfl]
        simp
      | false =>
        rw [sink_stop (.inr ⟨by simp <;> omega, by rw [g1, g2, sgnC_neg, hl]; simp⟩), insR_stop _ _ _ hl]
        simp
theorem srt_ins : ∀ (R P : List I3), srt R.length P.length (P ++ R) = R.foldl insR P
  | [], P => by simp [srt]
  | x :: R, P => by
    rw [List.length_cons, srt, sink_ins P.length P x R rfl, List.foldl_cons, ← srt_ins R (insR P x), insR_len]
def sortR (l : List I3) : List I3 := l.foldl insR []
theorem isortC_eq (l : List I3) : isortC l = sortR l := by
  unfold isortC sortR
  cases l with
  | nil => rfl
  | cons a r => exact srt_ins r [a]
/-- inserted from the left -/
def placeL (P : List I3) (x : I3) : Nat := (P.takeWhile fun y => !lessR x y).length
def insL (P : List I3) (x : I3) : List I3 := P.take (placeL P x) ++ x :: P.drop (placeL P x)
def upI' (P : List I3) : Prop := P.Pairwise fun a b => lessR b a = false
theorem insL_eq (P : List I3) (x : I3) : insL P x = (P.takeWhile fun y => !lessR x y) ++ x :: (P.dropWhile fun y => !lessR x y) := by
  have e : P = (P.takeWhile fun y => !lessR x y) ++ (P.dropWhile fun y => !lessR x y) := (List.takeWhile_append_dropWhile ..).symm
  have h : ∀ A B : List I3, P = A ++ B → P.take A.length = A ∧ P.drop A.length = B := by
    intro A B h; subst h; simp
  obtain ⟨h1, h2⟩ := h _ _ e
  unfold insL placeL
  rw [h1, h2]
theorem all_behind {P : List I3} (h : upI' P) (x : I3) : ∀ y ∈ P.dropWhile (fun y => !lessR x y), lessR x y = true := by
  induction P with
  | nil => intro y hy; cases hy
  | cons a P ih =>
    intro y hy
    obtain ⟨h1, h2⟩ := List.pairwise_cons.1 h
    rw [List.dropWhile_cons] at hy
    split at hy
    · exact ih h2 y hy
    · rename_i hn
      have ha : lessR x a = true := by simpa using hn
      rcases List.mem_cons.1 hy with rfl | hy
      · exact ha
      · exact lt_le ha (h1 y hy)
theorem insL_insR {P : List I3} (h : upI' P) (x : I3) : insL P x = insR P x := by
  rw [insL_eq]
  have hb := all_behind h x
  have ha : ∀ y ∈ P.takeWhile (fun y => !lessR x y), lessR x y = false := fun y hy => by
    have := List.all_eq_true.1 (List.all_takeWhile (p := fun y => !lessR x y) (l := P)) y hy
    simpa using this
  have e : P = (P.takeWhile fun y => !lessR x y) ++ (P.dropWhile fun y => !lessR x y) := (List.takeWhile_append_dropWhile ..).symm
  generalize P.takeWhile (fun y => !lessR x y) = A at *
  generalize P.dropWhile (fun y => !lessR x y) = B at *
  subst e
  have r1 : ∀ (n : Nat) (B : List I3), B.length = n → (∀ y ∈ B, lessR x y = true) → insR (A ++ B) x = A ++ x :: B := by
    intro n
    induction n with
    | zero =>
      intro B hn _
      obtain rfl := List.eq_nil_of_length_eq_zero hn
      rw [List.append_nil]
      rcases List.eq_nil_or_concat A with e | ⟨A', y, e⟩
      · subst e; rfl
      · subst e
        rw [List.concat_eq_append] at ha ⊢
        rw [insR_stop _ _ _ (ha y (by simp))]
    | succ n ih =>
      intro B hn hB
      rcases List.eq_nil_or_concat B with e | ⟨B', y, e⟩
      · subst e; simp at hn
      · subst e
        rw [List.concat_eq_append] at hn hB ⊢
        rw [← List.append_assoc, insR_go _ _ _ (hB y (by simp)), ih B' (by simpa using hn) (fun z hz => hB z (by simp [hz]))]
        simp
  exact (r1 _ B rfl hb).symm
theorem insL_up {P : List I3} (h : upI' P) (x : I3) : upI' (insL P x) := by
  have hb := all_behind h x
  rw [insL_eq]
  have ha : ∀ y ∈ P.takeWhile (fun y => !lessR x y), lessR x y = false := fun y hy => by
    have := List.all_eq_true.1 (List.all_takeWhile (p := fun y => !lessR x y) (l := P)) y hy
    simpa using this
  have e : P = (P.takeWhile fun y => !lessR x y) ++ (P.dropWhile fun y => !lessR x y) := (List.takeWhile_append_dropWhile ..).symm
  generalize P.takeWhile (fun y => !lessR x y) = A at *
  generalize P.dropWhile (fun y => !lessR x y) = B at *
  subst e
  unfold upI' at *
  rw [List.pairwise_append] at *
  obtain ⟨h1, h2, h3⟩ := h
  refine ⟨h1, List.pairwise_cons.2 ⟨fun b hb' => lt_asymm' (hb b hb'), h2⟩, fun a ha' b hb' => ?_⟩
  rcases List.mem_cons.1 hb' with rfl | hb'
  · exact ha a ha'
  · exact h3 a ha' b hb'
def sortD (l : List I3) : List I3 := l.foldl insL []
theorem sortD_up (l : List I3) : upI' (sortD l) ∧ sortD l = sortR l := by
  have : ∀ (l P : List I3), upI' P → upI' (l.foldl insL P) ∧ l.foldl insL P = l.foldl insR P := by
    intro l
    induction l with
    | nil => intro P h; exact ⟨h, rfl⟩
    | cons x l ih => intro P h; rw [List.foldl_cons, List.foldl_cons, ← insL_insR h]; exact ih _ (insL_up h x)
  exact this l [] List.Pairwise.nil
theorem sorted_eq (l : List I3) : isortC l = sortD l := (isortC_eq l).trans (sortD_up l).2.symm
theorem sortD_len (l : List I3) : (sortD l).length = l.length := by rw [← sorted_eq, isortC_len]
theorem sortD_take {l : List I3} {k : Nat} (h : k < l.length) : sortD (l.take (k + 1)) = insL (sortD (l.take k)) l[k] := by
  unfold sortD
  rw [List.take_succ_eq_append_getElem h, List.foldl_append]; rfl
theorem placeL_drop {P : List I3} {x : I3} {j : Nat} (h : j < P.length) : placeL (P.drop j) x = if lessR x P[j] then 0 else 1 + placeL (P.drop (j + 1)) x := by
  rw [List.drop_eq_getElem_cons h, placeL, List.takeWhile_cons]
  cases lessR x P[j] <;> simp [placeL, Nat.add_comm]
theorem idc_len (i : I3) : (idc i).length = 3 := rfl
theorem ins_row {o : List I3} {i : I3} {j : Nat} (hj : j ≤ o.length) : (((([] : List Value) ++ ((o.flatMap idc).drop (0 * 3)).take (j * 3)) ++ idc i) ++ ((o.flatMap idc).drop (j * 3)).take ((o.length - j) * 3)) = (o.take j ++ i :: o.drop j).flatMap idc := by
  rw [Nat.zero_mul, List.drop_zero, flat_take idc_len, flat_drop idc_len, flat_take idc_len, List.take_of_length_le (l := o.drop j) (by simp), List.nil_append, List.flatMap_append, List.flatMap_cons, List.append_assoc]
theorem insL_perm (P : List I3) (x : I3) : (insL P x).Perm (x :: P) := by
  rw [insL_eq]
  refine List.perm_middle.trans ?_
  rw [List.takeWhile_append_dropWhile]
theorem sortD_perm (l : List I3) : (sortD l).Perm l := by
  have : ∀ (l P : List I3), (l.foldl insL P).Perm (l ++ P) := by
    intro l
    induction l with
    | nil => intro P; exact List.Perm.refl _
    | cons x l ih =>
      intro P
      rw [List.foldl_cons]
      refine (ih _).trans ?_
      exact ((insL_perm P x).append_left l).trans List.perm_middle
  simpa [sortD] using this l []
theorem lessR_ne {a b : I3} (h : lessR a b = false) (h2 : lessR b a = false) : a = b := by
  have h3 : ¬ (a.t < b.t ∨ (a.t = b.t ∧ (a.s < b.s ∨ (a.s = b.s ∧ a.q < b.q)))) := fun x => by rw [(lessR_iff a b).2 x] at h; cases h
  have h4 : ¬ (b.t < a.t ∨ (b.t = a.t ∧ (b.s < a.s ∨ (b.s = a.s ∧ b.q < a.q)))) := fun x => by rw [(lessR_iff b a).2 x] at h2; cases h2
  obtain ⟨t, s, q⟩ := a
  obtain ⟨t', s', q'⟩ := b
  simp only at h3 h4
  have e1 : t = t' := by omega
  have e2 : s = s' := by omega
  have e3 : q = q' := by omega
  rw [e1, e2, e3]
theorem lessR_trans {a b c : I3} (h : lessR a b = true) (h2 : lessR b c = true) : lessR a c = true := by
  rw [lessR_iff] at *
  omega
theorem tot1 (a b : I3) : (cmpR a b != IntKind.i64.wrap (0 - cmpR b a) || (cmpR a b == 0) != eqI a b) = false := by
  rw [cmpR_eq, cmpR_eq]
  cases h : lessR a b <;> cases h2 : lessR b a
  · rw [lessR_ne h h2]
    have := eqI_iff.2 (rfl : b = b)
    simp [this]
    rfl
  · have : eqI a b = false := eqI_no.2 fun e => by subst e; simp [lessR_self] at h2
    simp [this]
    rfl
  · have : eqI a b = false := eqI_no.2 fun e => by subst e; simp [lessR_self] at h
    simp [this]
    rfl
  · have := lt_asymm' h
    rw [h2] at this
    cases this
theorem tot2 (a b c : I3) : (lessC a b && lessC b c && !lessC a c) = false := by
  rw [lessC_eq, lessC_eq, lessC_eq]
  cases h : lessR a b <;> cases h2 : lessR b c <;> simp
  exact lessR_trans h h2
theorem tot3 (a b c : I3) : ∃ x y z, isortC [a, b, c] = [x, y, z] ∧ lessC y x = false ∧ lessC z y = false ∧ ris [x, y, z] = (!eqI a b && !eqI b c && !eqI a c) := by
  rw [sorted_eq]
  have hp := sortD_perm [a, b, c]
  have hu := (sortD_up [a, b, c]).1
  generalize sortD [a, b, c] = l at *
  have hl : l.length = 3 := hp.length_eq
  obtain ⟨x, y, z, rfl⟩ : ∃ x y z, l = [x, y, z] := by
    match l, hl with
    | [x, y, z], _ => exact ⟨x, y, z, rfl⟩
  unfold upI' at hu
  simp only [List.pairwise_cons, List.mem_cons, List.not_mem_nil, or_false, forall_eq_or_imp, forall_eq] at hu
  obtain ⟨⟨h1, h2⟩, h3, _⟩ := hu
  refine ⟨x, y, z, rfl, by rw [lessC_eq]; exact h1, by rw [lessC_eq]; exact h3, ?_⟩
  have hn : [a, b, c].Nodup ↔ [x, y, z].Nodup := hp.nodup_iff.symm
  have e1 : ris [x, y, z] = true ↔ [x, y, z].Nodup := by
    simp only [ris, Bool.and_eq_true, List.nodup_cons, List.mem_cons, List.not_mem_nil, or_false, not_or, not_false_eq_true, List.nodup_nil, and_true]
    constructor
    · rintro ⟨g1, g2⟩
      have g3 := lessR_trans g1 g2
      refine ⟨⟨?_, ?_⟩, ?_⟩ <;> rintro rfl <;> simp_all [lessR_self]
    · rintro ⟨⟨g1, g2⟩, g3⟩
      refine ⟨?_, ?_⟩
      · cases g : lessR x y
        · exact absurd (lessR_ne g h1) g1
        · rfl
      · cases g : lessR y z
        · exact absurd (lessR_ne g h3) g3
        · rfl
  have e2 : (!eqI a b && !eqI b c && !eqI a c) = true ↔ [a, b, c].Nodup := by
    simp only [Bool.and_eq_true, Bool.not_eq_true', eqI_no, List.nodup_cons, List.mem_cons, List.not_mem_nil, or_false, not_or, not_false_eq_true, List.nodup_nil, and_true]
    constructor
    · rintro ⟨⟨g1, g2⟩, g3⟩; exact ⟨⟨g1, g3⟩, g2⟩
    · rintro ⟨⟨g1, g3⟩, g2⟩; exact ⟨⟨g1, g2⟩, g3⟩
  rw [Bool.eq_iff_iff, e1, e2, hn]

end Go.Proofs.YtaekkjhpdendoaaDoor
