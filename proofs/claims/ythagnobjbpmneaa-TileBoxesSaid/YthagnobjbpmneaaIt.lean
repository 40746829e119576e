/- what types are; the data of the layer -/
import Derived.Test.YthagnobjbpmneaaLw
import Derived.Test.YthagnobjbpmneaaProg
namespace Go.Proofs.Ythagnobjbpmneaa
set_option linter.unusedVariables false
set_option linter.unusedSimpArgs false
open Go.RowKit
theorem mixed : Try.prog.follows .mixedOrders = true := by kernel_rfl

structure C4 where
  r : Int
  g : Int
  b : Int
  a : Int
deriving DecidableEq
def c4 (c : C4) : List Value := [.int .u8 c.r, .int .u8 c.g, .int .u8 c.b, .int .u8 c.a]
abbrev c4D (c : C4) : D := .val (.agg #[.int .u8 c.r, .int .u8 c.g, .int .u8 c.b, .int .u8 c.a])
def zC4 : C4 := ⟨0, 0, 0, 0⟩
structure P2 where
  x : Int
  y : Int
deriving DecidableEq
def p2 (p : P2) : List Value := [.int .i64 p.x, .int .i64 p.y]
abbrev p2D (p : P2) : D := .val (.agg #[.int .i64 p.x, .int .i64 p.y])
def zP2 : P2 := ⟨0, 0⟩
def P2.rng (p : P2) : Prop := (-9223372036854775808 ≤ p.x ∧ p.x ≤ 9223372036854775807) ∧ (-9223372036854775808 ≤ p.y ∧ p.y ≤ 9223372036854775807)
structure TL where
  l : List C4
  h : l.length = 64
theorem TL.ext {t u : TL} (h : t.l = u.l) : t = u := by cases t; cases u; cases h; rfl
instance : DecidableEq TL := fun t u => if h : t.l = u.l then isTrue (TL.ext h) else isFalse fun e => h (by rw [e])
abbrev tc (t : TL) : List Value := t.l.flatMap c4
abbrev tD (t : TL) : D := .val (.agg (tc t).toArray)
theorem c4_len (c : C4) : (c4 c).length = 4 := rfl
theorem tc_len (t : TL) : (tc t).length = 256 := by rw [flat_len c4_len, t.h]
theorem tc_oc (t : TL) : (tc t).all (·.oneCell') = true := flat_oc (fun _ => rfl) t.l
def nT (c : C4) : TL := ⟨List.replicate 64 c, by simp⟩
def zT : TL := nT zC4
def TL.get (t : TL) (i : Nat) : C4 := t.l.getD i zC4
def TL.set (t : TL) (i : Nat) (c : C4) : TL := ⟨t.l.set i c, by rw [List.length_set, t.h]⟩
def onP (p : P2) : Bool := decide (0 ≤ p.x) && (decide (p.x ≤ 7) && (decide (0 ≤ p.y) && decide (p.y ≤ 7)))
theorem onP_iff {p : P2} : onP p = true ↔ (0 ≤ p.x ∧ p.x ≤ 7) ∧ (0 ≤ p.y ∧ p.y ≤ 7) := by simp [onP]; omega
def ixP (p : P2) : Nat := (p.y * 8 + p.x).toNat
theorem ixP_eq {p : P2} (h : onP p = true) : p.y * 8 + p.x = (ixP p : Int) ∧ ixP p < 64 := by
  rw [onP_iff] at h
  unfold ixP
  omega
def putT (t : TL) (p : P2) (c : C4) : TL := if onP p then t.set (ixP p) c else t
def errOr (b : Bool) (n : Int) : Int := match b with | true => 0 | false => n
theorem tc_set (t : TL) (i : Nat) (c : C4) : (t.l.set i c).flatMap c4 = tc (t.set i c) := rfl
theorem eqA_row {α : Type} {f : List Value → List Value → Option Bool} {en : α → List Value} {sz : Nat} [DecidableEq α] (hen : ∀ a, (en a).length = sz) (hf : ∀ a b, f (en a) (en b) = some (decide (a = b))) :
    ∀ (l r : List α), l.length = r.length → eqA f sz l.length (l.flatMap en) (r.flatMap en) = some (decide (l = r))
  | [], [], _ => by simp [eqA]
  | a :: l, b :: r, h => by
    have e1 : ((a :: l).flatMap en).take sz = en a := by rw [List.flatMap_cons, ← hen a, List.take_left]
    have e2 : ((b :: r).flatMap en).take sz = en b := by rw [List.flatMap_cons, ← hen b, List.take_left]
    have e3 : ((a :: l).flatMap en).drop sz = l.flatMap en := by rw [List.flatMap_cons, ← hen a, List.drop_left]
    have e4 : ((b :: r).flatMap en).drop sz = r.flatMap en := by rw [List.flatMap_cons, ← hen b, List.drop_left]
    rw [List.length_cons, eqA, e1, e2, e3, e4, hf, eqA_row hen hf l r (by simpa using h)]
    simp only [Option.some.injEq]
    rw [Bool.eq_iff_iff]
    simp
  | [], _ :: _, h => by simp at h
  | _ :: _, [], h => by simp at h
def eqC (a b : C4) : Bool := (a.r == b.r) && ((a.g == b.g) && ((a.b == b.b) && ((a.a == b.a) && true)))
theorem eqC_iff {u v : C4} : eqC u v = decide (u = v) := by
  obtain ⟨r, g, b, a⟩ := u
  obtain ⟨r', g', b', a'⟩ := v
  rw [Bool.eq_iff_iff]
  simp [eqC]
def newT (c : C4) : Nat → TL
  | 0 => zT
  | k + 1 => (newT c k).set k c
theorem newT_succ (c : C4) (k : Nat) : newT c (k + 1) = (newT c k).set k c := rfl
theorem nT_at (c : C4) {i : Nat} (h : i < 64) : (nT c).l[i]? = some c := by
  show (List.replicate 64 c)[i]? = _
  rw [List.getElem?_replicate, if_pos h]
theorem newT_at (c : C4) : ∀ (k i : Nat), i < 64 → (newT c k).l[i]? = some (if i < k then c else zC4)
  | 0, i, h => by rw [newT, zT, nT_at _ h]; simp
  | k + 1, i, h => by
    rw [newT]
    show ((newT c k).l.set k c)[i]? = _
    rw [List.getElem?_set]
    by_cases e : k = i
    · subst e; simp [(newT c k).h, h]
    · rw [if_neg e, newT_at c k i h]
      by_cases g : i < k
      · rw [if_pos g, if_pos (by omega)]
      · rw [if_neg g, if_neg (by omega)]
theorem newT_end (c : C4) : newT c 64 = nT c := by
  apply TL.ext
  apply List.ext_getElem?
  intro i
  by_cases h : i < 64
  · rw [newT_at c 64 i h, if_pos h, nT_at c h]
  · rw [List.getElem?_eq_none (by rw [(newT c 64).h]; omega), List.getElem?_eq_none (by rw [(nT c).h]; omega)]
def cnt {α : Type} (f : Nat → α → Bool) : List α → Nat → Int
  | [], _ => 0
  | a :: r, i => (if f i a then 1 else 0) + cnt f r (i + 1)
theorem cnt_drop {α : Type} {f : Nat → α → Bool} {l : List α} {k : Nat} (h : k < l.length) : cnt f (l.drop k) k = (if f k l[k] then 1 else 0) + cnt f (l.drop (k + 1)) (k + 1) := by
  rw [List.drop_eq_getElem_cons h, cnt]
theorem cnt_end {α : Type} {f : Nat → α → Bool} {l : List α} {k : Nat} (h : l.length ≤ k) : cnt f (l.drop k) k = 0 := by
  rw [List.drop_of_length_le h, cnt]
theorem cnt_any {α : Type} (g : α → Bool) : ∀ (l : List α) (i : Nat), (0 ≤ cnt (fun _ a => !g a) l i) ∧ decide (0 < cnt (fun _ a => !g a) l i) = !l.all g
  | [], _ => by simp [cnt]
  | a :: r, i => by
    obtain ⟨h1, h2⟩ := cnt_any g r (i + 1)
    rw [cnt, List.all_cons]
    cases h : g a
    · refine ⟨by simp; omega, ?_⟩
      simp; omega
    · simp [h1, ← h2]
def foldT (t : TL) (c : C4) (l : List P2) : TL := l.foldl (fun t p => putT t p c) t
theorem foldT_take (t : TL) (c : C4) {l : List P2} {k : Nat} (h : k < l.length) : foldT t c (l.take (k + 1)) = putT (foldT t c (l.take k)) l[k] c := by
  rw [List.take_succ_eq_append_getElem h, foldT, List.foldl_append]; rfl
def withT (t : TL) (c : C4) (l : List P2) : TL × Int := if l.all onP then (foldT t c l, 0) else (zT, 140)
def withR (t : TL) (c : C4) (l : List P2) : TL × Bool := if l.all onP then (foldT t c l, true) else (zT, false)
theorem all_take {l : List P2} {k : Nat} (h : k < l.length) : (l.take (k + 1)).all onP = ((l.take k).all onP && onP l[k]) := by
  rw [List.take_succ_eq_append_getElem h, List.all_append]; simp only [List.all_cons, List.all_nil, Bool.and_true]
theorem all_not {l : List P2} {k : Nat} (h : k < l.length) (h2 : onP l[k] = false) : l.all onP = false := by
  rw [← Bool.not_eq_true, List.all_eq_true]
  intro q
  rw [q _ (List.getElem_mem h)] at h2
  cases h2
theorem bn_t {b : Bool} (h : (!b) = true) : b = false := by cases b <;> simp_all
theorem bn_f {b : Bool} (h : (!b) = false) : b = true := by cases b <;> simp_all
theorem eqP_yes {a b : P2} (h : ((a.x == b.x) && ((a.y == b.y) && true)) = true) : a = b := by
  obtain ⟨x, y⟩ := a
  obtain ⟨x', y'⟩ := b
  simpa using h
theorem eqP_no {a b : P2} (h : ((a.x == b.x) && ((a.y == b.y) && true)) = false) : a ≠ b := by
  rintro rfl
  simp at h
theorem wrapB (t : TL) : fillB [(0, 256)] (tc zT).length [(0, tc t)] = true := by
  simp only [fillB, List.getElem?_cons_zero, tc_len]
  rfl
def P2.small (p : P2) : Prop := (0 ≤ p.x ∧ p.x ≤ 7) ∧ (0 ≤ p.y ∧ p.y ≤ 7)
def flipP (p : P2) : P2 := ⟨7 - p.x, p.y⟩
def turnP (p : P2) : P2 := ⟨7 - p.y, p.x⟩
def shiftP (x y : Int) (p : P2) : P2 := ⟨p.x + x, p.y + y⟩
def mvT (t : TL) (to : P2 → P2) (o : TL) : Nat → TL
  | 0 => o
  | k + 1 => putT (mvT t to o k) (to ⟨(k : Int) % 8, (k : Int) / 8⟩) (t.get k)
def flipT (t : TL) : TL := mvT t flipP zT 64
def turnT (t : TL) : TL := mvT t turnP zT 64
def turnsT : Nat → TL → TL
  | 0, t => t
  | n + 1, t => turnT (turnsT n t)
theorem turnsT_in : ∀ (n : Nat) (t : TL), turnsT n (turnT t) = turnT (turnsT n t)
  | 0, t => rfl
  | n + 1, t => by rw [turnsT, turnsT_in n t, turnsT]
def qN (q : Int) : Nat := ((q.tmod 4 + 4).tmod 4).toNat
theorem qN_eq (q : Int) : (-4 < q.tmod 4 ∧ q.tmod 4 < 4) ∧ (qN q : Int) = (q.tmod 4 + 4) % 4 ∧ qN q ≤ 3 := by
  have h1 : -4 < q.tmod 4 ∧ q.tmod 4 < 4 := by
    rcases Int.le_total 0 q with h | h
    · rw [Int.tmod_eq_emod_of_nonneg h]; omega
    · have e : q.tmod 4 = -((-q).tmod 4) := by rw [Int.neg_tmod]; omega
      rw [e, Int.tmod_eq_emod_of_nonneg (by omega)]; omega
  have h2 : (q.tmod 4 + 4).tmod 4 = (q.tmod 4 + 4) % 4 := Int.tmod_eq_emod_of_nonneg (by omega)
  unfold qN
  rw [h2]
  omega
theorem mvT_step {t o : TL} {to : P2 → P2} {x y : Nat} (h : x < 8) : mvT t to o (8 * y + x + 1) = putT (mvT t to o (8 * y + x)) (to ⟨x, y⟩) (t.get (8 * y + x)) := by
  rw [mvT]
  have e1 : ((8 * y + x : Nat) : Int) % 8 = x := by omega
  have e2 : ((8 * y + x : Nat) : Int) / 8 = y := by omega
  rw [e1, e2]
theorem turnsT_pred {n : Nat} (h : 0 < n) (t : TL) : turnsT (n - 1) (turnT t) = turnsT n t := by
  obtain ⟨m, rfl⟩ : ∃ m, n = m + 1 := ⟨n - 1, by omega⟩
  rw [show m + 1 - 1 = m by omega, turnsT_in, turnsT]
def shiftT (t : TL) (x y : Int) (c : C4) : TL := if (-7 ≤ x ∧ x ≤ 7) ∧ (-7 ≤ y ∧ y ≤ 7) then mvT t (shiftP x y) (nT c) 64 else nT c
theorem mvT_off {t o : TL} {to : P2 → P2} (h : ∀ k : Nat, k < 64 → onP (to ⟨(k : Int) % 8, (k : Int) / 8⟩) = false) : ∀ n, n ≤ 64 → mvT t to o n = o
  | 0, _ => rfl
  | n + 1, hn => by rw [mvT, mvT_off h n (by omega), putT, if_neg (by rw [h n (by omega)]; simp)]
theorem shift_eq (t : TL) {x y : Int} (c : C4) (hi : (-8 ≤ x ∧ x ≤ 8) ∧ (-8 ≤ y ∧ y ≤ 8)) : mvT t (shiftP x y) (nT c) (8 * 8) = shiftT t x y c := by
  unfold shiftT
  split
  · rfl
  · rename_i ho
    exact mvT_off (fun k hk => by
      rw [← Bool.not_eq_true, onP_iff]
      simp only [shiftP]
      omega) 64 (by omega)
def countT (t : TL) (c : C4) : Int := cnt (fun _ x => decide (x = c)) t.l 0
def runsT (t : TL) : Int := cnt (fun i x => decide (i = 0) || decide (x ≠ t.get (i - 1))) t.l 0
theorem eqC_yes {a b : C4} (h : ((a.r == b.r) && ((a.g == b.g) && ((a.b == b.b) && ((a.a == b.a) && true)))) = true) : a = b := by
  have := eqC_iff (u := a) (v := b)
  unfold eqC at this
  rw [h] at this
  exact of_decide_eq_true this.symm
theorem eqC_no {a b : C4} (h : ((a.r == b.r) && ((a.g == b.g) && ((a.b == b.b) && ((a.a == b.a) && true)))) = false) : a ≠ b := by
  have := eqC_iff (u := a) (v := b)
  unfold eqC at this
  rw [h] at this
  exact of_decide_eq_false this.symm
theorem cget {t : TL} {k : Nat} (h : k < t.l.length) : t.l.getD k zC4 = t.l[k] := getD_at h
theorem runs_first (t : TL) : runsT t = 1 + cnt (fun i x => decide (i = 0) || decide (x ≠ t.get (i - 1))) (t.l.drop 1) 1 := by
  have h : 0 < t.l.length := by rw [t.h]; omega
  have e := cnt_drop (f := fun i x => decide (i = 0) || decide (x ≠ t.get (i - 1))) h
  rw [List.drop_zero] at e
  unfold runsT
  rw [e]
  simp
def colsL (l : List C4) : List C4 := l.foldl (fun s c => if c ∈ s then s else s ++ [c]) []
def metL (l : List C4) : List (C4 × Int) := l.foldl (fun m c => setM c (getM c m + 1) m) []
theorem colsL_take {l : List C4} {k : Nat} (h : k < l.length) : colsL (l.take (k + 1)) = if l[k] ∈ colsL (l.take k) then colsL (l.take k) else colsL (l.take k) ++ [l[k]] := by
  rw [List.take_succ_eq_append_getElem h, colsL, List.foldl_append]; rfl
theorem metL_take {l : List C4} {k : Nat} (h : k < l.length) : metL (l.take (k + 1)) = setM l[k] (getM l[k] (metL (l.take k)) + 1) (metL (l.take k)) := by
  rw [List.take_succ_eq_append_getElem h, metL, List.foldl_append]; rfl
theorem met_cols_go : ∀ (l s : List C4) (m : List (C4 × Int)) (n : Nat), (∀ c, (0 ≤ getM c m ∧ getM c m ≤ n) ∧ (0 < getM c m ↔ c ∈ s)) →
    ∀ c, (0 ≤ getM c (l.foldl (fun m c => setM c (getM c m + 1) m) m) ∧ getM c (l.foldl (fun m c => setM c (getM c m + 1) m) m) ≤ (n + l.length : Nat)) ∧ (0 < getM c (l.foldl (fun m c => setM c (getM c m + 1) m) m) ↔ c ∈ l.foldl (fun s c => if c ∈ s then s else s ++ [c]) s)
  | [], s, m, n, h => h
  | a :: l, s, m, n, h => by
    rw [List.foldl_cons, List.foldl_cons, List.length_cons, show n + (l.length + 1) = (n + 1) + l.length by omega]
    refine met_cols_go l _ _ (n + 1) fun c => ?_
    rw [getM_set]
    have hc := h c
    have ha := h a
    by_cases e : c = a
    · subst e
      rw [if_pos rfl]
      refine ⟨by omega, ?_⟩
      split
      · rename_i hs; exact ⟨fun _ => hs, fun _ => by omega⟩
      · exact ⟨fun _ => by simp, fun _ => by omega⟩
    · rw [if_neg e]
      refine ⟨by omega, hc.2.trans ?_⟩
      split
      · rfl
      · simp [e]
theorem met_cols (l : List C4) (c : C4) : (0 ≤ getM c (metL l) ∧ getM c (metL l) ≤ l.length) ∧ (0 < getM c (metL l) ↔ c ∈ colsL l) := by
  have := met_cols_go l [] [] 0 (fun c => by simp [getM]) c
  rw [Nat.zero_add] at this
  exact this
theorem cols_go : ∀ (l s : List C4), (∀ c, c ∈ l.foldl (fun s c => if c ∈ s then s else s ++ [c]) s ↔ c ∈ s ∨ c ∈ l) ∧ (l.foldl (fun s c => if c ∈ s then s else s ++ [c]) s).length ≤ s.length + l.length
  | [], s => by simp
  | a :: l, s => by
    rw [List.foldl_cons, List.length_cons]
    obtain ⟨h1, h2⟩ := cols_go l (if a ∈ s then s else s ++ [a])
    refine ⟨fun c => ?_, ?_⟩
    · rw [h1 c]
      split
      · rename_i ha
        simp only [List.mem_cons]
        constructor
        · rintro (h | h)
          · exact .inl h
          · exact .inr (.inr h)
        · rintro (h | rfl | h)
          · exact .inl h
          · exact .inl ha
          · exact .inr h
      · simp only [List.mem_append, List.mem_singleton, List.mem_cons, or_assoc, List.not_mem_nil, false_or]
    · refine Nat.le_trans h2 ?_
      split
      · omega
      · rw [List.length_append]; simp; omega
theorem cols_mem {l : List C4} {c : C4} : c ∈ colsL l ↔ c ∈ l := by
  have := (cols_go l []).1 c
  unfold colsL
  simpa using this
theorem cols_len (l : List C4) : (colsL l).length ≤ l.length := by
  have := (cols_go l []).2
  unfold colsL
  simpa using this
def ixC (c : C4) : List C4 → Int → Int
  | [], _ => -1
  | a :: r, i => if c = a then i else ixC c r (i + 1)
theorem ixC_drop {c : C4} {l : List C4} {k : Nat} (h : k < l.length) : ixC c (l.drop k) k = if c = l[k] then (k : Int) else ixC c (l.drop (k + 1)) ((k + 1 : Nat) : Int) := by
  rw [List.drop_eq_getElem_cons h, ixC]; rfl
theorem ixC_end {c : C4} {l : List C4} {k : Nat} (h : l.length ≤ k) : ixC c (l.drop k) k = -1 := by
  rw [List.drop_of_length_le h, ixC]
theorem ixC_mem (c : C4) : ∀ (l : List C4) (i : Int), 0 ≤ i → decide (ixC c l i ≥ 0) = decide (c ∈ l)
  | [], i, _ => by simp [ixC]
  | a :: r, i, h => by
    rw [ixC]
    by_cases e : c = a
    · rw [if_pos e]; simp [e, h]
    · rw [if_neg e, ixC_mem c r (i + 1) (by omega)]; simp [e]
theorem drop0 {t : TL} (k : Nat) : ((t.l.drop 0).take (k - 0)) = t.l.take k := by rw [List.drop_zero, Nat.sub_zero]
theorem in_yes {R : List C4} {j : Nat} {c : C4} (h : j < R.length) (e : R[j] = c) : false = !decide (c ∈ R.take (j + 1)) := by
  rw [List.take_succ_eq_append_getElem h, e]; simp
theorem in_no {R : List C4} {j : Nat} {c : C4} (h : j < R.length) (e : R[j] ≠ c) : (!decide (c ∈ R.take j)) = !decide (c ∈ R.take (j + 1)) := by
  rw [List.take_succ_eq_append_getElem h]
  congr 1
  rw [decide_eq_decide, List.mem_append, List.mem_singleton]
  exact ⟨.inl, fun h => h.resolve_right (Ne.symm e)⟩
theorem in_0 {R : List C4} {c : C4} : true = !decide (c ∈ R.take 0) := by simp
theorem take1 (t : TL) : t.l.take 1 = [t.l.getD 0 zC4] := by
  have h : 0 < t.l.length := by rw [t.h]; omega
  rw [List.take_succ_eq_append_getElem h, getD_at h]; rfl
theorem take64 (t : TL) : t.l.take 64 = t.l := List.take_of_length_le (by rw [t.h]; omega)
structure B4 where
  x0 : Int
  y0 : Int
  x1 : Int
  y1 : Int
deriving DecidableEq
def b4 (b : B4) : List Value := [.int .i64 b.x0, .int .i64 b.y0, .int .i64 b.x1, .int .i64 b.y1]
abbrev b4D (b : B4) : D := .val (.agg #[.int .i64 b.x0, .int .i64 b.y0, .int .i64 b.x1, .int .i64 b.y1])
def zB : B4 := ⟨0, 0, 0, 0⟩
def startB : B4 := ⟨7, 7, 0, 0⟩
def wholeB : B4 := ⟨0, 0, 7, 7⟩
def mmB (b : B4) (p : P2) : B4 := ⟨min b.x0 p.x, min b.y0 p.y, max b.x1 p.x, max b.y1 p.y⟩
def pxP (k : Nat) : P2 := ⟨(k : Int) % 8, (k : Int) / 8⟩
def stepC (u : TL) (k : Nat) (b : B4) (p : P2) (c : C4) : B4 := if c = u.get k then b else mmB b p
def stopR (u : TL) (k : Nat) (b : B4) (p : P2) (c : C4) : Bool := !(decide (c ≠ u.get k) && decide (mmB b p = wholeB))
def boxK (t u : TL) : Nat → B4
  | 0 => startB
  | k + 1 => stepC u k (boxK t u k) ⟨(k : Int) % 8, (k : Int) / 8⟩ (t.get k)
def goB (t u : TL) : Nat → Bool
  | 0 => true
  | k + 1 => goB t u k && stopR u k (boxK t u k) ⟨(k : Int) % 8, (k : Int) / 8⟩ (t.get k)
def boxT (t u : TL) : B4 × Bool := if t = u then (zB, false) else (boxK t u 64, true)
theorem goB_no {t u : TL} {k : Nat} (h : goB t u k = false) : ∀ d, goB t u (k + d) = false
  | 0 => h
  | d + 1 => by rw [← Nat.add_assoc, goB, goB_no h d]; rfl
theorem boxK_whole {t u : TL} {k : Nat} (h : boxK t u k = wholeB) : ∀ d, k + d ≤ 64 → boxK t u (k + d) = wholeB
  | 0, _ => h
  | d + 1, hd => by
    rw [← Nat.add_assoc, boxK, boxK_whole h d (by omega), stepC]
    split
    · rfl
    · simp only [mmB, wholeB, B4.mk.injEq]
      omega
theorem stop_yes {u : TL} {k : Nat} {b : B4} {p : P2} {c : C4} (h : stopR u k b p c = false) : stepC u k b p c = wholeB := by
  simp only [stopR, Bool.not_eq_false', Bool.and_eq_true, decide_eq_true_eq] at h
  rw [stepC, if_neg h.1, h.2]
theorem eqB_yes {a b : B4} (h : ((a.x0 == b.x0) && ((a.y0 == b.y0) && ((a.x1 == b.x1) && ((a.y1 == b.y1) && true)))) = true) : a = b := by
  obtain ⟨x, y, z, w⟩ := a
  obtain ⟨x', y', z', w'⟩ := b
  simpa using h
theorem eqB_no {a b : B4} (h : ((a.x0 == b.x0) && ((a.y0 == b.y0) && ((a.x1 == b.x1) && ((a.y1 == b.y1) && true)))) = false) : a ≠ b := by
  rintro rfl
  simp at h
def eqB (a b : B4) : Bool := (a.x0 == b.x0) && ((a.y0 == b.y0) && ((a.x1 == b.x1) && ((a.y1 == b.y1) && true)))
theorem eqB_iff {u v : B4} : eqB u v = decide (u = v) := by
  cases h : eqB u v
  · rw [decide_eq_false (eqB_no h)]
  · rw [decide_eq_true (eqB_yes h)]
def inkC : C4 := ⟨255, 0, 0, 255⟩
theorem tmod_bd (q : Int) : -1000 < q.tmod 1000 ∧ q.tmod 1000 < 1000 := by
  rcases Int.le_total 0 q with h | h
  · rw [Int.tmod_eq_emod_of_nonneg h]; omega
  · have e : q.tmod 1000 = -((-q).tmod 1000) := by rw [Int.neg_tmod]; omega
    rw [e, Int.tmod_eq_emod_of_nonneg (by omega)]; omega
theorem ar25 : arE Try.prog 25 = some (64, 4) := by kernel_rfl
theorem av25 : arV Try.prog 25 = some (64, 4) := by kernel_rfl
theorem eq23 {a0 : Int} {a1 : Int} {a2 : Int} {a3 : Int} {b0 : Int} {b1 : Int} {b2 : Int} {b3 : Int} : eqT Try.prog 9 23 [.int .u8 a0, .int .u8 a1, .int .u8 a2, .int .u8 a3] [.int .u8 b0, .int .u8 b1, .int .u8 b2, .int .u8 b3] = some ((a0 == b0) && ((a1 == b1) && ((a2 == b2) && ((a3 == b3) && true)))) := by kernel_rfl
theorem eq25 {t u : TL} : eqT Try.prog 9 25 (tc t) (tc u) = some (decide (t = u)) := by
  have h : ∀ a b : C4, eqT Try.prog 8 23 (c4 a) (c4 b) = some (decide (a = b)) := fun a b => by
    rw [← eqC_iff]
    exact (show eqT Try.prog 8 23 [.int .u8 a.r, .int .u8 a.g, .int .u8 a.b, .int .u8 a.a] [.int .u8 b.r, .int .u8 b.g, .int .u8 b.b, .int .u8 b.a] = some (eqC a b) by kernel_rfl)
  have h2 := eqA_row (en := c4) c4_len h t.l u.l (by rw [t.h, u.h])
  rw [t.h] at h2
  have h3 : eqT Try.prog 9 25 (tc t) (tc u) = eqA (eqT Try.prog 8 23) 4 64 (tc t) (tc u) := by
    have e1 : Try.prog.underlying 25 = some (.array 64 23) := by kernel_rfl
    have e2 : ∃ i, Try.prog.info? 23 = some i ∧ i.size = 4 := ⟨_, rfl, by kernel_rfl⟩
    obtain ⟨i, e3, e4⟩ := e2
    unfold eqT
    simp only [e1, e3, e4]
  rw [h3, h2]
  congr 1
  rw [Bool.eq_iff_iff]
  simp only [decide_eq_true_eq]
  exact ⟨TL.ext, fun e => by rw [e]⟩
theorem eq30 {a0 : Int} {a1 : Int} {b0 : Int} {b1 : Int} : eqT Try.prog 9 30 [.int .i64 a0, .int .i64 a1] [.int .i64 b0, .int .i64 b1] = some ((a0 == b0) && ((a1 == b1) && true)) := by kernel_rfl
theorem eq49 {a0 : Int} {a1 : Int} {a2 : Int} {a3 : Int} {b0 : Int} {b1 : Int} {b2 : Int} {b3 : Int} : eqT Try.prog 9 49 [.int .i64 a0, .int .i64 a1, .int .i64 a2, .int .i64 a3] [.int .i64 b0, .int .i64 b1, .int .i64 b2, .int .i64 b3] = some ((a0 == b0) && ((a1 == b1) && ((a2 == b2) && ((a3 == b3) && true)))) := by kernel_rfl
theorem fl23 : fdL Try.prog 23 = some [(0, 1), (1, 1), (2, 1), (3, 1)] := by kernel_rfl
theorem fl30 : fdL Try.prog 30 = some [(0, 1), (1, 1)] := by kernel_rfl
theorem fl49 : fdL Try.prog 49 = some [(0, 1), (1, 1), (2, 1), (3, 1)] := by kernel_rfl
theorem fl65 : fdL Try.prog 65 = some [(0, 256)] := by kernel_rfl
theorem fo30_0 : fdO Try.prog 30 0 = some 0 := by kernel_rfl
theorem fo30_1 : fdO Try.prog 30 1 = some 1 := by kernel_rfl
theorem fo49_0 : fdO Try.prog 49 0 = some 0 := by kernel_rfl
theorem fo49_1 : fdO Try.prog 49 1 = some 1 := by kernel_rfl
theorem fo49_2 : fdO Try.prog 49 2 = some 2 := by kernel_rfl
theorem fo49_3 : fdO Try.prog 49 3 = some 3 := by kernel_rfl
theorem fo65_0 : fdO Try.prog 65 0 = some 0 := by kernel_rfl
theorem gd23 : Try.prog.eqGuardType Try.prog.depth 23 = false := by kernel_rfl
theorem gd25 : Try.prog.eqGuardType Try.prog.depth 25 = false := by kernel_rfl
theorem gd30 : Try.prog.eqGuardType Try.prog.depth 30 = false := by kernel_rfl
theorem gd49 : Try.prog.eqGuardType Try.prog.depth 49 = false := by kernel_rfl
theorem mp67 : mpT Try.prog 67 = some (23, 3) := by kernel_rfl
theorem sl26 : slE Try.prog 26 = some (30, 2, 16) := by kernel_rfl
theorem sl43 : slE Try.prog 43 = some (23, 4, 4) := by kernel_rfl
theorem tb23 : tyB Try.prog 23 = some (true, 4) := by kernel_rfl
theorem tb25 : tyB Try.prog 25 = some (true, 256) := by kernel_rfl
theorem tb3 : tyB Try.prog 3 = some (false, 1) := by kernel_rfl
theorem tb30 : tyB Try.prog 30 = some (true, 2) := by kernel_rfl
theorem tb43 : tyB Try.prog 43 = some (false, 1) := by kernel_rfl
theorem tb49 : tyB Try.prog 49 = some (true, 4) := by kernel_rfl
theorem tb65 : tyB Try.prog 65 = some (true, 256) := by kernel_rfl
theorem tb66 : tyB Try.prog 66 = some (false, 1) := by kernel_rfl
theorem tb67 : tyB Try.prog 67 = some (false, 1) := by kernel_rfl
theorem tb71 : tyB Try.prog 71 = some (false, 1) := by kernel_rfl
theorem tb75 : tyB Try.prog 75 = some (false, 1) := by kernel_rfl
theorem un4 : Try.prog.underlying 4 = some .bool := by kernel_rfl
theorem zr23 : zrC Try.prog 23 = some [.int .u8 0, .int .u8 0, .int .u8 0, .int .u8 0] := by kernel_rfl
theorem zr25 : zrC Try.prog 25 = some (tc zT) := by kernel_rfl
theorem zr30 : zrC Try.prog 30 = some [.int .i64 0, .int .i64 0] := by kernel_rfl
theorem zr43 : zrC Try.prog 43 = some [.slice none 0 0] := by kernel_rfl
theorem zr49 : zrC Try.prog 49 = some [.int .i64 0, .int .i64 0, .int .i64 0, .int .i64 0] := by kernel_rfl
theorem zr65 : zrC Try.prog 65 = some (tc zT) := by kernel_rfl
theorem zr66 : zrC Try.prog 66 = some [.nilFunc] := by kernel_rfl
theorem zr67 : zrC Try.prog 67 = some [.map none] := by kernel_rfl
theorem zv3 : zrV Try.prog 3 = some (.int .i64 0) := by kernel_rfl
end Go.Proofs.Ythagnobjbpmneaa
