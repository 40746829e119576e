/- what types are; sizes; colours; tiles, and canvases as they show; canvases shown, and new; dots painted; canvases with dots; canvases with dots, as they show; where canvases differ; colours laid over colours; spans; lines, rectangles, boxes, and what rows of spans have; places, row by row, as spans; rows of spans asked; rows of spans checked; places that may be drawn; the library's sort, and its keys in order; spans by rows; rows, one behind another; rows gathered: their order; rows gathered. No condition. -/
import Derived.Test.YtfnhckildfbikaaGreatQ3
import Derived.Test.YtfnhckildfbikaaGreatRows
import Derived.Shelf.SortM.Plain
import Derived.Shelf.SortM.SortNone
import Derived.Shelf.SlicesG.Cmp
namespace Go.Proofs.YtfnhckildfbikaaGreat
set_option maxRecDepth 4000
set_option linter.unusedVariables false
set_option linter.unusedSimpArgs false
open Go.RowKit
theorem mixed : Tryz.prog.follows .mixedOrders = true := by kernel_rfl
structure C4 where
  r : Int
  g : Int
  b : Int
  a : Int
deriving DecidableEq
def c4 (c : C4) : List Value := [.int .u8 c.r, .int .u8 c.g, .int .u8 c.b, .int .u8 c.a]
def zC4 : C4 := ⟨0, 0, 0, 0⟩
structure P2 where
  x : Int
  y : Int
deriving DecidableEq
def p2 (p : P2) : List Value := [.int .i64 p.x, .int .i64 p.y]
def zP2 : P2 := ⟨0, 0⟩
structure TL where
  l : List C4
  h : l.length = 64
theorem TL.ext {t u : TL} (h : t.l = u.l) : t = u := by cases t; cases u; cases h; rfl
instance : DecidableEq TL := fun t u => if h : t.l = u.l then isTrue (TL.ext h) else isFalse fun e => h (by rw [e])
abbrev tc (t : TL) : List Value := t.l.flatMap c4
abbrev tD (t : TL) : D := .val (.agg (tc t).toArray)
theorem c4_len (c : C4) : (c4 c).length = 4 := rfl
theorem tc_len (t : TL) : (tc t).length = 256 := by rw [flat_len c4_len, t.h]
theorem tc_oc (t : TL) : (tc t).all (·.oneCell') = true := flat_oc (fun _ => rfl) t.l
def nT (c : C4) : TL := ⟨List.replicate 64 c, by simp⟩
def zT : TL := nT zC4
def TL.get (t : TL) (i : Nat) : C4 := t.l.getD i zC4
def TL.set (t : TL) (i : Nat) (c : C4) : TL := ⟨t.l.set i c, by rw [List.length_set, t.h]⟩
def errOr (b : Bool) (n : Int) : Int := match b with | true => 0 | false => n
theorem eqA_row {α : Type} {f : List Value → List Value → Option Bool} {en : α → List Value} {sz : Nat} [DecidableEq α] (hen : ∀ a, (en a).length = sz) (hf : ∀ a b, f (en a) (en b) = some (decide (a = b))) :
    ∀ (l r : List α), l.length = r.length → eqA f sz l.length (l.flatMap en) (r.flatMap en) = some (decide (l = r))
  | [], [], _ => by simp [eqA]
  | a :: l, b :: r, h => by
    have e1 : ((a :: l).flatMap en).take sz = en a := by rw [List.flatMap_cons, ← hen a, List.take_left]
    have e2 : ((b :: r).flatMap en).take sz = en b := by rw [List.flatMap_cons, ← hen b, List.take_left]
    have e3 : ((a :: l).flatMap en).drop sz = l.flatMap en := by rw [List.flatMap_cons, ← hen a, List.drop_left]
    have e4 : ((b :: r).flatMap en).drop sz = r.flatMap en := by rw [List.flatMap_cons, ← hen b, List.drop_left]
    rw [List.length_cons, eqA, e1, e2, e3, e4, hf, eqA_row hen hf l r (by simpa using h)]
    simp only [Option.some.injEq]
    rw [Bool.eq_iff_iff]
    simp
  | [], _ :: _, h => by simp at h
  | _ :: _, [], h => by simp at h
def eqC (a b : C4) : Bool := (a.r == b.r) && ((a.g == b.g) && ((a.b == b.b) && ((a.a == b.a) && true)))
theorem eqC_iff {u v : C4} : eqC u v = decide (u = v) := by
  obtain ⟨r, g, b, a⟩ := u
  obtain ⟨r', g', b', a'⟩ := v
  rw [Bool.eq_iff_iff]
  simp [eqC]
def newT (c : C4) : Nat → TL
  | 0 => zT
  | k + 1 => (newT c k).set k c
theorem newT_succ (c : C4) (k : Nat) : newT c (k + 1) = (newT c k).set k c := rfl
theorem nT_at (c : C4) {i : Nat} (h : i < 64) : (nT c).l[i]? = some c := by
  show (List.replicate 64 c)[i]? = _
  rw [List.getElem?_replicate, if_pos h]
theorem newT_at (c : C4) : ∀ (k i : Nat), i < 64 → (newT c k).l[i]? = some (if i < k then c else zC4)
  | 0, i, h => by rw [newT, zT, nT_at _ h]; simp
  | k + 1, i, h => by
    rw [newT]
    show ((newT c k).l.set k c)[i]? = _
    rw [List.getElem?_set]
    by_cases e : k = i
    · subst e; simp [(newT c k).h, h]
    · rw [if_neg e, newT_at c k i h]
      by_cases g : i < k
      · rw [if_pos g, if_pos (by omega)]
      · rw [if_neg g, if_neg (by omega)]
theorem newT_end (c : C4) : newT c 64 = nT c := by
  apply TL.ext
  apply List.ext_getElem?
  intro i
  by_cases h : i < 64
  · rw [newT_at c 64 i h, if_pos h, nT_at c h]
  · rw [List.getElem?_eq_none (by rw [(newT c 64).h]; omega), List.getElem?_eq_none (by rw [(nT c).h]; omega)]
def cnt {α : Type} (f : Nat → α → Bool) : List α → Nat → Int
  | [], _ => 0
  | a :: r, i => (if f i a then 1 else 0) + cnt f r (i + 1)
theorem bn_t {b : Bool} (h : (!b) = true) : b = false := by cases b <;> simp_all
theorem bn_f {b : Bool} (h : (!b) = false) : b = true := by cases b <;> simp_all
structure Dt where
  x : Int
  y : Int
  c : C4
deriving DecidableEq
def dtC (d : Dt) : List Value := [.int .i64 d.x, .int .i64 d.y, .int .u8 d.c.r, .int .u8 d.c.g, .int .u8 d.c.b, .int .u8 d.c.a]
def mayS (w h : Int) : Bool := decide (1 ≤ w) && decide (w ≤ 4) && decide (1 ≤ h) && decide (h ≤ 4)
theorem mayS_b {w h : Int} (hm : mayS w h = true) : (1 ≤ w ∧ w ≤ 4) ∧ (1 ≤ h ∧ h ≤ 4) := by
  unfold mayS at hm
  simp at hm
  omega
def onS (w h x y : Int) : Bool := decide (0 ≤ x) && decide (x < w * 8) && decide (0 ≤ y) && decide (y < h * 8)
theorem onS_iff {w h x y : Int} : onS w h x y = true ↔ (0 ≤ x ∧ x < w * 8) ∧ (0 ≤ y ∧ y < h * 8) := by
  simp [onS]
  omega
/-- which tile has the pixel, and which one it is there -/
def plN (w x y : Int) : Nat := (y / 8 * w + x / 8).toNat
def pxN (x y : Int) : Nat := (y % 8 * 8 + x % 8).toNat
theorem on_pl {w h x y : Int} (hm : mayS w h = true) (ho : onS w h x y = true) : y / 8 * w + x / 8 = (plN w x y : Int) ∧ (plN w x y : Int) < w * h ∧ y % 8 * 8 + x % 8 = (pxN x y : Int) ∧ pxN x y < 64 := by
  have hb := mayS_b hm
  have hx := onS_iff.1 ho
  have hq1 : 0 ≤ y / 8 ∧ y / 8 ≤ h - 1 := by omega
  have hq2 : 0 ≤ y / 8 * w := Int.mul_nonneg hq1.1 (by omega)
  have hq3 : y / 8 * w ≤ (h - 1) * w := Int.mul_le_mul_of_nonneg_right hq1.2 (by omega)
  have e : (h - 1) * w = w * h - w := by rw [Int.sub_mul, Int.mul_comm h w]; omega
  unfold plN pxN
  omega
def getC (w : Int) (ts : List TL) (x y : Int) : C4 := (ts.getD (plN w x y) zT).get (pxN x y)
def putC (w h : Int) (ts : List TL) (d : Dt) : List TL := if onS w h d.x d.y = true then ts.set (plN w d.x d.y) ((ts.getD (plN w d.x d.y) zT).set (pxN d.x d.y) d.c) else ts
def putsC (w h : Int) (ts : List TL) (l : List Dt) : List TL := l.foldl (putC w h) ts
theorem putC_len (w h : Int) (ts : List TL) (d : Dt) : (putC w h ts d).length = ts.length := by unfold putC; split <;> simp
theorem putsC_len (w h : Int) (l : List Dt) (ts : List TL) : (putsC w h ts l).length = ts.length := by
  induction l generalizing ts with
  | nil => rfl
  | cons d l ih => rw [putsC, List.foldl_cons]; exact (ih _).trans (putC_len ..)
/-- a canvas as data: its sizes, and a row of pointers to its tiles -/
abbrev cvD (w h : Int) (ds : List D) : D := .dpm [.val (.int .i64 w), .val (.int .i64 h), .slm 1 ds.length ds]
/-- what a canvas shows -/
abbrev shD (w h : Int) (ts : List TL) : D := .agg [.val (.int .i64 w), .val (.int .i64 h), .slf 256 ts.length (ts.flatMap tc)]
structure RowOk (ds : List D) (ts : List TL) : Prop where
  len : ds.length = ts.length
  nl : D.nlL ds = true
  oc : ds.all D.oc2 = true
  wk : ∀ (q : Nat) d t, ds[q]? = some d → ts[q]? = some t → Wk d (.dpf (tc t))
structure CvOk (w h : Int) (ts : List TL) : Prop where
  may : mayS w h = true
  len : (ts.length : Int) = w * h
theorem CvOk.le {w h : Int} {ts : List TL} (hc : CvOk w h ts) : ts.length ≤ 16 ∧ 1 ≤ ts.length := by
  have hb := mayS_b hc.may
  have h1 : w * h ≤ 4 * 4 := Int.mul_le_mul hb.1.2 hb.2.2 (by omega) (by omega)
  have h2 : 1 * 1 ≤ w * h := Int.mul_le_mul hb.1.1 hb.2.1 (by omega) (by omega)
  have := hc.len
  omega
theorem CvOk.pl {w h x y : Int} {ts : List TL} (hc : CvOk w h ts) (ho : onS w h x y = true) : plN w x y < ts.length := by
  have := on_pl hc.may ho
  have := hc.len
  omega
/-- the row of pointers into memory that stays -/
abbrev dpR (ts : List TL) : List D := ts.map fun t => .dpf (tc t)
theorem dpR_ok (ts : List TL) : RowOk (dpR ts) ts := by
  refine ⟨by simp, ?_, by simp [D.oc2], fun q d t h1 h2 => ?_⟩
  · induction ts with
    | nil => rfl
    | cons t ts ih => rw [dpR, List.map_cons, D.nlL]; exact ih
  · rw [List.getElem?_map, h2] at h1
    cases h1
    exact Wk.refl _
theorem RowOk.at {ds : List D} {ts : List TL} (h : RowOk ds ts) {q : Nat} (hq : q < ts.length) : ∃ d, ds[q]? = some d ∧ d ∈ ds ∧ d.nl = true ∧ d.oc2 = true ∧ Wk d (.dpf (tc (ts.getD q zT))) := by
  have hq2 : q < ds.length := by rw [h.len]; exact hq
  refine ⟨ds[q], List.getElem?_eq_getElem hq2, List.getElem_mem hq2, nlL_mem h.nl (List.getElem?_eq_getElem hq2), List.all_eq_true.1 h.oc _ (List.getElem_mem hq2), ?_⟩
  refine h.wk q _ _ (List.getElem?_eq_getElem hq2) ?_
  rw [List.getD_eq_getElem?_getD, List.getElem?_eq_getElem hq]
  rfl
theorem RowOk.wkd {ds : List D} {ts : List TL} (h : RowOk ds ts) (w hh : Int) : Wk (cvD w hh ds) (cvD w hh (dpR ts)) := by
  have hl : WkL ds (dpR ts) := ⟨by simp [h.len], fun j d d' h1 h2 => by
    rw [List.getElem?_map] at h2
    cases e : ts[j]? with
    | none => rw [e] at h2; cases h2
    | some t => rw [e] at h2; cases h2; exact h.wk j d t h1 e⟩
  have hn : D.nlL (dpR ts) = true := (dpR_ok ts).nl
  have e : (dpR ts).length = ds.length := by simp [h.len]
  rw [cvD, cvD, e]
  exact Wk.dpm (.cons (.refl _) (.cons (.refl _) (.cons (Wk.slm hl hn) .nil))) (by simp [D.nlL, D.nl])
/-- may a canvas be? -/
def rightB (w h : Int) (ts : List TL) : Bool := mayS w h && decide ((ts.length : Int) = w * h)
theorem rightB_ok {w h : Int} {ts : List TL} (e : rightB w h ts = true) : CvOk w h ts := by
  unfold rightB at e
  simp only [Bool.and_eq_true, decide_eq_true_eq] at e
  exact ⟨e.1, e.2⟩
theorem CvOk.right {w h : Int} {ts : List TL} (hc : CvOk w h ts) : rightB w h ts = true := by
  unfold rightB
  rw [hc.may, decide_eq_true hc.len]
  rfl
theorem mul_in {w h : Int} (hm : mayS w h = true) : 1 ≤ w * h ∧ w * h ≤ 16 := by
  have hb := mayS_b hm
  have h1 : w * h ≤ 4 * 4 := Int.mul_le_mul hb.1.2 hb.2.2 (by omega) (by omega)
  have h2 : 1 * 1 ≤ w * h := Int.mul_le_mul hb.1.1 hb.2.1 (by omega) (by omega)
  omega
theorem tl_at {l : List TL} {k : Nat} (h : k < l.length) : l.getD k zT = l[k] := by rw [List.getD_eq_getElem?_getD, List.getElem?_eq_getElem h]; rfl
theorem CvOk.put {w h : Int} {ts : List TL} (hc : CvOk w h ts) (d : Dt) : CvOk w h (putC w h ts d) := ⟨hc.may, by rw [putC_len]; exact hc.len⟩
theorem CvOk.puts {w h : Int} {ts : List TL} (hc : CvOk w h ts) (l : List Dt) : CvOk w h (putsC w h ts l) := ⟨hc.may, by rw [putsC_len]; exact hc.len⟩
end Go.Proofs.YtfnhckildfbikaaGreat
namespace Go.Proofs.YtfnhckildfbikaaGreat
set_option maxRecDepth 4000
set_option linter.unusedVariables false
set_option linter.unusedSimpArgs false
open Go.RowKit
theorem fo81_0 : fdO Tryz.prog 81 0 = some 0 := by kernel_rfl
theorem fo81_1 : fdO Tryz.prog 81 1 = some 1 := by kernel_rfl
theorem tb3 : tyB Tryz.prog 3 = some (false, 1) := by kernel_rfl
theorem tb81 : tyB Tryz.prog 81 = some (true, 2) := by kernel_rfl
theorem zr3 : zrC Tryz.prog 3 = some [.int .i64 0] := by kernel_rfl
set_option maxRecDepth 4000 in
set_option maxHeartbeats 1000000 in
theorem smay_d (w h : Int) : DFun Tryz.prog 76 [.val (.agg #[.int .i64 w, .int .i64 h])] [] (.val (.bool (mayS w h))) [] := by
  refine zan (N := 21) 0 (by kernel_rfl) Tryz.func76 rfl rfl rfl (by simp only [fr0, Nat.zero_add, Nat.reduceAdd]; exact rfl) rfl fun s0 hs0 => ?_
  refine zaf ?_
  refine zah 1 (by simp only [holes, List.cons_append, List.nil_append]; exact rfl) ?_
  refine zac ?_
  refine zaj rfl rfl rfl (op_boxa 0 rfl (ev1 rfl) rfl) (by simp only [upd, zaa, za]; exact rfl) ?_
  refine zab rfl rfl rfl (zad (.inr rfl) (ev1 rfl)) ?_
  refine zae ?_
  refine zaf ?_
  refine zac ?_
  refine zab rfl rfl rfl (op_fa rfl fo81_0 (ev1 rfl)) ?_
  refine zab rfl rfl rfl (op_ldo rfl tb3 (ev1 rfl) rfl rfl) ?_
  refine zab rfl rfl rfl (op_geq rfl (ev1 rfl) (ev1 rfl)) ?_
  refine zab rfl rfl rfl (zad (.inl rfl) (ev1 rfl)) ?_
  refine walk_gr (gd_t rfl rfl rfl) rfl rfl rfl (op_fa rfl fo81_0 (ev1 rfl)) ?_
  refine walk_gr (gd_t rfl rfl rfl) rfl rfl rfl (op_ldo rfl tb3 (ev2 rfl) rfl rfl) ?_
  refine walk_gr (gd_t rfl rfl rfl) rfl rfl rfl (op_leq rfl (ev2 rfl) (ev1 rfl)) ?_
  refine zab rfl rfl rfl (op_and rfl (ev1 rfl) (ev3 rfl id)) ?_
  refine zab rfl rfl rfl (zad (.inl rfl) (ev1 rfl)) ?_
  refine walk_gr (gd_t rfl rfl rfl) rfl rfl rfl (op_fa rfl fo81_1 (ev1 rfl)) ?_
  refine walk_gr (gd_t rfl rfl rfl) rfl rfl rfl (op_ldo rfl tb3 (ev2 rfl) rfl rfl) ?_
  refine walk_gr (gd_t rfl rfl rfl) rfl rfl rfl (op_geq rfl (ev2 rfl) (ev1 rfl)) ?_
  refine zab rfl rfl rfl (op_and rfl (ev1 rfl) (ev3 rfl id)) ?_
  refine zab rfl rfl rfl (zad (.inl rfl) (ev1 rfl)) ?_
  refine walk_gr (gd_t rfl rfl rfl) rfl rfl rfl (op_fa rfl fo81_1 (ev1 rfl)) ?_
  refine walk_gr (gd_t rfl rfl rfl) rfl rfl rfl (op_ldo rfl tb3 (ev2 rfl) rfl rfl) ?_
  refine walk_gr (gd_t rfl rfl rfl) rfl rfl rfl (op_leq rfl (ev2 rfl) (ev1 rfl)) ?_
  refine zab rfl rfl rfl (op_and rfl (ev1 rfl) (ev3 rfl id)) ?_
  refine zab rfl rfl rfl (zad (.inr rfl) (ev1 rfl)) ?_
  refine zae ?_
  refine dwp_ret ?_
  refine kend0 (rs1 rfl (rv_t rfl)) rfl ?_
  unfold mayS
  simp [Bool.and_assoc]
set_option maxRecDepth 4000 in
set_option maxHeartbeats 1000000 in
theorem spix_d (w h : Int) (hm : mayS w h = true) : DFun Tryz.prog 31 [.val (.agg #[.int .i64 w, .int .i64 h])] [] (.tup [.val (.int .i64 (w * 8)), .val (.int .i64 (h * 8))]) [] := by
  refine zan (N := 10) 0 (by kernel_rfl) Tryz.func31 rfl rfl rfl (by simp only [fr0, Nat.zero_add, Nat.reduceAdd]; exact rfl) rfl fun s0 hs0 => ?_
  refine zaf ?_
  refine zah 1 (by simp only [holes, List.cons_append, List.nil_append]; exact rfl) ?_
  refine zac ?_
  refine zaj rfl rfl rfl (op_boxa 0 rfl (ev1 rfl) rfl) (by simp only [upd, zaa, za]; exact rfl) ?_
  refine zab rfl rfl rfl (zad (.inr rfl) (ev1 rfl)) ?_
  refine zab rfl rfl rfl (zad (.inr rfl) (ev1 rfl)) ?_
  refine zae ?_
  refine zaf ?_
  have hb := mayS_b hm
  refine dwp_draw [([], []), ([0], []), ([], []), ([], []), ([0], []), ([], []), ([], []), ([], [])] mixed (by kernel_rfl) ?_
  refine zag rfl rfl (op_fa rfl fo81_0 (ev1 rfl)) ?_
  refine zag rfl rfl (op_ldo rfl tb3 (ev1 rfl) rfl rfl) ?_
  refine zag rfl rfl (op_mul' rfl (ev1 rfl) (ev1 rfl) (fun _ => IntWalk.i64_in _ (by omega))) ?_
  refine zag rfl rfl (op_fa rfl fo81_1 (ev1 rfl)) ?_
  refine zag rfl rfl (op_ldo rfl tb3 (ev1 rfl) rfl rfl) ?_
  refine zag rfl rfl (op_mul' rfl (ev1 rfl) (ev1 rfl) (fun _ => IntWalk.i64_in _ (by omega))) ?_
  refine zag rfl rfl (zad (.inr rfl) (ev1 rfl)) ?_
  refine zag rfl rfl (zad (.inr rfl) (ev1 rfl)) ?_
  refine lex_nil ?_
  refine dwp_ret ?_
  refine kend0 (rs2 rfl (rv_t rfl) (rv_t rfl)) rfl ?_
  rfl
set_option maxRecDepth 4000 in
set_option maxHeartbeats 1000000 in
theorem sask1_d (x y w h : Int) : DFun Tryz.prog 68 [.val (.int .i64 x), .val (.int .i64 y), .loc 0 0, .loc 1 0] [.flat 3 [.int .i64 (w * 8)], .flat 3 [.int .i64 (h * 8)]] (.val (.bool (onS w h x y))) [.flat 3 [.int .i64 (w * 8)], .flat 3 [.int .i64 (h * 8)]] := by
  refine zan (N := 23) 2 (by kernel_rfl) Tryz.func68 rfl rfl rfl (by simp only [fr0, Nat.zero_add, Nat.reduceAdd]; exact rfl) rfl fun s0 hs0 => ?_
  refine zaf ?_
  refine zac ?_
  refine zab rfl rfl rfl (zad (.inr rfl) (ev1 rfl)) ?_
  refine zae ?_
  refine zaf ?_
  refine zac ?_
  refine zab rfl rfl rfl (zad (.inl rfl) (ev1 rfl)) ?_
  refine zab rfl rfl rfl (op_geq rfl (ev1 rfl) (ev1 rfl)) ?_
  refine zab rfl rfl rfl (zad (.inl rfl) (ev1 rfl)) ?_
  refine walk_gr (gd_t rfl rfl rfl) rfl rfl rfl (zad (.inl rfl) (ev1 rfl)) ?_
  refine walk_gr (gd_t rfl rfl rfl) rfl rfl rfl (op_ldo rfl tb3 (ev1 rfl) rfl rfl) ?_
  refine walk_gr (gd_t rfl rfl rfl) rfl rfl rfl (op_lss rfl (ev2 rfl) (ev2 rfl)) ?_
  refine zab rfl rfl rfl (op_and rfl (ev1 rfl) (ev3 rfl id)) ?_
  refine zab rfl rfl rfl (zad (.inl rfl) (ev1 rfl)) ?_
  refine walk_gr (gd_t rfl rfl rfl) rfl rfl rfl (zad (.inl rfl) (ev1 rfl)) ?_
  refine walk_gr (gd_t rfl rfl rfl) rfl rfl rfl (op_geq rfl (ev2 rfl) (ev1 rfl)) ?_
  refine zab rfl rfl rfl (op_and rfl (ev1 rfl) (ev3 rfl id)) ?_
  refine zab rfl rfl rfl (zad (.inl rfl) (ev1 rfl)) ?_
  refine walk_gr (gd_t rfl rfl rfl) rfl rfl rfl (zad (.inl rfl) (ev1 rfl)) ?_
  refine walk_gr (gd_t rfl rfl rfl) rfl rfl rfl (op_ldo rfl tb3 (ev1 rfl) rfl rfl) ?_
  refine walk_gr (gd_t rfl rfl rfl) rfl rfl rfl (op_lss rfl (ev2 rfl) (ev2 rfl)) ?_
  refine zab rfl rfl rfl (op_and rfl (ev1 rfl) (ev3 rfl id)) ?_
  refine zab rfl rfl rfl (zad (.inr rfl) (ev1 rfl)) ?_
  refine zae ?_
  refine dwp_ret ?_
  refine kend [0, 1] (rs1 rfl (rv_t rfl)) rfl rfl ?_ ⟨rfl, rfl, trivial⟩
  simp [onS, Bool.and_assoc]
set_option maxRecDepth 4000 in
set_option maxHeartbeats 1000000 in
theorem splace_d (w h x y : Int) (hm : mayS w h = true) (ho : onS w h x y = true) : DFun Tryz.prog 69 [.val (.agg #[.int .i64 w, .int .i64 h]), .val (.int .i64 x), .val (.int .i64 y)] [] (.tup [.val (.int .i64 (plN w x y : Int)), .val (.int .i64 (pxN x y : Int))]) [] := by
  refine zan (N := 22) 0 (by kernel_rfl) Tryz.func69 rfl rfl rfl (by simp only [fr0, Nat.zero_add, Nat.reduceAdd]; exact rfl) rfl fun s0 hs0 => ?_
  refine zaf ?_
  refine zah 1 (by simp only [holes, List.cons_append, List.nil_append]; exact rfl) ?_
  refine zac ?_
  refine zaj rfl rfl rfl (op_boxa 0 rfl (ev1 rfl) rfl) (by simp only [upd, zaa, za]; exact rfl) ?_
  refine zab rfl rfl rfl (zad (.inr rfl) (ev1 rfl)) ?_
  refine zab rfl rfl rfl (zad (.inr rfl) (ev1 rfl)) ?_
  refine zae ?_
  refine zaf ?_
  have hb := mayS_b hm
  have hxy := onS_iff.1 ho
  have hpl := on_pl hm ho
  have hq1 : 0 ≤ y / 8 ∧ y / 8 ≤ 3 := by omega
  have hq2 : 0 ≤ y / 8 * w := Int.mul_nonneg hq1.1 (by omega)
  have hq3 : y / 8 * w ≤ 3 * 4 := Int.mul_le_mul hq1.2 hb.1.2 (by omega) (by omega)
  refine zac ?_
  refine zab rfl rfl rfl (zad (.inl rfl) (ev1 rfl)) ?_
  refine zab rfl rfl rfl (op_quo' rfl (ev1 rfl) (ev1 rfl) (fun _ => ⟨by omega, by omega, IntWalk.i64_in _ (by omega)⟩)) ?_
  refine zab rfl rfl rfl (op_fa rfl fo81_0 (ev1 rfl)) ?_
  refine zab rfl rfl rfl (op_ldo rfl tb3 (ev1 rfl) rfl rfl) ?_
  refine zab rfl rfl rfl (op_mul' rfl (ev1 rfl) (ev1 rfl) (fun _ => IntWalk.i64_in _ (by omega))) ?_
  refine zab rfl rfl rfl (zad (.inl rfl) (ev1 rfl)) ?_
  refine zab rfl rfl rfl (op_quo' rfl (ev1 rfl) (ev1 rfl) (fun _ => ⟨by omega, by omega, IntWalk.i64_in _ (by omega)⟩)) ?_
  refine zab rfl rfl rfl (op_add' rfl (ev1 rfl) (ev1 rfl) (fun _ => IntWalk.i64_in _ (by omega))) ?_
  refine zab rfl rfl rfl (zad (.inl rfl) (ev1 rfl)) ?_
  refine zab rfl rfl rfl (op_rem' rfl (ev1 rfl) (ev1 rfl) (fun _ => ⟨by omega, by omega⟩)) ?_
  refine zab rfl rfl rfl (op_mul' rfl (ev1 rfl) (ev1 rfl) (fun _ => IntWalk.i64_in _ (by omega))) ?_
  refine zab rfl rfl rfl (zad (.inl rfl) (ev1 rfl)) ?_
  refine zab rfl rfl rfl (op_rem' rfl (ev1 rfl) (ev1 rfl) (fun _ => ⟨by omega, by omega⟩)) ?_
  refine zab rfl rfl rfl (op_add' rfl (ev1 rfl) (ev1 rfl) (fun _ => IntWalk.i64_in _ (by omega))) ?_
  refine zab rfl rfl rfl (zad (.inr rfl) (ev1 rfl)) ?_
  refine zab rfl rfl rfl (zad (.inr rfl) (ev1 rfl)) ?_
  refine zae ?_
  refine dwp_ret ?_
  rw [← hpl.1, ← hpl.2.2.1]
  refine kend0 (rs2 rfl (rv_t rfl) (rv_t rfl)) rfl ?_
  rfl
set_option maxRecDepth 4000 in
set_option maxHeartbeats 1000000 in
theorem sasks_d (w h : Int) (hm : mayS w h = true) : DFun Tryz.prog 35 [.val (.agg #[.int .i64 w, .int .i64 h])] [] (.fn (.func 68) [] [.loc 0 0, .loc 1 0]) [.flat 3 [.int .i64 (w * 8)], .flat 3 [.int .i64 (h * 8)]] := by
  refine zan (N := 11) 0 (by kernel_rfl) Tryz.func35 rfl rfl rfl (by simp only [fr0, Nat.zero_add, Nat.reduceAdd]; exact rfl) rfl fun s0 hs0 => ?_
  refine zaf ?_
  refine zah 1 (by simp only [holes, List.cons_append, List.nil_append]; exact rfl) ?_
  refine zac ?_
  refine zaj rfl rfl rfl (op_boxa 0 rfl (ev1 rfl) rfl) (by simp only [upd, zaa, za]; exact rfl) ?_
  refine zab rfl rfl rfl (zad (.inr rfl) (ev1 rfl)) ?_
  refine zae ?_
  refine zaf ?_
  refine zah 2 (by simp only [holes, List.cons_append, List.nil_append]; exact rfl) ?_
  refine zac ?_
  refine zab rfl rfl rfl (op_ldw rfl tb81 (ev1 rfl) rfl rfl) ?_
  refine zab rfl rfl rfl (zai [] [] [] rfl (ev1 rfl) (ec (ev1 rfl) en) rfl rfl (spix_d w h hm) rfl rfl rfl rfl rfl rfl) ?_
  refine zab rfl rfl rfl (zad (.inl rfl) (ev1 rfl)) ?_
  refine zab rfl rfl rfl (op_ext rfl (ev1 rfl) rfl) ?_
  refine zab rfl rfl rfl (op_ext rfl (ev1 rfl) rfl) ?_
  refine zaj rfl rfl rfl (op_alloc 1 rfl zr3 rfl) (by simp only [upd, zaa, za]; exact rfl) ?_
  refine zaj rfl rfl rfl (op_alloc 2 rfl zr3 rfl) (by simp only [upd, zaa, za]; exact rfl) ?_
  refine walk_s rfl rfl (op_stwi rfl tb3 (ev1 rfl) (ev1 rfl) rfl) (by simp only [upd, zaa, za]; exact rfl) ?_
  refine walk_s rfl rfl (op_stwi rfl tb3 (ev1 rfl) (ev1 rfl) rfl) (by simp only [upd, zaa, za]; exact rfl) ?_
  refine zae ?_
  refine zaf ?_
  refine zac ?_
  refine zab rfl rfl rfl (op_mkf rfl en (ec (ev1 rfl) (ec (ev1 rfl) en))) ?_
  refine zab rfl rfl rfl (zad (.inr rfl) (ev1 rfl)) ?_
  refine zae ?_
  refine dwp_ret ?_
  refine kend [1, 2] (rs1 rfl (rv_t rfl)) rfl rfl ?_ ⟨rfl, rfl, trivial⟩
  rfl
end Go.Proofs.YtfnhckildfbikaaGreat
namespace Go.Proofs.YtfnhckildfbikaaGreat
set_option maxRecDepth 4000
set_option linter.unusedVariables false
set_option linter.unusedSimpArgs false
open Go.RowKit
theorem ar72 : arE Tryz.prog 72 = some (64, 4) := by kernel_rfl
theorem fl26 : fdL Tryz.prog 26 = some [(0, 1), (1, 1)] := by kernel_rfl
theorem fl44 : fdL Tryz.prog 44 = some [(0, 1), (1, 1), (2, 1), (3, 1)] := by kernel_rfl
theorem fo26_0 : fdO Tryz.prog 26 0 = some 0 := by kernel_rfl
theorem fo26_1 : fdO Tryz.prog 26 1 = some 1 := by kernel_rfl
theorem fo84_0 : fdO Tryz.prog 84 0 = some 0 := by kernel_rfl
theorem fo84_1 : fdO Tryz.prog 84 1 = some 2 := by kernel_rfl
theorem pt29 : ptT Tryz.prog 29 = some 84 := by kernel_rfl
theorem sl82 : slE Tryz.prog 82 = some (108, 1, 8) := by kernel_rfl
theorem tb108 : tyB Tryz.prog 108 = some (false, 1) := by kernel_rfl
theorem tb44 : tyB Tryz.prog 44 = some (true, 4) := by kernel_rfl
theorem tb82 : tyB Tryz.prog 82 = some (false, 1) := by kernel_rfl
theorem zr26 : zrC Tryz.prog 26 = some [.int .i64 0, .int .i64 0] := by kernel_rfl
theorem zr44 : zrC Tryz.prog 44 = some [.int .u8 0, .int .u8 0, .int .u8 0, .int .u8 0] := by kernel_rfl
set_option maxRecDepth 4000 in
set_option maxHeartbeats 1000000 in
theorem size_d (w h : Int) (ds : List D) (ts : List TL) (hr : RowOk ds ts) (hc : CvOk w h ts)  : DFun Tryz.prog 8 [cvD w h ds] [] (.tup [.val (.int .i64 (w * 8)), .val (.int .i64 (h * 8))]) [] := by
  refine zan (N := 13) 0 (by kernel_rfl) Tryz.func8 rfl rfl rfl (by simp only [fr0, Nat.zero_add, Nat.reduceAdd]; exact rfl) rfl fun s0 hs0 => ?_
  refine zaf ?_
  refine zac ?_
  refine zab rfl rfl rfl (zad (.inr rfl) (ev1 rfl)) ?_
  refine zab rfl rfl rfl (zad (.inr rfl) (ev1 rfl)) ?_
  refine zae ?_
  refine zaf ?_
  refine zaf ?_
  refine zac ?_
  refine zab rfl rfl rfl (zad (.inl rfl) (ev1 rfl)) ?_
  refine zab rfl rfl rfl (op_pnilm rfl pt29 (ev1 rfl)) ?_
  refine zae ?_
  refine dwp_if_f rfl (rfl) ?_
  refine zal ?_
  refine zaf ?_
  refine zac ?_
  refine zab rfl rfl rfl (zad (.inl rfl) (ev1 rfl)) ?_
  refine zab rfl rfl rfl (op_nc rfl (ev1 rfl) (fun s v h => by cases h; exact ⟨_, rfl⟩)) ?_
  refine zab rfl rfl rfl (op_fadm rfl fo84_0 (ev1 rfl)) ?_
  refine zab rfl rfl rfl (op_lddv [_, _] rfl tb81 (ev1 rfl) rfl rfl) ?_
  refine zab rfl rfl rfl (zai [] [] [] rfl (ev1 rfl) (ec (ev1 rfl) en) rfl rfl (spix_d w h hc.may) rfl rfl rfl rfl rfl rfl) ?_
  refine zab rfl rfl rfl (op_ext rfl (ev1 rfl) rfl) ?_
  refine zab rfl rfl rfl (op_ext rfl (ev1 rfl) rfl) ?_
  refine zab rfl rfl rfl (zad (.inr rfl) (ev1 rfl)) ?_
  refine zab rfl rfl rfl (zad (.inr rfl) (ev1 rfl)) ?_
  refine zae ?_
  refine dwp_ret ?_
  refine kend0 (rs2 rfl (rv_t rfl) (rv_t rfl)) rfl ?_
  rfl
set_option maxRecDepth 4000 in
set_option maxHeartbeats 1000000 in
theorem color_d (w h : Int) (ds : List D) (ts : List TL) (hr : RowOk ds ts) (hc : CvOk w h ts) (x y : Int) (ho : onS w h x y = true) : DFun Tryz.prog 36 [cvD w h ds, .val (.agg #[.int .i64 x, .int .i64 y])] [] (.val (.agg (c4 (getC w ts x y)).toArray)) [] := by
  refine zan (N := 30) 0 (by kernel_rfl) Tryz.func36 rfl rfl rfl (by simp only [fr0, Nat.zero_add, Nat.reduceAdd]; exact rfl) rfl fun s0 hs0 => ?_
  refine zaf ?_
  refine zah 2 (by simp only [holes, List.cons_append, List.nil_append]; exact rfl) ?_
  refine zac ?_
  refine zaj rfl rfl rfl (op_boxa 0 rfl (ev1 rfl) rfl) (by simp only [upd, zaa, za]; exact rfl) ?_
  refine zaj rfl rfl rfl (op_alloc 1 rfl zr44 rfl) (by simp only [upd, zaa, za]; exact rfl) ?_
  refine zae ?_
  refine zaf ?_
  refine dwp_draw [([], []), ([], []), ([], []), ([], []), ([], []), ([0], []), ([], []), ([0], []), ([], []), ([], []), ([], []), ([], []), ([], []), ([], [])] mixed (by kernel_rfl) ?_
  refine zag rfl rfl (zad (.inl rfl) (ev1 rfl)) ?_
  refine zag rfl rfl (op_nc rfl (ev1 rfl) (fun s v h => by cases h; exact ⟨_, rfl⟩)) ?_
  refine zag rfl rfl (op_fadm rfl fo84_0 (ev1 rfl)) ?_
  refine zag rfl rfl (op_lddv [_, _] rfl tb81 (ev1 rfl) rfl rfl) ?_
  refine zag rfl rfl (op_fa rfl fo26_0 (ev1 rfl)) ?_
  refine zag rfl rfl (op_ldo rfl tb3 (ev1 rfl) rfl rfl) ?_
  refine zag rfl rfl (op_fa rfl fo26_1 (ev1 rfl)) ?_
  refine zag rfl rfl (op_ldo rfl tb3 (ev1 rfl) rfl rfl) ?_
  refine zag rfl rfl (zai [] [] [] rfl (ev1 rfl) (ec (ev1 rfl) (ec (ev1 rfl) (ec (ev1 rfl) en))) rfl rfl (splace_d w h x y hc.may ho) rfl rfl rfl rfl rfl rfl) ?_
  refine zag rfl rfl (zad (.inl rfl) (ev1 rfl)) ?_
  refine zag rfl rfl (op_ext rfl (ev1 rfl) rfl) ?_
  refine zag rfl rfl (op_ext rfl (ev1 rfl) rfl) ?_
  refine zag rfl rfl (zad (.inr rfl) (ev1 rfl)) ?_
  refine zag rfl rfl (zad (.inr rfl) (ev1 rfl)) ?_
  refine lex_nil ?_
  refine zaf ?_
  obtain ⟨d, hd, _, _, _, hw⟩ := hr.at (hc.pl ho)
  have hpx := (on_pl hc.may ho).2.2.2
  refine zac ?_
  refine zab rfl rfl rfl (zad (.inl rfl) (ev1 rfl)) ?_
  refine zab rfl rfl rfl (op_nc rfl (ev1 rfl) (fun s v h => by cases h; exact ⟨_, rfl⟩)) ?_
  refine zab rfl rfl rfl (op_fadm rfl fo84_1 (ev1 rfl)) ?_
  refine zab rfl rfl rfl (op_lddm rfl tb82 (ev1 rfl) rfl) ?_
  refine zab rfl rfl rfl (zad (.inl rfl) (ev1 rfl)) ?_
  refine zab rfl rfl rfl (op_ixm (plN w x y) rfl sl82 (ev1 rfl) (ev1 rfl) (fun _ => rfl) (hd)) ?_
  refine zab rfl rfl rfl ((op_lddm rfl tb108 (ev1 rfl) rfl).wk (hw)) ?_
  refine zab rfl rfl rfl (zad (.inl rfl) (ev1 rfl)) ?_
  refine zab rfl rfl rfl (op_nc rfl (ev1 rfl) (fun s v h => by cases h; exact ⟨_, rfl⟩)) ?_
  refine zab rfl rfl rfl (op_ixdr (j := pxN x y) (zC4) rfl ar72 (ev1 rfl) (ev1 rfl) (fun _ => by omega) (fun _ => by omega) ((TL.h _)) (fun _ => rfl)) ?_
  refine zab rfl rfl rfl (op_ldwd rfl tb44 (ev1 rfl) rfl) ?_
  refine walk_s rfl rfl (op_stwa rfl tb44 (ev1 rfl) (ev1 rfl) rfl rfl rfl rfl) (by simp only [upd, zaa, za]; exact rfl) ?_
  refine zae ?_
  refine dwp_ret ?_
  refine kend0 (rs1 rfl (rv_w tb44 rfl rfl rfl)) rfl ?_
  rfl
set_option maxRecDepth 4000 in
set_option maxHeartbeats 1000000 in
theorem at_d (w h : Int) (ds : List D) (ts : List TL) (hr : RowOk ds ts) (hc : CvOk w h ts) (x y : Int) : DFun Tryz.prog 12 [cvD w h ds, .val (.int .i64 x), .val (.int .i64 y)] [] (.tup [.val (.agg (c4 (if onS w h x y = true then getC w ts x y else zC4)).toArray), .val (.bool (onS w h x y))]) [] := by
  refine zan (N := 28) 0 (by kernel_rfl) Tryz.func12 rfl rfl rfl (by simp only [fr0, Nat.zero_add, Nat.reduceAdd]; exact rfl) rfl fun s0 hs0 => ?_
  refine zaf ?_
  refine zah 1 (by simp only [holes, List.cons_append, List.nil_append]; exact rfl) ?_
  refine zac ?_
  refine zaj rfl rfl rfl (op_alloc 0 rfl zr44 rfl) (by simp only [upd, zaa, za]; exact rfl) ?_
  refine zab rfl rfl rfl (zad (.inr rfl) (ev1 rfl)) ?_
  refine zae ?_
  refine zaf ?_
  refine zaf ?_
  refine zac ?_
  refine zab rfl rfl rfl (zad (.inl rfl) (ev1 rfl)) ?_
  refine zab rfl rfl rfl (op_pnilm rfl pt29 (ev1 rfl)) ?_
  refine zae ?_
  refine dwp_if_f rfl (rfl) ?_
  refine zal ?_
  refine zaf ?_
  refine zaf ?_
  refine zah 2 (by simp only [holes, List.cons_append, List.nil_append]; exact rfl) ?_
  refine zac ?_
  refine zab rfl rfl rfl (zad (.inl rfl) (ev1 rfl)) ?_
  refine zab rfl rfl rfl (op_nc rfl (ev1 rfl) (fun s v h => by cases h; exact ⟨_, rfl⟩)) ?_
  refine zab rfl rfl rfl (op_fadm rfl fo84_0 (ev1 rfl)) ?_
  refine zab rfl rfl rfl (op_lddv [_, _] rfl tb81 (ev1 rfl) rfl rfl) ?_
  refine zaj rfl rfl rfl (zai [] [] [1, 2] rfl (ev1 rfl) (ec (ev1 rfl) en) rfl rfl (sasks_d w h hc.may) rfl rfl rfl rfl rfl rfl) (by simp only [upd, zaa, za]; exact rfl) ?_
  refine zab rfl rfl rfl (zad (.inr rfl) (ev1 rfl)) ?_
  refine zae ?_
  refine zaf ?_
  refine zac ?_
  refine zab rfl rfl rfl (zad (.inl rfl) (ev1 rfl)) ?_
  refine zab rfl rfl rfl (zad (.inl rfl) (ev1 rfl)) ?_
  refine zab rfl rfl rfl (zad (.inl rfl) (ev1 rfl)) ?_
  refine zaj rfl rfl rfl (zai [1, 2] [] [] rfl (ev1 rfl) (ec (ev1 rfl) (ec (ev1 rfl) en)) rfl rfl (sask1_d x y w h) rfl rfl rfl rfl rfl rfl) (by simp only [upd, zaa, za]; exact rfl) ?_
  refine zab rfl rfl rfl (op_not rfl (ev1 rfl)) ?_
  refine zae ?_
  refine dwp_cond rfl (fun c2 => ?_) (fun c2 => ?_)
  · have ho : onS w h x y = false := bn_t c2
    refine zaf ?_
    refine zac ?_
    refine zab rfl rfl rfl (op_build0 rfl fl44 zr44) ?_
    refine walk_s rfl rfl (op_stwa rfl tb44 (ev1 rfl) (ev1 rfl) rfl rfl rfl rfl) (by simp only [upd, zaa, za]; exact rfl) ?_
    refine zab rfl rfl rfl (zad (.inr rfl) (ev1 rfl)) ?_
    refine zae ?_
    refine dwp_ret ?_
    refine kend0 (rs2 rfl (rv_w tb44 rfl rfl rfl) (rv_t rfl)) rfl ?_
    rw [ho]
    rfl
  · have ho : onS w h x y = true := bn_f c2
    refine zal ?_
    refine zaf ?_
    refine zac ?_
    refine zab rfl rfl rfl (zad (.inl rfl) (ev1 rfl)) ?_
    refine zab rfl rfl rfl (zad (.inl rfl) (ev1 rfl)) ?_
    refine zab rfl rfl rfl (zad (.inl rfl) (ev1 rfl)) ?_
    refine zab rfl rfl rfl (op_build (ps := [(0, .tmp 24), (1, .tmp 25)]) rfl fl26 zr26 (vc (ev1 rfl) (vc (ev1 rfl) vn)) rfl rfl) ?_
    refine zab rfl rfl rfl (zai [] [] [] rfl (ev1 rfl) (ec (ev1 rfl) (ec (ev1 rfl) en)) rfl rfl (color_d w h ds ts hr hc x y ho) rfl rfl rfl rfl rfl rfl) ?_
    refine walk_s rfl rfl (op_stwa rfl tb44 (ev1 rfl) (ev1 rfl) rfl rfl rfl rfl) (by simp only [upd, zaa, za]; exact rfl) ?_
    refine zab rfl rfl rfl (zad (.inr rfl) (ev1 rfl)) ?_
    refine zae ?_
    refine dwp_ret ?_
    refine kend0 (rs2 rfl (rv_w tb44 rfl rfl rfl) (rv_t rfl)) rfl ?_
    rw [ho]
    rfl
end Go.Proofs.YtfnhckildfbikaaGreat
namespace Go.Proofs.YtfnhckildfbikaaGreat
set_option maxRecDepth 4000
set_option linter.unusedVariables false
set_option linter.unusedSimpArgs false
open Go.RowKit
theorem eq26 {a b : P2} : eqT Tryz.prog 9 26 (p2 a) (p2 b) = some (decide (a = b)) := by
  have h : ((a.x == b.x) && ((a.y == b.y) && true)) = decide (a = b) := by
    obtain ⟨x, y⟩ := a
    obtain ⟨x', y'⟩ := b
    rw [Bool.eq_iff_iff]
    simp
  rw [← h]
  exact (show eqT Tryz.prog 9 26 [.int .i64 a.x, .int .i64 a.y] [.int .i64 b.x, .int .i64 b.y] = some ((a.x == b.x) && ((a.y == b.y) && true)) by kernel_rfl)
theorem fl81 : fdL Tryz.prog 81 = some [(0, 1), (1, 1)] := by kernel_rfl
theorem fo24_0 : fdO Tryz.prog 24 0 = some 0 := by kernel_rfl
theorem fo24_1 : fdO Tryz.prog 24 1 = some 1 := by kernel_rfl
theorem fo24_2 : fdO Tryz.prog 24 2 = some 2 := by kernel_rfl
theorem gd26 : Tryz.prog.eqGuardType Tryz.prog.depth 26 = false := by kernel_rfl
theorem sl22 : slE Tryz.prog 22 = some (72, 256, 256) := by kernel_rfl
theorem sl55 : slE Tryz.prog 55 = some (26, 2, 16) := by kernel_rfl
theorem tb22 : tyB Tryz.prog 22 = some (false, 1) := by kernel_rfl
theorem tb26 : tyB Tryz.prog 26 = some (true, 2) := by kernel_rfl
theorem zr72 : zrC Tryz.prog 72 = some (tc zT) := by kernel_rfl
theorem zr81 : zrC Tryz.prog 81 = some [.int .i64 0, .int .i64 0] := by kernel_rfl
set_option maxRecDepth 4000 in
set_option maxHeartbeats 1000000 in
theorem cloneT (l : List TL) (h : l.length ≤ 5000) : DFun Tryz.prog 24 [.slf 256 l.length (l.flatMap tc)] [] (.arr 0) [.arr 72 256 l.length (l.flatMap tc)] := by
  refine zan (N := 8) 0 (by kernel_rfl) Tryz.func24 rfl rfl rfl (by simp only [fr0, Nat.zero_add, Nat.reduceAdd]; exact rfl) rfl fun s0 hs0 => ?_
  refine dwp_len (t := 0) rfl fun hl0 hL0 => ?_
  refine zaf ?_
  refine zac ?_
  refine zab rfl rfl rfl (zad (.inr rfl) (ev1 rfl)) ?_
  refine zae ?_
  refine zaf ?_
  refine zaf ?_
  refine zac ?_
  refine zab rfl rfl rfl (zad (.inl rfl) (ev1 rfl)) ?_
  refine walk_nil? rfl rfl rfl rfl sl22 (ev1 rfl) fun nb4 hnb4 => ?_
  refine zae ?_
  refine dwp_cond rfl (fun c1 => ?_) (fun c1 => ?_)
  · try simp only [decide_eq_true_eq, decide_eq_false_iff_not, beq_iff_eq, bne_iff_ne, beq_eq_false_iff_ne, bne_eq_false_iff_eq, Bool.not_eq_true', Bool.not_eq_false', Bool.and_eq_true, Bool.or_eq_true, Bool.or_eq_false_iff, ne_eq, Decidable.not_not, Int.not_lt, Int.not_le] at c1
    refine zaf ?_
    refine zac ?_
    refine zab rfl rfl rfl (zad (.inr rfl) (ev1 rfl)) ?_
    refine zae ?_
    refine dwp_adopt 2 72 256 rfl rfl rfl ?_
    refine dwp_ret ?_
    refine kend [0] (rs1 rfl (rv_t rfl)) rfl rfl ?_ ⟨?_, trivial⟩
    rfl
    exact (by obtain ⟨h1, h2⟩ := hnb4 c1; simp_all [MFits, vwB])
  · try simp only [decide_eq_true_eq, decide_eq_false_iff_not, beq_iff_eq, bne_iff_ne, beq_eq_false_iff_ne, bne_eq_false_iff_eq, Bool.not_eq_true', Bool.not_eq_false', Bool.and_eq_true, Bool.or_eq_true, Bool.or_eq_false_iff, ne_eq, Decidable.not_not, Int.not_lt, Int.not_le] at c1
    refine zal ?_
    refine zaf ?_
    refine zah 2 (by simp only [holes, List.cons_append, List.nil_append]; exact rfl) ?_
    refine zac ?_
    refine zaj rfl rfl rfl (op_bsa (ps := []) 0 rfl sl22 zr72 rfl vn rfl (by decide) (by decide) rfl) (by simp only [upd, zaa, za]; exact rfl) ?_
    refine zab rfl rfl rfl (zad (.inl rfl) (ev1 rfl)) ?_
    refine zaj rfl rfl rfl (op_app (j := 1) rfl sl22 zr72 rfl (ev1 rfl) (ev1 rfl) src_slf rfl rfl (fun _ => flat_oc (fun t => flat_oc (fun _ => rfl) t.l) l) (fun _ => ⟨by omega, by omega⟩)) (by simp only [upd, zaa, za]; exact rfl) ?_
    refine zab rfl rfl rfl (zad (.inr rfl) (ev1 rfl)) ?_
    refine zae ?_
    refine dwp_ret ?_
    refine kend [1] (rs1 rfl (rv_t rfl)) rfl rfl ?_ ⟨?_, trivial⟩
    rfl
    simp [vwB]
theorem cloneT_f (l : List TL) (h : l.length ≤ 5000) : DFun Tryz.prog 24 [.slf 256 l.length (l.flatMap tc)] [] (.slf 256 l.length (l.flatMap tc)) [] := freeze (cloneT l h) rfl
set_option maxRecDepth 4000 in
set_option maxHeartbeats 1000000 in
theorem ccheck_d (w h : Int) (ts : List TL) : DFun Tryz.prog 53 [shD w h ts] [] (.val (.int .i64 (errOr (rightB w h ts) 150))) [] := by
  refine zan (N := 23) 0 (by kernel_rfl) Tryz.func53 rfl rfl rfl (by simp only [fr0, Nat.zero_add, Nat.reduceAdd]; exact rfl) rfl fun s0 hs0 => ?_
  refine zaf ?_
  refine zah 1 (by simp only [holes, List.cons_append, List.nil_append]; exact rfl) ?_
  refine zac ?_
  refine zaj rfl rfl rfl (op_boxam 0 rfl (ev1 rfl) rfl) (by simp only [upd, zaa, za]; exact rfl) ?_
  refine zab rfl rfl rfl (zad (.inr rfl) (ev1 rfl)) ?_
  refine zae ?_
  refine zaf ?_
  refine zaf ?_
  refine zah 1 (by simp only [holes, List.cons_append, List.nil_append]; exact rfl) ?_
  refine zac ?_
  refine zab rfl rfl rfl (op_fa rfl fo24_0 (ev1 rfl)) ?_
  refine zab rfl rfl rfl (op_ldm rfl tb3 (ev1 rfl) rfl rfl) ?_
  refine zab rfl rfl rfl (op_fa rfl fo24_1 (ev1 rfl)) ?_
  refine zab rfl rfl rfl (op_ldm rfl tb3 (ev1 rfl) rfl rfl) ?_
  refine zab rfl rfl rfl (op_build (ps := [(0, .tmp 5), (1, .tmp 7)]) rfl fl81 zr81 (vc (ev1 rfl) (vc (ev1 rfl) vn)) rfl rfl) ?_
  refine zaj rfl rfl rfl (op_alloc 1 rfl zr81 rfl) (by simp only [upd, zaa, za]; exact rfl) ?_
  refine walk_s rfl rfl (op_stwa rfl tb81 (ev1 rfl) (ev1 rfl) rfl rfl rfl rfl) (by simp only [upd, zaa, za]; exact rfl) ?_
  refine zae ?_
  refine zaf ?_
  refine zac ?_
  refine zab rfl rfl rfl (op_ldw rfl tb81 (ev1 rfl) rfl rfl) ?_
  refine zab rfl rfl rfl (zai [] [] [] rfl (ev1 rfl) (ec (ev1 rfl) en) rfl rfl (smay_d _ _) rfl rfl rfl rfl rfl rfl) ?_
  refine zab rfl rfl rfl (op_not rfl (ev1 rfl)) ?_
  refine zab rfl rfl rfl (zad (.inl rfl) (ev1 rfl)) ?_
  refine walk_gr (gd_f rfl rfl rfl) rfl rfl rfl (op_fa rfl fo24_2 (ev1 rfl)) ?_
  refine walk_gr (gd_f rfl rfl rfl) rfl rfl rfl (op_ldm rfl tb22 (ev2 rfl) rfl rfl) ?_
  refine walk_gr (gd_f rfl rfl rfl) rfl rfl rfl (op_len rfl sl22 (ev2 rfl)) ?_
  refine walk_gr (gd_f rfl rfl rfl) rfl rfl rfl (op_fa rfl fo81_0 (ev1 rfl)) ?_
  refine walk_gr (gd_f rfl rfl rfl) rfl rfl rfl (op_ldo rfl tb3 (ev2 rfl) rfl rfl) ?_
  refine walk_gr (gd_f rfl rfl rfl) rfl rfl rfl (op_fa rfl fo81_1 (ev1 rfl)) ?_
  refine walk_gr (gd_f rfl rfl rfl) rfl rfl rfl (op_ldo rfl tb3 (ev2 rfl) rfl rfl) ?_
  refine walk_gr (gd_f rfl rfl rfl) rfl rfl rfl (op_mul rfl (ev2 rfl) (ev2 rfl)) ?_
  refine walk_gr (gd_f rfl rfl rfl) rfl rfl rfl (op_neq rfl (ev2 rfl) (ev2 rfl)) ?_
  refine zab rfl rfl rfl (op_or rfl (ev1 rfl) (ev3 rfl id)) ?_
  refine zae ?_
  refine dwp_cond rfl (fun c1 => ?_) (fun c1 => ?_)
  · have hr : rightB w h ts = false := by
      cases hm : mayS w h with
      | false => unfold rightB; rw [hm]; rfl
      | true =>
        have hb := mul_in hm
        rw [hm, IntWalk.i64_in _ (by omega)] at c1
        simp at c1
        unfold rightB
        rw [decide_eq_false (by omega)]
        exact Bool.and_false _
    refine zaf ?_
    refine zac ?_
    refine zab rfl rfl rfl (zad (.inr rfl) (ev1 rfl)) ?_
    refine zae ?_
    refine dwp_ret ?_
    refine kend0 (rs1 rfl (rv_t rfl)) rfl ?_
    rw [hr]
    rfl
  · have hr : rightB w h ts = true := by
      cases hm : mayS w h with
      | false => rw [hm] at c1; simp at c1
      | true =>
        have hb := mul_in hm
        rw [hm, IntWalk.i64_in _ (by omega)] at c1
        simp at c1
        unfold rightB
        rw [hm, decide_eq_true (by omega)]
        rfl
    refine zal ?_
    refine zaf ?_
    refine zac ?_
    refine zab rfl rfl rfl (zad (.inr rfl) (ev1 rfl)) ?_
    refine zae ?_
    refine dwp_ret ?_
    refine kend0 (rs1 rfl (rv_t rfl)) rfl ?_
    rw [hr]
    rfl
end Go.Proofs.YtfnhckildfbikaaGreat
namespace Go.Proofs.YtfnhckildfbikaaGreat
set_option maxRecDepth 4000
set_option linter.unusedVariables false
set_option linter.unusedSimpArgs false
open Go.RowKit
theorem fl84 : fdL Tryz.prog 84 = some [(0, 2), (2, 1)] := by kernel_rfl
theorem tb24 : tyB Tryz.prog 24 = some (true, 3) := by kernel_rfl
theorem tb72 : tyB Tryz.prog 72 = some (true, 256) := by kernel_rfl
theorem zr108 : zrC Tryz.prog 108 = some [.pointer none] := by kernel_rfl
theorem zr84 : zrC Tryz.prog 84 = some [.int .i64 0, .int .i64 0, .slice none 0 0] := by kernel_rfl
set_option maxRecDepth 4000 in
set_option maxHeartbeats 1000000 in
theorem new_d (c : C4) : DFun Tryz.prog 77 [.val (.agg (c4 c).toArray)] [] (tD (nT c)) [] := by
  refine zan (N := 13) 0 (by kernel_rfl) Tryz.func77 rfl rfl rfl (by simp only [fr0, Nat.zero_add, Nat.reduceAdd]; exact rfl) rfl fun s0 hs0 => ?_
  refine zaf ?_
  refine zah 2 (by simp only [holes, List.cons_append, List.nil_append]; exact rfl) ?_
  refine zac ?_
  refine zaj rfl rfl rfl (op_boxa 0 rfl (ev1 rfl) rfl) (by simp only [upd, zaa, za]; exact rfl) ?_
  refine zaj rfl rfl rfl (op_alloc 1 rfl zr72 rfl) (by simp only [upd, zaa, za]; exact rfl) ?_
  refine zae ?_
  refine zaf ?_
  refine zah 1 (by simp only [holes, List.cons_append, List.nil_append]; exact rfl) ?_
  refine zac ?_
  refine zaj rfl rfl rfl (op_alloc 2 rfl zr72 rfl) (by simp only [upd, zaa, za]; exact rfl) ?_
  refine zae ?_
  refine zaf ?_
  refine zaf ?_
  refine zac ?_
  refine zab rfl rfl rfl (zad (.inl rfl) (ev1 rfl)) ?_
  refine zae ?_
  refine zak ?_
  refine dwp_loopS ⟨hs0, rfl⟩ (α := Nat) (fun k => [(5, .val (.int .i64 (k : Int)))]) [(1, _), (2, _), (3, _)] (fun k => [(2, .flat 72 (tc (newT c k)))]) [_, _, .hole] (fun k => k ≤ 64) (fun k => 64 - k) 0 [0, 1, 2] (by simp) rfl ⟨rfl, rfl, rfl, trivial⟩ ⟨rfl, trivial⟩ ⟨rfl, rfl, rfl, trivial⟩ ?_
  intro k hx
  simp only [upd, zaa, za, List.cons_append, List.nil_append]
  have hk := hx
  refine zaf ?_
  refine zac ?_
  refine zab rfl rfl rfl (op_lss rfl (ev1 rfl) (ev1 rfl)) ?_
  refine zae ?_
  refine zaf ?_
  refine dwp_cond rfl (fun c1 => ?_) (fun c1 => ?_)
  · try simp only [decide_eq_true_eq, decide_eq_false_iff_not, beq_iff_eq, bne_iff_ne, beq_eq_false_iff_ne, bne_eq_false_iff_eq, Bool.not_eq_true', Bool.not_eq_false', Bool.and_eq_true, Bool.or_eq_true, Bool.or_eq_false_iff, ne_eq, Decidable.not_not, Int.not_lt, Int.not_le] at c1
    refine zal ?_
    refine zaf ?_
    refine zak ?_
    refine zaf ?_
    refine zac ?_
    refine zab rfl rfl rfl (zad (.inl rfl) (ev1 rfl)) ?_
    refine zab rfl rfl rfl (zad (.inr rfl) (ev1 rfl)) ?_
    refine zae ?_
    refine zac ?_
    refine zab rfl rfl rfl (zad (.inl rfl) (ev1 rfl)) ?_
    refine zab rfl rfl rfl (op_ldw rfl tb44 (ev1 rfl) rfl rfl) ?_
    refine zab rfl rfl rfl (op_ixfr (j := k) rfl ar72 (ev1 rfl) (ev1 rfl) (fun _ => by omega) (fun _ => by omega)) ?_
    refine walk_s rfl rfl (op_stfr (q := c) rfl tb44 (ev1 rfl) (ev1 rfl) rfl rfl rfl (fun _ => rfl) (fun _ => by rw [TL.h]; omega)) (by simp only [upd, zaa, za]; exact rfl) ?_
    refine zae ?_
    refine zac ?_
    refine zab rfl rfl rfl (op_add' rfl (ev1 rfl) (ev1 rfl) (fun _ => IntWalk.i64_in _ (by omega))) ?_
    refine zab rfl rfl rfl (zad (.inl rfl) (ev1 rfl)) ?_
    refine zae ?_
    refine ⟨k + 1, [0, 1, 2], by omega, by simp only []; omega, rfl, ⟨rfl, rfl, rfl, rfl, trivial⟩, ⟨rfl, rfl, by rw [newT_succ]; rfl, trivial⟩⟩
  · try simp only [decide_eq_true_eq, decide_eq_false_iff_not, beq_iff_eq, bne_iff_ne, beq_eq_false_iff_ne, bne_eq_false_iff_eq, Bool.not_eq_true', Bool.not_eq_false', Bool.and_eq_true, Bool.or_eq_true, Bool.or_eq_false_iff, ne_eq, Decidable.not_not, Int.not_lt, Int.not_le] at c1
    refine dwp_exit ?_
    refine zaf ?_
    refine zac ?_
    refine zab rfl rfl rfl (op_ldw rfl tb72 (ev1 rfl) rfl (tc_len _)) ?_
    refine walk_s rfl rfl (op_stwa rfl tb72 (ev1 rfl) (ev1 rfl) rfl (tc_len _) (tc_oc _) ((tc_len _).trans (tc_len _).symm)) (by simp only [upd, zaa, za]; exact rfl) ?_
    refine zae ?_
    refine dwp_ret ?_
    refine kend0 (rs1 rfl (rv_w tb72 rfl rfl (tc_len _))) rfl ?_
    rw [show k = 64 by omega, newT_end]
def pinsR (A : List Nat) (ts : List TL) : List D := (A.zip ts).map fun p => .pin p.1 (tc p.2)
theorem pinsR_len {A : List Nat} {ts : List TL} (h : A.length = ts.length) : (pinsR A ts).length = ts.length := by simp [pinsR, h]
theorem pinsR_at {A : List Nat} {ts : List TL} {q : Nat} {d : D} (hd : (pinsR A ts)[q]? = some d) : ∃ b t, A[q]? = some b ∧ ts[q]? = some t ∧ d = .pin b (tc t) := by
  unfold pinsR at hd
  rw [List.getElem?_map] at hd
  cases e : (A.zip ts)[q]? with
  | none => rw [e] at hd; cases hd
  | some p =>
    rw [e] at hd
    obtain ⟨h1, h2⟩ := List.getElem?_zip_eq_some.1 e
    cases hd
    exact ⟨p.1, p.2, h1, h2, rfl⟩
theorem nlL_all {l : List D} (h : ∀ d ∈ l, d.nl = true) : D.nlL l = true := by
  induction l with
  | nil => rfl
  | cons d l ih => rw [D.nlL, h d (by simp), ih fun e he => h e (by simp [he])]; rfl
theorem pinsR_ok {A : List Nat} {ts : List TL} (h : A.length = ts.length) : RowOk (pinsR A ts) ts := by
  have hm : ∀ d ∈ pinsR A ts, ∃ b t, d = .pin b (tc t) := fun d hd => by
    obtain ⟨q, hq⟩ := List.getElem?_of_mem hd
    obtain ⟨b, t, _, _, e⟩ := pinsR_at hq
    exact ⟨b, t, e⟩
  refine ⟨pinsR_len h, nlL_all fun d hd => ?_, List.all_eq_true.2 fun d hd => ?_, fun q d t h1 h2 => ?_⟩
  · obtain ⟨b, t, rfl⟩ := hm d hd; rfl
  · obtain ⟨b, t, rfl⟩ := hm d hd; rfl
  · obtain ⟨b, u, h3, h4, rfl⟩ := pinsR_at h1
    rw [h2] at h4
    cases h4
    exact Wk.pin _ _
theorem pinsR_add {A : List Nat} {ts : List TL} (h : A.length = ts.length) (b : Nat) (t : TL) : pinsR (A ++ [b]) (ts ++ [t]) = pinsR A ts ++ [.pin b (tc t)] := by
  unfold pinsR
  rw [List.zip_append h, List.map_append]
  rfl
theorem pinsR_rep (A : List Nat) (b : Nat) (t : TL) : pinsR A (List.replicate A.length t) ++ List.flatMap D.cs [.pin b (tc t)] = pinsR (A ++ [b]) (List.replicate (A ++ [b]).length t) := by
  rw [List.length_append, show A.length + [b].length = A.length + 1 from rfl, List.replicate_succ', pinsR_add (by simp)]
  rfl
def NewCv (I : Nat → Prop) (w h : Int) (ts : List TL) (d : D) : Prop := ∃ A : List Nat, A.length = ts.length ∧ (∀ b ∈ A, ¬ I b) ∧ d = cvD w h (pinsR A ts)
def Okd (Q : D → Prop) (d : D) : Prop := ∃ e, Q e ∧ d = .tup [e, .val (.int .i64 0)]
set_option maxRecDepth 4000 in
set_option maxHeartbeats 1000000 in
theorem cnew_i (w h : Int) (n : Nat) (hm : mayS w h = true) (hn : w * h = (n : Int)) : DFunI Tryz.prog 44 [.val (.int .i64 w), .val (.int .i64 h)] [] (fun I => Okd (NewCv I w h (List.replicate n (nT zC4)))) [] := by
  have hb := mul_in hm
  refine dcallsI_go (N := 36) 0 (by kernel_rfl) Tryz.func44 rfl rfl rfl (by simp only [fr0, Nat.zero_add, Nat.reduceAdd]; exact rfl) rfl fun s0 hs0 => ?_
  refine zaf ?_
  refine zac ?_
  refine zab rfl rfl rfl (zad (.inr rfl) (ev1 rfl)) ?_
  refine zab rfl rfl rfl (zad (.inr rfl) (ev1 rfl)) ?_
  refine zae ?_
  refine zaf ?_
  refine zah 1 (by simp only [holes, List.cons_append, List.nil_append]; exact rfl) ?_
  refine zac ?_
  refine zab rfl rfl rfl (zad (.inl rfl) (ev1 rfl)) ?_
  refine zab rfl rfl rfl (zad (.inl rfl) (ev1 rfl)) ?_
  refine zab rfl rfl rfl (op_build (ps := [(0, .tmp 9), (1, .tmp 10)]) rfl fl81 zr81 (vc (ev1 rfl) (vc (ev1 rfl) vn)) rfl rfl) ?_
  refine zaj rfl rfl rfl (op_alloc 0 rfl zr81 rfl) (by simp only [upd, zaa, za]; exact rfl) ?_
  refine walk_s rfl rfl (op_stwa rfl tb81 (ev1 rfl) (ev1 rfl) rfl rfl rfl rfl) (by simp only [upd, zaa, za]; exact rfl) ?_
  refine zae ?_
  refine zaf ?_
  refine zaf ?_
  refine zac ?_
  refine zab rfl rfl rfl (op_ldw rfl tb81 (ev1 rfl) rfl rfl) ?_
  refine zab rfl rfl rfl (zai [] [] [] rfl (ev1 rfl) (ec (ev1 rfl) en) rfl rfl (smay_d _ _) rfl rfl rfl rfl rfl rfl) ?_
  refine zab rfl rfl rfl (op_not rfl (ev1 rfl)) ?_
  refine zae ?_
  refine dwp_if_f rfl (by rw [hm]; rfl) ?_
  refine zal ?_
  refine zaf ?_
  refine zah 1 (by simp only [holes, List.cons_append, List.nil_append]; exact rfl) ?_
  refine zac ?_
  refine zab rfl rfl rfl (op_ldw rfl tb81 (ev1 rfl) rfl rfl) ?_
  refine zab rfl rfl rfl (op_build (ps := [(0, .tmp 15)]) rfl fl84 zr84 (vc (ev1 rfl) vn) rfl rfl) ?_
  refine zaj rfl rfl rfl (op_boxa 1 rfl (ev1 rfl) rfl) (by simp only [upd, zaa, za]; exact rfl) ?_
  refine zab rfl rfl rfl (zad (.inr rfl) (ev1 rfl)) ?_
  refine zae ?_
  refine zaf ?_
  refine zaf ?_
  refine dwp_reb 1 reb_mix rfl rfl (by simp only [List.cons_append, List.nil_append, zaa, za, List.map]; exact rfl) ?_
  refine dwp_adoptc (l' := [.val (.int .i64 w), .val (.int .i64 h), .arr 2]) 1 2 108 1 rfl rfl rfl rfl (by simp only [List.cons_append, List.nil_append, zaa, za]; exact rfl) ?_
  refine zac ?_
  refine zab rfl rfl rfl (zad (.inl rfl) (ev1 rfl)) ?_
  refine zab rfl rfl rfl (zad (.inl rfl) (ev1 rfl)) ?_
  refine zab rfl rfl rfl (op_mul' rfl (ev1 rfl) (ev1 rfl) (fun _ => IntWalk.i64_in _ (by omega))) ?_
  refine zab rfl rfl rfl (zad (.inl rfl) (ev1 rfl)) ?_
  refine zae ?_
  refine zak ?_
  refine dwp_loopS ⟨hs0, rfl⟩ (α := List Nat) (fun A => [(21, .val (.int .i64 (A.length : Int)))]) [(7, _), (20, _)] (fun A => [(2, .arx 108 1 A.length (pinsR A (List.replicate A.length (nT zC4))))]) [_, _, .hole] (fun A => A.length ≤ n ∧ ∀ b ∈ A, ¬ s0.I b) (fun A => n - A.length) [] [0, 1, 2] (⟨Nat.zero_le _, fun b hb => by simp at hb⟩) rfl ⟨rfl, rfl, trivial⟩ ⟨rfl, trivial⟩ ⟨rfl, rfl, rfl, trivial⟩ ?_
  intro A hx
  simp only [upd, zaa, za, List.cons_append, List.nil_append]
  obtain ⟨hA, hAI⟩ := hx
  refine zaf ?_
  refine zac ?_
  refine zab rfl rfl rfl (op_lss rfl (ev1 rfl) (ev1 rfl)) ?_
  refine zae ?_
  refine zaf ?_
  refine dwp_cond rfl (fun c2 => ?_) (fun c2 => ?_)
  · try simp only [decide_eq_true_eq, decide_eq_false_iff_not, beq_iff_eq, bne_iff_ne, beq_eq_false_iff_ne, bne_eq_false_iff_eq, Bool.not_eq_true', Bool.not_eq_false', Bool.and_eq_true, Bool.or_eq_true, Bool.or_eq_false_iff, ne_eq, Decidable.not_not, Int.not_lt, Int.not_le] at c2
    refine zal ?_
    refine zaf ?_
    refine zak ?_
    refine zaf ?_
    refine zah 1 (by simp only [holes, List.cons_append, List.nil_append]; exact rfl) ?_
    refine zac ?_
    refine zab rfl rfl rfl (op_build0 rfl fl44 zr44) ?_
    refine zab rfl rfl rfl (zai [] [] [] rfl (ev1 rfl) (ec (ev1 rfl) en) rfl rfl (new_d zC4) rfl rfl rfl rfl rfl rfl) ?_
    refine zaj rfl rfl rfl (op_alloc 3 rfl zr72 rfl) (by simp only [upd, zaa, za]; exact rfl) ?_
    refine walk_s rfl rfl (op_stwa rfl tb72 (ev1 rfl) (ev1 rfl) rfl (tc_len _) (tc_oc _) ((tc_len _).trans (tc_len _).symm)) (by simp only [upd, zaa, za]; exact rfl) ?_
    refine zae ?_
    refine dwp_pin 8 rfl rfl (by simp only [zaa, za]; exact rfl) fun b hb => ?_
    refine zah 1 (by simp only [holes, List.cons_append, List.nil_append]; exact rfl) ?_
    refine zac ?_
    refine zab rfl rfl rfl (zad (.inl rfl) (ev1 rfl)) ?_
    refine zab rfl rfl rfl (zad (.inl rfl) (ev1 rfl)) ?_
    refine zab rfl rfl rfl (op_nc rfl (ev1 rfl) (fun s v h => by cases h; exact ⟨_, rfl⟩)) ?_
    refine zab rfl rfl rfl (op_fa rfl fo84_1 (ev1 rfl)) ?_
    refine zab rfl rfl rfl (op_ldm rfl tb82 (ev1 rfl) rfl rfl) ?_
    refine zab rfl rfl rfl (op_bsr (ps := [(0, .tmp 8)]) rfl sl82 zr108 rfl (ec (ev1 rfl) en) rfl rfl rfl (by rfl) rfl (by decide) (by decide)) ?_
    refine zaj rfl rfl rfl (op_appr (j := 4) rfl sl82 zr108 rfl (ev1 rfl) (ev1 rfl) rfl rfl (rfl) (fun _ => ⟨by omega, by omega⟩)) (by simp only [upd, zaa, za]; exact rfl) ?_
    refine zab rfl rfl rfl (op_nc rfl (ev1 rfl) (fun s v h => by cases h; exact ⟨_, rfl⟩)) ?_
    refine zab rfl rfl rfl (op_fa rfl fo84_1 (ev1 rfl)) ?_
    refine walk_s rfl rfl (op_stm rfl tb82 (ev1 rfl) (ev1 rfl) (fun s v h => by cases h <;> exact ⟨rfl, rfl⟩) rfl (by first | decide | exact Nat.le_of_ble_eq_true rfl | simp)) (by simp only [upd, zaa, za]; exact rfl) ?_
    refine zae ?_
    refine zac ?_
    refine zab rfl rfl rfl (op_add' rfl (ev1 rfl) (ev1 rfl) (fun _ => IntWalk.i64_in _ (by omega))) ?_
    refine zab rfl rfl rfl (zad (.inl rfl) (ev1 rfl)) ?_
    refine zae ?_
    refine ⟨A ++ [b], [0, 1, 4], ⟨by simp; omega, fun c hc => by
    rcases List.mem_append.1 hc with hc | hc
    · exact hAI c hc
    · simp at hc; subst hc; exact hb⟩, by simp; omega, rfl, ⟨by rw [List.length_append]; rfl, rfl, rfl, trivial⟩, ⟨rfl, rfl, arxn_fits (by rw [pinsR_rep]; exact (pinsR_ok (by simp)).nl) (by simp) (pinsR_rep _ _ _), trivial⟩⟩
  · try simp only [decide_eq_true_eq, decide_eq_false_iff_not, beq_iff_eq, bne_iff_ne, beq_eq_false_iff_ne, bne_eq_false_iff_eq, Bool.not_eq_true', Bool.not_eq_false', Bool.and_eq_true, Bool.or_eq_true, Bool.or_eq_false_iff, ne_eq, Decidable.not_not, Int.not_lt, Int.not_le] at c2
    refine dwp_exit ?_
    refine zaf ?_
    refine zac ?_
    refine zab rfl rfl rfl (zad (.inl rfl) (ev1 rfl)) ?_
    refine zab rfl rfl rfl (zad (.inr rfl) (ev1 rfl)) ?_
    refine zab rfl rfl rfl (zad (.inr rfl) (ev1 rfl)) ?_
    refine zae ?_
    refine dwp_givem 1 2 ((pinsR_ok (by simp)).nl) rfl rfl rfl (by simp only [zaa, za]; exact rfl) ?_
    refine dwp_ret ?_
    refine kendI (post := fun I => Okd (NewCv I w h (List.replicate n (nT zC4)))) (I := s0.I) (Mo := []) [] (rs2 rfl (rv_t rfl) (rv_t rfl)) rfl rfl ?_ trivial
    obtain rfl : A.length = n := by omega
    exact ⟨_, ⟨A, by simp, hAI, rfl⟩, by rw [cvD, pinsR_len (by simp), List.length_replicate]; rfl⟩
set_option maxRecDepth 4000 in
set_option maxHeartbeats 1000000 in
theorem of1_d (t : TL) : DFun Tryz.prog 55 [tD t] [] (.loc 0 0) [.flat 72 (tc t)] := by
  refine zan (N := 3) 0 (by kernel_rfl) Tryz.func55 rfl rfl rfl (by simp only [fr0, Nat.zero_add, Nat.reduceAdd]; exact rfl) rfl fun s0 hs0 => ?_
  refine zaf ?_
  refine zah 1 (by simp only [holes, List.cons_append, List.nil_append]; exact rfl) ?_
  refine zac ?_
  refine zaj rfl rfl rfl (op_boxa 0 rfl (ev1 rfl) rfl) (by simp only [upd, zaa, za]; exact rfl) ?_
  refine zab rfl rfl rfl (zad (.inr rfl) (ev1 rfl)) ?_
  refine zae ?_
  refine zaf ?_
  refine zac ?_
  refine zab rfl rfl rfl (zad (.inr rfl) (ev1 rfl)) ?_
  refine zae ?_
  refine dwp_ret ?_
  refine kend [0] (rs1 rfl (rv_t rfl)) rfl rfl ?_ ⟨rfl, trivial⟩
  rfl
abbrev tlM (l : List TL) : List Mem := l.map fun t => .flat 72 (tc t)
abbrev ptN (f n : Nat) : List D := (List.range n).map fun k => .floc f k 0
theorem ptN_fits {σ : List Nat} {V : Nat → Bool} {M : List Blk} {T : TypeId} {f g n : Nat} {l l' : List D} (hl : l = ptN f n) (hl' : l' = ptN g n) (hp : pos σ f = some g) : (vwL σ V M l).map (Blk.arx T 1 n) = some (Blk.arx T 1 n l') := by
  subst hl hl'
  have h : ∀ r : List Nat, vwL σ V M (r.map fun k => D.floc f k 0) = some (r.map fun k => D.floc g k 0) := fun r => by
    induction r with
    | nil => rfl
    | cons a r ih =>
      rw [List.map_cons, vwL, ih]
      have : vw σ V M (.floc f a 0) = some (.floc g a 0) := by unfold vw; rw [hp]
      rw [this]; rfl
  rw [h]; rfl
theorem sb_ptN {τ : List Nat} {T : TypeId} {f g n m : Nat} (hp : τ[f]? = some g) : sbB τ (.arx T 1 m (ptN f n)) = some (.arx T 1 m (ptN g n)) := by
  have h : ∀ r : List Nat, sbL τ (r.map fun k => D.floc f k 0) = some (r.map fun k => D.floc g k 0) := fun r => by
    induction r with
    | nil => rfl
    | cons a r ih =>
      rw [List.map_cons, sbL, ih]
      have : sb τ (.floc f a 0) = some (.floc g a 0) := by unfold sb; rw [hp]; rfl
      rw [this]; rfl
  show (sbL τ _).map _ = _
  rw [h]; rfl
theorem ptN_add (f n : Nat) : ptN f n ++ [.floc f n 0] = ptN f (n + 1) := by rw [ptN, ptN, List.range_succ, List.map_append]; rfl
theorem tlM_add {ts : List TL} {k : Nat} (h : k < ts.length) : tlM (ts.take k) ++ [.flat 72 (tc ts[k])] = tlM (ts.take (k + 1)) := by
  rw [List.take_succ_eq_append_getElem h, tlM, tlM, List.map_append]; rfl
theorem tlM_flat {l : List TL} : ∀ (k : Nat) B, (tlM l)[k]? = some B → ∃ T L, B = Mem.flat T L := fun k B h => by
  rw [List.getElem?_map] at h
  cases e : l[k]? with
  | none => rw [e] at h; cases h
  | some t => rw [e] at h; cases h; exact ⟨_, _, rfl⟩
theorem ptN_frz (f : Nat) (ad : Nat → Nat) (l : List TL) : (ptN f l.length).map (frz f ad (tlM l)) = pinsR ((List.range l.length).map ad) l := by
  apply List.ext_getElem?
  intro q
  unfold pinsR
  rw [List.getElem?_map, List.getElem?_map, List.getElem?_map]
  by_cases hq : q < l.length
  · have e2 : ((List.range l.length).map ad).zip l = (List.range l.length).zipWith (fun k t => (ad k, t)) l := by rw [List.zip, List.zipWith_map_left]
    rw [e2, List.getElem?_zipWith, List.getElem?_range hq, List.getElem?_eq_getElem hq]
    simp only [Option.map_some, frz, if_pos, List.getElem?_map, List.getElem?_eq_getElem hq]
  · rw [List.getElem?_eq_none (by simpa using hq), List.getElem?_eq_none (by simp; omega)]; rfl
set_option maxRecDepth 4000 in
set_option maxHeartbeats 1000000 in
theorem each1_d (ts : List TL) (hn : ts.length ≤ 5000) : DFun Tryz.prog 54 [.slf 256 ts.length (ts.flatMap tc), .fn (.func 55) [] []] [] (.arr 0) [.arx 108 1 ts.length (ptN 1 ts.length), .fam (tlM ts)] := by
  refine zan (N := 25) 0 (by kernel_rfl) Tryz.func54 rfl rfl rfl (by simp only [fr0, Nat.zero_add, Nat.reduceAdd]; exact rfl) rfl fun s0 hs0 => ?_
  refine dwp_len (t := 0) rfl fun hl0 hL0 => ?_
  refine zaf ?_
  refine zac ?_
  refine zab rfl rfl rfl (zad (.inr rfl) (ev1 rfl)) ?_
  refine zae ?_
  refine zaf ?_
  refine zah 1 (by simp only [holes, List.cons_append, List.nil_append]; exact rfl) ?_
  refine zac ?_
  refine zab rfl rfl rfl (zad (.inl rfl) (ev1 rfl)) ?_
  refine zab rfl rfl rfl (op_len rfl sl22 (ev1 rfl)) ?_
  refine zaj rfl rfl rfl (op_mk0x 0 (ts.length) rfl sl82 zr108 (ev1 rfl) (ev1 rfl) (fun _ => rfl) (fun _ => by omega) rfl (fun _ => ⟨by omega, by omega⟩)) (by simp only [upd, zaa, za]; exact rfl) ?_
  refine zab rfl rfl rfl (zad (.inr rfl) (ev1 rfl)) ?_
  refine zae ?_
  refine zaf ?_
  refine zaf ?_
  refine dwp_hole ?_
  refine dwp_fam 1 rfl (by simp only [List.cons_append, List.nil_append, zaa, za]; exact rfl) ?_
  refine zac ?_
  refine zab rfl rfl rfl (zad (.inl rfl) (ev1 rfl)) ?_
  refine zab rfl rfl rfl (op_len rfl sl22 (ev1 rfl)) ?_
  refine zab rfl rfl rfl (zad (.inl rfl) (ev1 rfl)) ?_
  refine zae ?_
  refine zak ?_
  refine dwp_loopS ⟨hs0, rfl⟩ (α := Nat) (fun k => [(13, .val (.int .i64 (k : Int)))]) [(1, _), (5, _), (11, _), (12, _)] (fun k => [(0, .arx 108 1 k (ptN 1 k)), (1, .fam (tlM (ts.take k)))]) [.hole, .hole] (fun k => k ≤ ts.length) (fun k => ts.length - k) 0 [0, 1] (Nat.zero_le _) rfl ⟨rfl, rfl, rfl, rfl, trivial⟩ ⟨rfl, trivial⟩ ⟨rfl, rfl, trivial⟩ ?_
  intro k hx
  simp only [upd, zaa, za, List.cons_append, List.nil_append]
  have hk := hx
  have htl : (tlM (ts.take k)).length = k := by simp; omega
  refine zaf ?_
  refine zac ?_
  refine zab rfl rfl rfl (op_lss rfl (ev1 rfl) (ev1 rfl)) ?_
  refine zae ?_
  refine zaf ?_
  refine dwp_cond rfl (fun c1 => ?_) (fun c1 => ?_)
  · try simp only [decide_eq_true_eq, decide_eq_false_iff_not, beq_iff_eq, bne_iff_ne, beq_eq_false_iff_ne, bne_eq_false_iff_eq, Bool.not_eq_true', Bool.not_eq_false', Bool.and_eq_true, Bool.or_eq_true, Bool.or_eq_false_iff, ne_eq, Decidable.not_not, Int.not_lt, Int.not_le] at c1
    refine zal ?_
    refine zaf ?_
    refine zak ?_
    refine zaf ?_
    refine zah 1 (by simp only [holes, List.cons_append, List.nil_append]; exact rfl) ?_
    refine zac ?_
    refine zab rfl rfl rfl (op_ixsr (j := k) rfl sl22 (ev1 rfl) (ev1 rfl) tc_len (by decide) (by omega) (by omega)) ?_
    refine zab rfl rfl rfl (op_ldwd rfl tb72 (ev1 rfl) (tc_len _)) ?_
    refine zaj rfl rfl rfl (op_alloc 2 rfl zr72 rfl) (by simp only [upd, zaa, za]; exact rfl) ?_
    refine walk_s rfl rfl (op_stwa rfl tb72 (ev1 rfl) (ev1 rfl) rfl (tc_len _) (tc_oc _) ((tc_len _).trans (tc_len _).symm)) (by simp only [upd, zaa, za]; exact rfl) ?_
    refine zae ?_
    refine zah 3 (by simp only [holes, List.cons_append, List.nil_append]; exact rfl) ?_
    refine zac ?_
    refine zab rfl rfl rfl (zad (.inl rfl) (ev1 rfl)) ?_
    refine zab rfl rfl rfl (zad (.inl rfl) (ev1 rfl)) ?_
    refine zab rfl rfl rfl (op_ldw rfl tb72 (ev1 rfl) rfl (tc_len _)) ?_
    refine zaj rfl rfl rfl (zai [] [] [3] rfl (ev1 rfl) (ec (ev1 rfl) en) rfl rfl (of1_d ts[k]) rfl rfl rfl rfl rfl rfl) (by simp only [upd, zaa, za]; exact rfl) ?_
    refine walk_absl 20 1 rfl rfl rfl (by simp only [zaa, za]; exact rfl) ?_
    refine zaj rfl rfl rfl (op_bsx (ps := [(0, .tmp 20)]) 4 (fun s d v hd hr => by simp only [List.mem_cons, List.not_mem_nil, or_false] at hd; subst hd <;> first | exact rep_own_cells hr | (cases hr <;> rfl)) rfl sl82 zr108 rfl (ec (ev1 rfl) en) (by decide) rfl) (by simp only [upd, zaa, za]; exact rfl) ?_
    refine zaj rfl rfl rfl (op_appxx (j := 5) rfl sl82 zr108 rfl (ev1 rfl) (ev1 rfl) rfl rfl rfl rfl (fun _ => ⟨by omega, by omega⟩)) (by simp only [upd, zaa, za]; exact rfl) ?_
    refine zab rfl rfl rfl (zad (.inr rfl) (ev1 rfl)) ?_
    refine zae ?_
    refine zac ?_
    refine zab rfl rfl rfl (op_add' rfl (ev1 rfl) (ev1 rfl) (fun _ => IntWalk.i64_in _ (by omega))) ?_
    refine zab rfl rfl rfl (zad (.inl rfl) (ev1 rfl)) ?_
    refine zae ?_
    refine ⟨k + 1, [5, 1], by omega, by simp only []; omega, rfl, ⟨rfl, rfl, rfl, rfl, rfl, trivial⟩, ⟨ptN_fits (by rw [htl]; exact ptN_add 1 k) rfl rfl, by rw [← tlM_add (by omega)]; rfl, trivial⟩⟩
  · try simp only [decide_eq_true_eq, decide_eq_false_iff_not, beq_iff_eq, bne_iff_ne, beq_eq_false_iff_ne, bne_eq_false_iff_eq, Bool.not_eq_true', Bool.not_eq_false', Bool.and_eq_true, Bool.or_eq_true, Bool.or_eq_false_iff, ne_eq, Decidable.not_not, Int.not_lt, Int.not_le] at c1
    refine dwp_exit ?_
    refine zaf ?_
    refine zac ?_
    refine zab rfl rfl rfl (zad (.inl rfl) (ev1 rfl)) ?_
    refine zab rfl rfl rfl (zad (.inr rfl) (ev1 rfl)) ?_
    refine zae ?_
    refine dwp_ret ?_
    obtain rfl : k = ts.length := by omega
    refine kend [0, 1] (rs1 rfl (rv_t rfl)) rfl rfl ?_ ⟨?_, ?_, trivial⟩
    rfl
    exact ptN_fits rfl rfl rfl
    exact (by rw [List.take_length]; rfl)
set_option maxRecDepth 4000 in
set_option maxHeartbeats 1000000 in
theorem of_0 (w h : Int) (ts : List TL) (hr : rightB w h ts = false) : DFun Tryz.prog 25 [shD w h ts] [] (.tup [.val (.pointer none), .val (.int .i64 150)]) [] := by
  refine zan (N := 20) 0 (by kernel_rfl) Tryz.func25 rfl rfl rfl (by simp only [fr0, Nat.zero_add, Nat.reduceAdd]; exact rfl) rfl fun s0 hs0 => ?_
  refine zaf ?_
  refine zah 1 (by simp only [holes, List.cons_append, List.nil_append]; exact rfl) ?_
  refine zac ?_
  refine zaj rfl rfl rfl (op_boxam 0 rfl (ev1 rfl) rfl) (by simp only [upd, zaa, za]; exact rfl) ?_
  refine zab rfl rfl rfl (zad (.inr rfl) (ev1 rfl)) ?_
  refine zab rfl rfl rfl (zad (.inr rfl) (ev1 rfl)) ?_
  refine zae ?_
  refine zaf ?_
  refine zaf ?_
  refine zac ?_
  refine zab rfl rfl rfl (op_ldmw rfl tb24 (ev1 rfl) rfl rfl) ?_
  refine zab rfl rfl rfl (zai [] [] [] rfl (ev1 rfl) (ec (ev1 rfl) en) rfl rfl (ccheck_d _ _ _) rfl rfl rfl rfl rfl rfl) ?_
  refine zab rfl rfl rfl (zad (.inr rfl) (ev1 rfl)) ?_
  refine zae ?_
  refine zaf ?_
  refine zac ?_
  refine zab rfl rfl rfl (zad (.inl rfl) (ev1 rfl)) ?_
  refine zab rfl rfl rfl (op_neq rfl (ev1 rfl) (ev1 rfl)) ?_
  refine zae ?_
  refine dwp_if_t rfl (by rw [hr]; rfl) ?_
  refine zaf ?_
  refine zac ?_
  refine zab rfl rfl rfl (zad (.inl rfl) (ev1 rfl)) ?_
  refine zab rfl rfl rfl (zad (.inr rfl) (ev1 rfl)) ?_
  refine zab rfl rfl rfl (zad (.inr rfl) (ev1 rfl)) ?_
  refine zae ?_
  refine dwp_ret ?_
  refine kend0 (rs2 rfl (rv_t rfl) (rv_t rfl)) rfl ?_
  rw [hr]; rfl
set_option maxRecDepth 4000 in
set_option maxHeartbeats 1000000 in
theorem of_i (w h : Int) (ts : List TL) (hc : CvOk w h ts) : DFunI Tryz.prog 25 [shD w h ts] [] (fun I => Okd (NewCv I w h ts)) [] := by
  have hr := hc.right
  have hle := hc.le
  refine dcallsI_go (N := 20) 0 (by kernel_rfl) Tryz.func25 rfl rfl rfl (by simp only [fr0, Nat.zero_add, Nat.reduceAdd]; exact rfl) rfl fun s0 hs0 => ?_
  refine zaf ?_
  refine zah 1 (by simp only [holes, List.cons_append, List.nil_append]; exact rfl) ?_
  refine zac ?_
  refine zaj rfl rfl rfl (op_boxam 0 rfl (ev1 rfl) rfl) (by simp only [upd, zaa, za]; exact rfl) ?_
  refine zab rfl rfl rfl (zad (.inr rfl) (ev1 rfl)) ?_
  refine zab rfl rfl rfl (zad (.inr rfl) (ev1 rfl)) ?_
  refine zae ?_
  refine zaf ?_
  refine zaf ?_
  refine zac ?_
  refine zab rfl rfl rfl (op_ldmw rfl tb24 (ev1 rfl) rfl rfl) ?_
  refine zab rfl rfl rfl (zai [] [] [] rfl (ev1 rfl) (ec (ev1 rfl) en) rfl rfl (ccheck_d _ _ _) rfl rfl rfl rfl rfl rfl) ?_
  refine zab rfl rfl rfl (zad (.inr rfl) (ev1 rfl)) ?_
  refine zae ?_
  refine zaf ?_
  refine zac ?_
  refine zab rfl rfl rfl (zad (.inl rfl) (ev1 rfl)) ?_
  refine zab rfl rfl rfl (op_neq rfl (ev1 rfl) (ev1 rfl)) ?_
  refine zae ?_
  refine dwp_if_f rfl (by rw [hr]; rfl) ?_
  refine zal ?_
  refine zaf ?_
  refine zah 3 (by simp only [holes, List.cons_append, List.nil_append]; exact rfl) ?_
  refine dwp_draw [([], []), ([0], []), ([], []), ([0], []), ([], []), ([], []), ([0], []), ([1, 2], [1, 2]), ([], []), ([3], [3]), ([], []), ([], [])] mixed (by kernel_rfl) ?_
  refine zag rfl rfl (op_fa rfl fo24_0 (ev1 rfl)) ?_
  refine zag rfl rfl (op_ldm rfl tb3 (ev1 rfl) rfl rfl) ?_
  refine zag rfl rfl (op_fa rfl fo24_1 (ev1 rfl)) ?_
  refine zag rfl rfl (op_ldm rfl tb3 (ev1 rfl) rfl rfl) ?_
  refine zag rfl rfl (op_build (ps := [(0, .tmp 11), (1, .tmp 13)]) rfl fl81 zr81 (vc (ev1 rfl) (vc (ev1 rfl) vn)) rfl rfl) ?_
  refine zag rfl rfl (op_fa rfl fo24_2 (ev1 rfl)) ?_
  refine zag rfl rfl (op_ldm rfl tb22 (ev1 rfl) rfl rfl) ?_
  refine lex_w rfl rfl (zai [] [] [1, 2] rfl (ev1 rfl) (ec (ev1 rfl) (ec (ev1 rfl) en)) rfl rfl (each1_d ts (by omega)) rfl rfl rfl (by exact (wrc (sb_ptN rfl) (wrc rfl rfl))) rfl rfl) rfl (by simp only [upd, zaa, za]; exact rfl) ?_
  refine zag rfl rfl (op_bldD (ps := [(0, .tmp 14), (1, .tmp 17)]) rfl fl84 zr84 (ec (ev1 rfl) (ec (ev1 rfl) en)) rfl rfl rfl) ?_
  refine lex_w rfl rfl (op_boxam 3 rfl (ev1 rfl) rfl) rfl (by simp only [upd, zaa, za]; exact rfl) ?_
  refine zag rfl rfl (zad (.inr rfl) (ev1 rfl)) ?_
  refine zag rfl rfl (zad (.inr rfl) (ev1 rfl)) ?_
  refine lex_nil ?_
  refine dwp_frz 2 1 rfl rfl (tlM_flat) fun ad had => ?_
  simp only [zaa, za]
  refine dwp_givem 3 2 ((by rw [ptN_frz]; exact (pinsR_ok (by simp)).nl)) rfl rfl rfl (by simp only [zaa, za]; exact rfl) ?_
  refine dwp_ret ?_
  refine kendI (post := fun I => Okd (NewCv I w h ts)) (I := s0.I) (Mo := []) [] (rs2 rfl (rv_t rfl) (rv_t rfl)) rfl rfl ?_ trivial
  rw [ptN_frz]
  exact ⟨_, ⟨(List.range ts.length).map ad, by simp, fun b hb => by
      obtain ⟨k, hk, rfl⟩ := List.mem_map.1 hb
      exact had k (by simpa using hk), rfl⟩, by rw [cvD, pinsR_len (by simp)]; rfl⟩
end Go.Proofs.YtfnhckildfbikaaGreat
namespace Go.Proofs.YtfnhckildfbikaaGreat
set_option maxRecDepth 4000
set_option linter.unusedVariables false
set_option linter.unusedSimpArgs false
open Go.RowKit
theorem fo131_0 : fdO Tryz.prog 131 0 = some 0 := by kernel_rfl
theorem fo131_1 : fdO Tryz.prog 131 1 = some 1 := by kernel_rfl
theorem fo131_2 : fdO Tryz.prog 131 2 = some 2 := by kernel_rfl
theorem fo151_0 : fdO Tryz.prog 151 0 = some 0 := by kernel_rfl
theorem fo151_1 : fdO Tryz.prog 151 1 = some 2 := by kernel_rfl
theorem fo151_2 : fdO Tryz.prog 151 2 = some 3 := by kernel_rfl
theorem fo151_3 : fdO Tryz.prog 151 3 = some 4 := by kernel_rfl
theorem it3 : intT Tryz.prog 3 = some .i64 := by kernel_rfl
theorem mp149 : mpT Tryz.prog 149 = some (3, 108) := by kernel_rfl
theorem pt108 : ptT Tryz.prog 108 = some 72 := by kernel_rfl
theorem tb149 : tyB Tryz.prog 149 = some (false, 1) := by kernel_rfl
theorem tb91 : tyB Tryz.prog 91 = some (false, 1) := by kernel_rfl
theorem zv108 : zrV Tryz.prog 108 = some (.pointer none) := by kernel_rfl
def dotS (w h : Int) (ts : List TL) (s : List Nat × List TL) (d : Dt) : List Nat × List TL :=
  if onS w h d.x d.y = true then
    (if plN w d.x d.y ∈ s.1 then (s.1, s.2.set (s.1.idxOf (plN w d.x d.y)) ((s.2.getD (s.1.idxOf (plN w d.x d.y)) zT).set (pxN d.x d.y) d.c))
    else (s.1 ++ [plN w d.x d.y], s.2 ++ [(ts.getD (plN w d.x d.y) zT).set (pxN d.x d.y) d.c]))
  else s
theorem dotS_off {w h : Int} {ts : List TL} {s : List Nat × List TL} {d : Dt} (ho : onS w h d.x d.y = false) : dotS w h ts s d = s := by unfold dotS; rw [if_neg (by rw [ho]; decide)]
theorem dotS_in {w h : Int} {ts : List TL} {s : List Nat × List TL} {d : Dt} (ho : onS w h d.x d.y = true) (hi : plN w d.x d.y ∈ s.1) : dotS w h ts s d = (s.1, s.2.set (s.1.idxOf (plN w d.x d.y)) ((s.2.getD (s.1.idxOf (plN w d.x d.y)) zT).set (pxN d.x d.y) d.c)) := by unfold dotS; rw [if_pos ho, if_pos hi]
theorem dotS_new {w h : Int} {ts : List TL} {s : List Nat × List TL} {d : Dt} (ho : onS w h d.x d.y = true) (hi : plN w d.x d.y ∉ s.1) : dotS w h ts s d = (s.1 ++ [plN w d.x d.y], s.2 ++ [(ts.getD (plN w d.x d.y) zT).set (pxN d.x d.y) d.c]) := by unfold dotS; rw [if_pos ho, if_neg hi]
structure DotOk (ts us : List TL) (s : List Nat × List TL) : Prop where
  len : s.2.length = s.1.length
  nd : s.1.Nodup
  lt : ∀ p ∈ s.1, p < ts.length
  ul : us.length = ts.length
  val : ∀ (i p : Nat), s.1[i]? = some p → s.2[i]? = us[p]?
  oth : ∀ (p : Nat), p ∉ s.1 → us[p]? = ts[p]?
theorem dotOk_nil (ts : List TL) : DotOk ts ts ([], []) := ⟨rfl, List.nodup_nil, fun p hp => by simp at hp, rfl, fun i p h => by simp at h, fun p _ => rfl⟩
theorem idx_at {ks : List Nat} {p : Nat} (h : p ∈ ks) : ks[ks.idxOf p]? = some p ∧ ks.idxOf p < ks.length := by
  have h1 := List.idxOf_lt_length_of_mem h
  exact ⟨by rw [List.getElem?_eq_getElem h1, List.getElem_idxOf h1], h1⟩
theorem idx_of {ks : List Nat} (hn : ks.Nodup) {i p : Nat} (h : ks[i]? = some p) : ks.idxOf p = i := by
  have hm : p ∈ ks := List.mem_of_getElem? h
  obtain ⟨h1, h2⟩ := idx_at hm
  have hi := (List.getElem?_eq_some_iff.1 h).1
  exact ((List.getElem?_inj h2 hn).1 (h1.trans h.symm))
theorem DotOk.step {w h : Int} {ts us : List TL} {s : List Nat × List TL} (hc : CvOk w h ts) (hs : DotOk ts us s) (d : Dt) : DotOk ts (putC w h us d) (dotS w h ts s d) := by
  obtain ⟨ks, es⟩ := s
  obtain ⟨h1, h2, h3, h4, h5, h6⟩ := hs
  dsimp only at h1 h2 h3 h4 h5 h6
  cases ho : onS w h d.x d.y with
  | false =>
    rw [dotS_off ho, show putC w h us d = us by rw [putC, if_neg (by rw [ho]; decide)]]
    exact ⟨h1, h2, h3, h4, h5, h6⟩
  | true =>
    have hp := hc.pl ho
    rw [show putC w h us d = us.set (plN w d.x d.y) ((us.getD (plN w d.x d.y) zT).set (pxN d.x d.y) d.c) by rw [putC, if_pos ho]]
    by_cases hi : plN w d.x d.y ∈ ks
    · rw [dotS_in ho hi]
      dsimp only
      generalize plN w d.x d.y = p at hp hi ⊢
      obtain ⟨g1, g2⟩ := idx_at hi
      have e : es.getD (ks.idxOf p) zT = us.getD p zT := by rw [List.getD_eq_getElem?_getD, List.getD_eq_getElem?_getD, h5 _ p g1]
      rw [e]
      refine ⟨by simp [h1], h2, h3, by simp [h4], fun j r hj => ?_, fun r hr => ?_⟩
      · by_cases ej : ks.idxOf p = j
        · subst ej
          rw [g1] at hj
          cases hj
          rw [List.getElem?_set_self (by omega), List.getElem?_set_self (by omega)]
        · have er : p ≠ r := fun er => ej (by subst er; exact idx_of h2 hj)
          rw [List.getElem?_set_ne ej, List.getElem?_set_ne er]
          exact h5 j r hj
      · have er : p ≠ r := fun er => hr (by subst er; exact hi)
        rw [List.getElem?_set_ne er]
        exact h6 r hr
    · rw [dotS_new ho hi]
      dsimp only
      generalize plN w d.x d.y = p at hp hi ⊢
      have e : us.getD p zT = ts.getD p zT := by rw [List.getD_eq_getElem?_getD, List.getD_eq_getElem?_getD, h6 p hi]
      rw [e]
      refine ⟨by simp [h1], ?_, fun r hr => ?_, by simp [h4], fun j r hj => ?_, fun r hr => ?_⟩
      · rw [List.nodup_append]
        exact ⟨h2, by simp, fun a ha b hb => by simp at hb; subst hb; exact fun e => hi (e ▸ ha)⟩
      · rcases List.mem_append.1 hr with hr | hr
        · exact h3 r hr
        · simp at hr; subst hr; exact hp
      · by_cases hj2 : j < ks.length
        · rw [List.getElem?_append_left hj2] at hj
          rw [List.getElem?_append_left (by omega)]
          have er : p ≠ r := fun er => hi (by subst er; exact List.mem_of_getElem? hj)
          rw [List.getElem?_set_ne er]
          exact h5 j r hj
        · rw [List.getElem?_append_right (by omega)] at hj
          have hj3 : j - ks.length = 0 := by have := (List.getElem?_eq_some_iff.1 hj).1; simp at this; omega
          rw [hj3] at hj
          simp at hj
          subst hj
          rw [List.getElem?_append_right (by omega), h1, hj3, List.getElem?_set_self (by omega)]
          rfl
      · have er : p ≠ r := fun er => hr (by subst er; simp)
        rw [List.getElem?_set_ne er]
        exact h6 r fun hr2 => hr (by simp [hr2])
def dotsS (w h : Int) (ts : List TL) (l : List Dt) : List Nat × List TL := l.foldl (dotS w h ts) ([], [])
theorem dotsS_take {w h : Int} {ts : List TL} {l : List Dt} {k : Nat} (hk : k < l.length) : dotsS w h ts (l.take (k + 1)) = dotS w h ts (dotsS w h ts (l.take k)) l[k] := by
  rw [List.take_succ_eq_append_getElem hk, dotsS, List.foldl_append]; rfl
theorem dotsS_ok {w h : Int} {ts : List TL} (hc : CvOk w h ts) : ∀ (l : List Dt) (us : List TL) (s : List Nat × List TL), DotOk ts us s → DotOk ts (putsC w h us l) (l.foldl (dotS w h ts) s)
  | [], us, s, hs => hs
  | d :: l, us, s, hs => dotsS_ok hc l _ _ (hs.step hc d)
def rowS (f : Nat) (ts es : List TL) (ds : List D) (ks seen : List Nat) : List D := (List.range ds.length).map fun q => if q ∈ ks ∧ ks.idxOf q ∈ seen ∧ es[ks.idxOf q]? ≠ ts[q]? then .floc f (ks.idxOf q) 0 else ds.getD q .junk
theorem rowS_len (f : Nat) (ts es : List TL) (ds : List D) (ks seen : List Nat) : (rowS f ts es ds ks seen).length = ds.length := by simp [rowS]
theorem rowS_get {f : Nat} {ts es : List TL} {ds : List D} {ks seen : List Nat} {q : Nat} (hq : q < ds.length) : (rowS f ts es ds ks seen)[q]? = some (if q ∈ ks ∧ ks.idxOf q ∈ seen ∧ es[ks.idxOf q]? ≠ ts[q]? then .floc f (ks.idxOf q) 0 else ds.getD q .junk) := by
  unfold rowS
  rw [List.getElem?_map, List.getElem?_range hq]; rfl
theorem dsD {ds : List D} {q : Nat} (hq : q < ds.length) : ds[q]? = some (ds.getD q .junk) := by rw [List.getD_eq_getElem?_getD, List.getElem?_eq_getElem hq]; rfl
theorem rowS_nil (f : Nat) (ts es : List TL) (ds : List D) (ks : List Nat) : rowS f ts es ds ks [] = ds := by
  apply List.ext_getElem?
  intro q
  by_cases hq : q < ds.length
  · rw [rowS_get hq, if_neg (fun h => by simp at h), dsD hq]
  · rw [List.getElem?_eq_none (by rw [rowS_len]; omega), List.getElem?_eq_none (by omega)]
theorem rowS_at {f : Nat} {ts es : List TL} {ds : List D} {ks seen : List Nat} {p q : Nat} (hn : ks.Nodup) (hp : ks[p]? = some q) (hs : p ∉ seen) (hq : q < ds.length) : (rowS f ts es ds ks seen)[q]? = ds[q]? := by
  rw [rowS_get hq, if_neg (fun h => hs (by rw [← idx_of hn hp]; exact h.2.1)), dsD hq]
theorem rowS_step {f : Nat} {ts es : List TL} {ds : List D} {ks seen : List Nat} {p q : Nat} (hn : ks.Nodup) (hp : ks[p]? = some q) (hs : p ∉ seen) (hq : q < ds.length) :
    rowS f ts es ds ks (seen ++ [p]) = if es[p]? ≠ ts[q]? then (rowS f ts es ds ks seen).set q (.floc f p 0) else rowS f ts es ds ks seen := by
  have hi := idx_of hn hp
  apply List.ext_getElem?
  intro r
  by_cases hr : r < ds.length
  · by_cases er : q = r
    · subst er
      have hm : q ∈ ks := List.mem_of_getElem? hp
      rw [rowS_get hr, hi]
      by_cases hne : es[p]? ≠ ts[q]?
      · rw [if_pos hne, if_pos ⟨hm, by simp, hne⟩, List.getElem?_set_self (by rw [rowS_len]; exact hr)]
      · rw [if_neg hne, if_neg (fun h => hne h.2.2), rowS_get hr, hi, if_neg (fun h => hne h.2.2)]
    · have e : (if es[p]? ≠ ts[q]? then (rowS f ts es ds ks seen).set q (.floc f p 0) else rowS f ts es ds ks seen)[r]? = (rowS f ts es ds ks seen)[r]? := by
        split
        · rw [List.getElem?_set_ne er]
        · rfl
      rw [e, rowS_get hr, rowS_get hr]
      congr 1
      have hiff : (r ∈ ks ∧ ks.idxOf r ∈ seen ++ [p] ∧ es[ks.idxOf r]? ≠ ts[r]?) ↔ (r ∈ ks ∧ ks.idxOf r ∈ seen ∧ es[ks.idxOf r]? ≠ ts[r]?) := by
        refine ⟨fun ⟨h1, h2, h3⟩ => ⟨h1, ?_, h3⟩, fun ⟨h1, h2, h3⟩ => ⟨h1, by simp [h2], h3⟩⟩
        rcases List.mem_append.1 h2 with h2 | h2
        · exact h2
        · exfalso
          simp at h2
          have := (idx_at h1).1
          rw [h2, hp] at this
          exact er (Option.some.inj this)
      simp only [hiff]
  · rw [List.getElem?_eq_none (by rw [rowS_len]; omega), List.getElem?_eq_none (by split <;> simp [rowS_len] <;> omega)]
structure RowP (I : Nat → Prop) (ds ps : List D) (ts us : List TL) : Prop where
  len : ps.length = ds.length
  eq : ∀ (q : Nat), us[q]? = ts[q]? → ps[q]? = ds[q]?
  ne : ∀ (q : Nat) t, us[q]? = some t → ts[q]? ≠ some t → ∃ b, ¬ I b ∧ ps[q]? = some (.pin b (tc t))
theorem frz_nl {f : Nat} {ad : Nat → Nat} {Bs : List Mem} {d : D} (h : d.nl = true) : frz f ad Bs d = d := by
  cases d <;> first | rfl | (cases h)
theorem rowS_frz {I : Nat → Prop} {f : Nat} {ad : Nat → Nat} {ts es us : List TL} {ds : List D} {ks seen : List Nat} (hr : RowOk ds ts) (hs : DotOk ts us (ks, es)) (hall : ∀ p, p < ks.length → p ∈ seen) (had : ∀ k, k < es.length → ¬ I (ad k)) : RowP I ds ((rowS f ts es ds ks seen).map (frz f ad (tlM es))) ts us := by
  obtain ⟨h1, h2, h3, h4, h5, h6⟩ := hs
  dsimp only at h1 h2 h3 h4 h5 h6
  have hlen := hr.len
  refine ⟨by simp [rowS_len], fun q hq => ?_, fun q t hq hne => ?_⟩
  · by_cases hql : q < ds.length
    · rw [List.getElem?_map, rowS_get hql, if_neg, dsD hql]
      · have := nlL_mem hr.nl (dsD hql)
        rw [Option.map_some, frz_nl this]
      · rintro ⟨a1, a2, a3⟩
        obtain ⟨g1, g2⟩ := idx_at a1
        exact a3 (by rw [h5 _ q g1, hq])
    · rw [List.getElem?_eq_none (by simp [rowS_len]; omega), List.getElem?_eq_none (by omega)]
  · have hql : q < ds.length := by have := (List.getElem?_eq_some_iff.1 hq).1; omega
    have hm : q ∈ ks := Classical.byContradiction fun hno => hne (by rw [← h6 q hno]; exact hq)
    obtain ⟨g1, g2⟩ := idx_at hm
    have e5 := h5 _ q g1
    refine ⟨ad (ks.idxOf q), had _ (by omega), ?_⟩
    rw [List.getElem?_map, rowS_get hql, if_pos ⟨hm, hall _ g2, by rw [e5, hq]; exact fun e => hne e.symm⟩, Option.map_some]
    have e6 : (tlM es)[ks.idxOf q]? = some (.flat 72 (tc t)) := by rw [List.getElem?_map, e5, hq]; rfl
    simp only [frz, if_pos, e6]
theorem RowP.ok {I : Nat → Prop} {ds ps : List D} {ts us : List TL} (hr : RowOk ds ts) (hp : RowP I ds ps ts us) (hl : us.length = ts.length) : RowOk ps us := by
  have hq : ∀ (q : Nat) t, us[q]? = some t → ∃ d, ps[q]? = some d ∧ d.nl = true ∧ d.oc2 = true ∧ Wk d (.dpf (tc t)) := by
    intro q t ht
    have hql : q < ts.length := by have := (List.getElem?_eq_some_iff.1 ht).1; omega
    by_cases e : ts[q]? = some t
    · obtain ⟨d, g1, g2, g3, g4, g5⟩ := hr.at hql
      refine ⟨d, by rw [hp.eq q (by rw [ht, e]), g1], g3, g4, ?_⟩
      rw [List.getD_eq_getElem?_getD, e] at g5
      exact g5
    · obtain ⟨b, _, h2⟩ := hp.ne q t ht e
      exact ⟨_, h2, rfl, rfl, Wk.pin _ _⟩
  have hlen : ps.length = us.length := by rw [hp.len, hr.len, hl]
  have hm : ∀ d ∈ ps, ∃ (q : Nat) (t : TL), us[q]? = some t ∧ ps[q]? = some d := fun d hd => by
    obtain ⟨q, h1⟩ := List.getElem?_of_mem hd
    have : q < us.length := by rw [← hlen]; exact (List.getElem?_eq_some_iff.1 h1).1
    exact ⟨q, _, List.getElem?_eq_getElem this, h1⟩
  refine ⟨hlen, nlL_all fun d hd => ?_, List.all_eq_true.2 fun d hd => ?_, fun q d t h1 h2 => ?_⟩
  · obtain ⟨q, t, h1, h2⟩ := hm d hd
    obtain ⟨e, g1, g2, g3, g4⟩ := hq q t h1
    rw [h2] at g1; cases g1; exact g2
  · obtain ⟨q, t, h1, h2⟩ := hm d hd
    obtain ⟨e, g1, g2, g3, g4⟩ := hq q t h1
    rw [h2] at g1; cases g1; exact g3
  · obtain ⟨e, g1, g2, g3, g4⟩ := hq q t h2
    rw [h1] at g1; cases g1; exact g4
abbrev kI (ks : List Nat) : List Int := ks.map fun (k : Nat) => (k : Int)
theorem kI_nd {ks : List Nat} (h : ks.Nodup) : (kI ks).Nodup := by
  rw [List.nodup_iff_pairwise_ne, List.pairwise_map]
  exact (List.nodup_iff_pairwise_ne.1 h).imp fun hne e => hne (by omega)
theorem kI_no {ks : List Nat} {p : Nat} {z : Int} (hz : z = (p : Int)) (h : p ∉ ks) : z ∉ kI ks := fun hm => by
  obtain ⟨q, h1, h2⟩ := List.mem_map.1 hm
  exact h (by rw [show p = q by omega]; exact h1)
theorem kI_app (ks : List Nat) (p : Nat) : kI ks ++ [(p : Int)] = kI (ks ++ [p]) := by rw [kI, kI, List.map_append]; rfl
theorem kI_at {ks : List Nat} {p : Nat} (h : p ∈ ks) : (kI ks)[ks.idxOf p]? = some (p : Int) := by rw [List.getElem?_map, (idx_at h).1]; rfl
theorem ptN_at {f n k : Nat} (h : k < n) : (ptN f n)[k]? = some (.floc f k 0) := by rw [List.getElem?_map, List.getElem?_range h]; rfl
theorem ptN_mpd {σ : List Nat} {V : Nat → Bool} {M : List Blk} {ks ks' : List Int} {f g n : Nat} {l l' : List D} (hk : ks = ks') (hl : l = ptN f n) (hl' : l' = ptN g n) (hp : pos σ f = some g) : (vwL σ V M l).map (Blk.mpd ks) = some (Blk.mpd ks' l') := by
  subst hk hl hl'
  have h : ∀ r : List Nat, vwL σ V M (r.map fun k => D.floc f k 0) = some (r.map fun k => D.floc g k 0) := fun r => by
    induction r with
    | nil => rfl
    | cons a r ih =>
      rw [List.map_cons, vwL, ih]
      have : vw σ V M (.floc f a 0) = some (.floc g a 0) := by unfold vw; rw [hp]
      rw [this]; rfl
  rw [h]; rfl
theorem tlM_at {es : List TL} {k : Nat} (h : k < es.length) : (tlM es)[k]? = some (.flat 72 (tc (es.getD k zT))) := by rw [List.getElem?_map, List.getElem?_eq_getElem h, tl_at h]; rfl
theorem tlM_len (es : List TL) : (tlM es).length = es.length := by simp
theorem setT {t : TL} {q : Nat} {z : Int} {c : C4} (hz : z = (q : Int)) (hq : q < 64) : setL (tc t) (0 + z.toNat * 4) (c4 c) = tc (t.set q c) := by
  subst hz
  rw [Int.toNat_natCast, Nat.zero_add]
  exact flat_set c4_len (by rw [TL.h]; exact hq) c
theorem fitT {t : TL} {q : Nat} {z : Int} (hz : z = (q : Int)) (hq : q < 64) : 0 + z.toNat * 4 + 4 ≤ (tc t).length := by
  subst hz
  rw [Int.toNat_natCast, tc_len]; omega
theorem tlM_set {es : List TL} {k : Nat} {t : TL} : (tlM es).set k (.flat 72 (tc t)) = tlM (es.set k t) := by rw [tlM, tlM, List.map_set]
theorem tlM_app (es : List TL) (t : TL) : tlM es ++ [.flat 72 (tc t)] = tlM (es ++ [t]) := by rw [tlM, tlM, List.map_append]; rfl
theorem tlM_new (es : List TL) (t : TL) (q : Nat) (c : C4) : (tlM es ++ [Mem.flat 72 (tc t)]).set es.length (Mem.flat 72 (tc (((es ++ [t]).getD es.length zT).set q c))) = tlM (es ++ [t.set q c]) := by
  rw [tlM_app, tlM_set, tl_at (by simp), List.getElem_append_right (Nat.le_refl _), List.set_append_right _ _ (Nat.le_refl _)]
  simp
theorem arxd_fits {σ : List Nat} {V : Nat → Bool} {M : List Blk} {T : TypeId} {sz n : Nat} {ds : List D} {ts : List TL} (hr : RowOk ds ts) : (vwL σ V M ds).map (Blk.arx T sz n) = some (Blk.arx T sz n ds) := arxn_fits hr.nl rfl rfl
set_option maxRecDepth 4000 in
set_option maxHeartbeats 1000000 in
theorem dot_d (w h : Int) (ds : List D) (ts us : List TL) (hr : RowOk ds ts) (hc : CvOk w h ts) (s : List Nat × List TL) (hs : DotOk ts us s) (d : Dt) : DFun Tryz.prog 90 [.loc 0 0, .val (.agg (dtC d).toArray)] [.mix 151 [.val (.int .i64 w), .val (.int .i64 h), .fn (.func 68) [] [.loc 4 0, .loc 5 0], .arr 1, .hnd 2], .arx 108 1 ds.length ds, .mpd (kI s.1) (ptN 3 s.2.length), .fam (tlM s.2), .flat 3 [.int .i64 (w * 8)], .flat 3 [.int .i64 (h * 8)]] (.tup []) [.mix 151 [.val (.int .i64 w), .val (.int .i64 h), .fn (.func 68) [] [.loc 4 0, .loc 5 0], .arr 1, .hnd 2], .arx 108 1 ds.length ds, .mpd (kI (dotS w h ts s d).1) (ptN 3 (dotS w h ts s d).2.length), .fam (tlM (dotS w h ts s d).2), .flat 3 [.int .i64 (w * 8)], .flat 3 [.int .i64 (h * 8)]] := by
  refine zan (N := 61) 6 (by kernel_rfl) Tryz.func90 rfl rfl rfl (by simp only [fr0, Nat.zero_add, Nat.reduceAdd]; exact rfl) rfl fun s0 hs0 => ?_
  refine zaf ?_
  refine zah 1 (by simp only [holes, List.cons_append, List.nil_append]; exact rfl) ?_
  refine zac ?_
  refine zaj rfl rfl rfl (op_boxa 6 rfl (ev1 rfl) rfl) (by simp only [upd, zaa, za]; exact rfl) ?_
  refine zae ?_
  refine zaf ?_
  refine zaf ?_
  refine dwp_draw [([], []), ([], []), ([], []), ([0], []), ([], []), ([6], []), ([], []), ([6], []), ([4, 5], [4, 5]), ([], [])] mixed (by kernel_rfl) ?_
  refine zag rfl rfl (zad (.inl rfl) (ev1 rfl)) ?_
  refine zag rfl rfl (op_nc rfl (ev1 rfl) (fun s v h => by cases h; exact ⟨_, rfl⟩)) ?_
  refine zag rfl rfl (op_fa rfl fo151_1 (ev1 rfl)) ?_
  refine zag rfl rfl (op_ldm rfl tb91 (ev1 rfl) rfl rfl) ?_
  refine zag rfl rfl (op_fa rfl fo131_0 (ev1 rfl)) ?_
  refine zag rfl rfl (op_ldo rfl tb3 (ev1 rfl) rfl rfl) ?_
  refine zag rfl rfl (op_fa rfl fo131_1 (ev1 rfl)) ?_
  refine zag rfl rfl (op_ldo rfl tb3 (ev1 rfl) rfl rfl) ?_
  refine lex_w rfl rfl (zai [4, 5] [] [] rfl (ev1 rfl) (ec (ev1 rfl) (ec (ev1 rfl) en)) rfl rfl (sask1_d d.x d.y w h) rfl rfl rfl rfl rfl rfl) rfl (by simp only [upd, zaa, za]; exact rfl) ?_
  refine zag rfl rfl (op_not rfl (ev1 rfl)) ?_
  refine lex_nil ?_
  refine dwp_cond rfl (fun c1 => ?_) (fun c1 => ?_)
  · have ho : onS w h d.x d.y = false := bn_t c1
    refine dwp_ret ?_
    rw [dotS_off ho]
    refine kend [0, 1, 2, 3, 4, 5] (res_none rfl) rfl rfl ?_ ⟨?_, ?_, ?_, ?_, ?_, ?_, trivial⟩
    rfl
    exact rfl
    exact arxd_fits hr
    exact ptN_mpd rfl rfl rfl rfl
    exact rfl
    exact rfl
    exact rfl
  · have ho : onS w h d.x d.y = true := bn_f c1
    have hpl := on_pl hc.may ho
    have hpt := hc.pl ho
    have hlen := hs.len
    refine zal ?_
    refine zaf ?_
    refine dwp_draw [([], []), ([], []), ([], []), ([0], []), ([], []), ([6], []), ([], []), ([6], []), ([], []), ([], []), ([], []), ([], []), ([], []), ([], [])] mixed (by kernel_rfl) ?_
    refine zag rfl rfl (zad (.inl rfl) (ev1 rfl)) ?_
    refine zag rfl rfl (op_nc rfl (ev1 rfl) (fun s v h => by cases h; exact ⟨_, rfl⟩)) ?_
    refine zag rfl rfl (op_fa rfl fo151_0 (ev1 rfl)) ?_
    refine zag rfl rfl (op_ldmv (R := [_, _]) rfl tb81 (ev1 rfl) rfl rfl rfl) ?_
    refine zag rfl rfl (op_fa rfl fo131_0 (ev1 rfl)) ?_
    refine zag rfl rfl (op_ldo rfl tb3 (ev1 rfl) rfl rfl) ?_
    refine zag rfl rfl (op_fa rfl fo131_1 (ev1 rfl)) ?_
    refine zag rfl rfl (op_ldo rfl tb3 (ev1 rfl) rfl rfl) ?_
    refine zag rfl rfl (zai [] [] [] rfl (ev1 rfl) (ec (ev1 rfl) (ec (ev1 rfl) (ec (ev1 rfl) en))) rfl rfl (splace_d w h d.x d.y hc.may ho) rfl rfl rfl rfl rfl rfl) ?_
    refine zag rfl rfl (zad (.inl rfl) (ev1 rfl)) ?_
    refine zag rfl rfl (op_ext rfl (ev1 rfl) rfl) ?_
    refine zag rfl rfl (op_ext rfl (ev1 rfl) rfl) ?_
    refine zag rfl rfl (zad (.inr rfl) (ev1 rfl)) ?_
    refine zag rfl rfl (zad (.inr rfl) (ev1 rfl)) ?_
    refine lex_nil ?_
    refine zaf ?_
    refine zaf ?_
    by_cases hin : plN w d.x d.y ∈ s.1
    · obtain ⟨g1, g2⟩ := idx_at hin
      have g3 : s.1.idxOf (plN w d.x d.y) < s.2.length := by omega
      refine zac ?_
      refine zab rfl rfl rfl (zad (.inl rfl) (ev1 rfl)) ?_
      refine zab rfl rfl rfl (op_nc rfl (ev1 rfl) (fun s v h => by cases h; exact ⟨_, rfl⟩)) ?_
      refine zab rfl rfl rfl (op_fa rfl fo151_3 (ev1 rfl)) ?_
      refine zab rfl rfl rfl (op_ldm rfl tb149 (ev1 rfl) rfl rfl) ?_
      refine zab rfl rfl rfl (zad (.inl rfl) (ev1 rfl)) ?_
      refine zab rfl rfl rfl (op_lkdy (j := s.1.idxOf (plN w d.x d.y)) mp149 it3 rfl (ev1 rfl) (ev1 rfl) rfl (fun _ => kI_nd hs.nd) (fun _ => kI_at hin) (ptN_at g3)) ?_
      refine zab rfl rfl rfl (op_pnilf rfl pt108 (ev1 rfl)) ?_
      refine zae ?_
      refine dwp_if_f rfl (rfl) ?_
      refine zal ?_
      refine dwp_draw [([], []), ([], []), ([], []), ([0], []), ([], []), ([2], []), ([], []), ([], []), ([6], []), ([], []), ([], []), ([3], [3])] mixed (by kernel_rfl) ?_
      refine zag rfl rfl (zad (.inl rfl) (ev1 rfl)) ?_
      refine zag rfl rfl (op_nc rfl (ev1 rfl) (fun s v h => by cases h; exact ⟨_, rfl⟩)) ?_
      refine zag rfl rfl (op_fa rfl fo151_3 (ev1 rfl)) ?_
      refine zag rfl rfl (op_ldm rfl tb149 (ev1 rfl) rfl rfl) ?_
      refine zag rfl rfl (zad (.inl rfl) (ev1 rfl)) ?_
      refine zag rfl rfl (op_lkdy (j := s.1.idxOf (plN w d.x d.y)) mp149 it3 rfl (ev1 rfl) (ev1 rfl) rfl (fun _ => kI_nd hs.nd) (fun _ => kI_at hin) (ptN_at g3)) ?_
      refine zag rfl rfl (zad (.inl rfl) (ev1 rfl)) ?_
      refine zag rfl rfl (op_fa rfl fo131_2 (ev1 rfl)) ?_
      refine zag rfl rfl (op_ldr rfl tb44 (ev1 rfl) rfl rfl rfl) ?_
      refine zag rfl rfl (op_nc rfl (ev1 rfl) (fun s v h => by cases h; exact ⟨_, rfl⟩)) ?_
      refine zag rfl rfl (op_ixfl rfl ar72 (ev1 rfl) (ev1 rfl) (fun _ => by omega)) ?_
      refine lex_s rfl rfl (op_stfp rfl tb44 (ev1 rfl) (ev1 rfl) rfl (tlM_at g3) rfl rfl rfl (fitT rfl hpl.2.2.2) (setT rfl hpl.2.2.2)) rfl (by simp only [upd, zaa, za]; exact rfl) ?_
      refine lex_nil ?_
      rw [dotS_in ho hin]
      refine kend [0, 1, 2, 3, 4, 5] (res_none rfl) rfl rfl ?_ ⟨?_, ?_, ?_, ?_, ?_, ?_, trivial⟩
      rfl
      exact rfl
      exact arxd_fits hr
      exact ptN_mpd rfl rfl (by rw [List.length_set]) rfl
      exact (by rw [tlM_set]; rfl)
      exact rfl
      exact rfl
    · refine zac ?_
      refine zab rfl rfl rfl (zad (.inl rfl) (ev1 rfl)) ?_
      refine zab rfl rfl rfl (op_nc rfl (ev1 rfl) (fun s v h => by cases h; exact ⟨_, rfl⟩)) ?_
      refine zab rfl rfl rfl (op_fa rfl fo151_3 (ev1 rfl)) ?_
      refine zab rfl rfl rfl (op_ldm rfl tb149 (ev1 rfl) rfl rfl) ?_
      refine zab rfl rfl rfl (zad (.inl rfl) (ev1 rfl)) ?_
      refine zab rfl rfl rfl (op_lkdn mp149 it3 zv108 rfl (ev1 rfl) (ev1 rfl) rfl (fun _ => kI_no rfl hin)) ?_
      refine zab rfl rfl rfl (op_pnil0 rfl pt108 (ev1 rfl)) ?_
      refine zae ?_
      refine dwp_if_t rfl (rfl) ?_
      refine zaf ?_
      obtain ⟨e, hd, _, _, _, hw⟩ := hr.at hpt
      refine zah 1 (by simp only [holes, List.cons_append, List.nil_append]; exact rfl) ?_
      refine zac ?_
      refine zab rfl rfl rfl (zad (.inl rfl) (ev1 rfl)) ?_
      refine zab rfl rfl rfl (op_nc rfl (ev1 rfl) (fun s v h => by cases h; exact ⟨_, rfl⟩)) ?_
      refine zab rfl rfl rfl (op_fa rfl fo151_2 (ev1 rfl)) ?_
      refine zab rfl rfl rfl (op_ldm rfl tb82 (ev1 rfl) rfl rfl) ?_
      refine zab rfl rfl rfl (zad (.inl rfl) (ev1 rfl)) ?_
      refine zab rfl rfl rfl (op_ixx (plN w d.x d.y) rfl sl82 (ev1 rfl) (ev1 rfl) rfl (fun _ => rfl) (fun _ => by rw [hr.len]; exact hpt)) ?_
      refine zab rfl rfl rfl ((op_ldx rfl tb108 (ev1 rfl) rfl (by rw [Nat.mul_one]; exact hd)).wk (hw)) ?_
      refine zab rfl rfl rfl (op_nc rfl (ev1 rfl) (fun s v h => by cases h; exact ⟨_, rfl⟩)) ?_
      refine zab rfl rfl rfl (op_ldwd rfl tb72 (ev1 rfl) (tc_len _)) ?_
      refine zaj rfl rfl rfl (op_alloc 7 rfl zr72 rfl) (by simp only [upd, zaa, za]; exact rfl) ?_
      refine walk_s rfl rfl (op_stwa rfl tb72 (ev1 rfl) (ev1 rfl) rfl (tc_len _) (tc_oc _) ((tc_len _).trans (tc_len _).symm)) (by simp only [upd, zaa, za]; exact rfl) ?_
      refine zae ?_
      refine dwp_absl 6 3 rfl rfl rfl (by simp only [zaa, za]; exact rfl) ?_
      refine zac ?_
      refine zab rfl rfl rfl (zad (.inl rfl) (ev1 rfl)) ?_
      refine zab rfl rfl rfl (op_nc rfl (ev1 rfl) (fun s v h => by cases h; exact ⟨_, rfl⟩)) ?_
      refine zab rfl rfl rfl (op_fa rfl fo151_3 (ev1 rfl)) ?_
      refine zab rfl rfl rfl (op_ldm rfl tb149 (ev1 rfl) rfl rfl) ?_
      refine zab rfl rfl rfl (zad (.inl rfl) (ev1 rfl)) ?_
      refine walk_s rfl rfl (op_mud mp149 it3 rfl (ev1 rfl) (ev1 rfl) (ev1 rfl) rfl (fun _ => kI_no rfl hin)) (by simp only [upd, zaa, za]; exact rfl) ?_
      refine zae ?_
      refine dwp_draw [([], []), ([], []), ([], []), ([0], []), ([], []), ([2], []), ([], []), ([], []), ([6], []), ([], []), ([], []), ([3], [3])] mixed (by kernel_rfl) ?_
      refine zag rfl rfl (zad (.inl rfl) (ev1 rfl)) ?_
      refine zag rfl rfl (op_nc rfl (ev1 rfl) (fun s v h => by cases h; exact ⟨_, rfl⟩)) ?_
      refine zag rfl rfl (op_fa rfl fo151_3 (ev1 rfl)) ?_
      refine zag rfl rfl (op_ldm rfl tb149 (ev1 rfl) rfl rfl) ?_
      refine zag rfl rfl (zad (.inl rfl) (ev1 rfl)) ?_
      refine zag rfl rfl (op_lkdy (j := s.2.length) mp149 it3 rfl (ev1 rfl) (ev1 rfl) rfl (fun _ => by rw [kI_app]; exact kI_nd (hs.step hc d |>.nd |> fun h => by rw [dotS_new ho hin] at h; exact h)) (fun _ => by rw [kI_app, List.getElem?_map, List.getElem?_append_right (by omega), hlen, Nat.sub_self]; rfl) (by rw [tlM_len, ptN_add]; exact ptN_at (by omega))) ?_
      refine zag rfl rfl (zad (.inl rfl) (ev1 rfl)) ?_
      refine zag rfl rfl (op_fa rfl fo131_2 (ev1 rfl)) ?_
      refine zag rfl rfl (op_ldr rfl tb44 (ev1 rfl) rfl rfl rfl) ?_
      refine zag rfl rfl (op_nc rfl (ev1 rfl) (fun s v h => by cases h; exact ⟨_, rfl⟩)) ?_
      refine zag rfl rfl (op_ixfl rfl ar72 (ev1 rfl) (ev1 rfl) (fun _ => by omega)) ?_
      refine lex_s rfl rfl (op_stfp rfl tb44 (ev1 rfl) (ev1 rfl) rfl (by rw [tlM_app]; exact tlM_at (by simp)) rfl rfl rfl (fitT rfl hpl.2.2.2) (setT rfl hpl.2.2.2)) rfl (by simp only [upd, zaa, za]; exact rfl) ?_
      refine lex_nil ?_
      rw [dotS_new ho hin]
      refine kend [0, 1, 2, 3, 4, 5] (res_none rfl) rfl rfl ?_ ⟨?_, ?_, ?_, ?_, ?_, ?_, trivial⟩
      rfl
      exact rfl
      exact arxd_fits hr
      exact ptN_mpd (by rw [kI_app]) (by rw [tlM_len, ptN_add, List.length_append]; rfl) rfl rfl
      exact (by rw [tlM_new]; rfl)
      exact rfl
      exact rfl
end Go.Proofs.YtfnhckildfbikaaGreat
namespace Go.Proofs.YtfnhckildfbikaaGreat
set_option maxRecDepth 4000
set_option linter.unusedVariables false
set_option linter.unusedSimpArgs false
open Go.RowKit
theorem eq72 {t u : TL} : eqT Tryz.prog 9 72 (tc t) (tc u) = some (decide (t = u)) := by
  have h : ∀ a b : C4, eqT Tryz.prog 8 44 (c4 a) (c4 b) = some (decide (a = b)) := fun a b => by
    rw [← eqC_iff]
    exact (show eqT Tryz.prog 8 44 [.int .u8 a.r, .int .u8 a.g, .int .u8 a.b, .int .u8 a.a] [.int .u8 b.r, .int .u8 b.g, .int .u8 b.b, .int .u8 b.a] = some (eqC a b) by kernel_rfl)
  have h2 := eqA_row (en := c4) c4_len h t.l u.l (by rw [t.h, u.h])
  rw [t.h] at h2
  have h3 : eqT Tryz.prog 9 72 (tc t) (tc u) = eqA (eqT Tryz.prog 8 44) 4 64 (tc t) (tc u) := by
    have e1 : Tryz.prog.underlying 72 = some (.array 64 44) := by kernel_rfl
    obtain ⟨_, i, _, e3, _, e4⟩ := tyB_spec (show tyB Tryz.prog 44 = some (true, 4) by kernel_rfl)
    unfold eqT
    simp only [e1, e3, e4]
  refine h3.trans (h2.trans ?_)
  congr 1
  rw [Bool.eq_iff_iff]
  simp only [decide_eq_true_eq]
  exact ⟨TL.ext, fun e => by rw [e]⟩
theorem fl151 : fdL Tryz.prog 151 = some [(0, 2), (2, 1), (3, 1), (4, 1)] := by kernel_rfl
theorem gd72 : Tryz.prog.eqGuardType Tryz.prog.depth 72 = false := by kernel_rfl
theorem sl128 : slE Tryz.prog 128 = some (131, 6, 24) := by kernel_rfl
theorem tb131 : tyB Tryz.prog 131 = some (true, 6) := by kernel_rfl
theorem zr131 : zrC Tryz.prog 131 = some [.int .i64 0, .int .i64 0, .int .u8 0, .int .u8 0, .int .u8 0, .int .u8 0] := by kernel_rfl
theorem zr151 : zrC Tryz.prog 151 = some [.int .i64 0, .int .i64 0, .nilFunc, .slice none 0 0, .map none] := by kernel_rfl
theorem rowS_fits {f g n : Nat} {ts es : List TL} {ds : List D} {ks seen : List Nat} {σ : List Nat} {V : Nat → Bool} {M : List Blk} {T : TypeId} {l l' : List D} (hn : D.nlL ds = true) (hl : l = rowS f ts es ds ks seen) (hl' : l' = rowS g ts es ds ks seen) (hp : pos σ f = some g) : (vwL σ V M l).map (Blk.arx T 1 n) = some (Blk.arx T 1 n l') := by
  subst hl hl'
  have h : ∀ r : List Nat, (∀ q ∈ r, q < ds.length) → vwL σ V M (r.map fun q => if q ∈ ks ∧ ks.idxOf q ∈ seen ∧ es[ks.idxOf q]? ≠ ts[q]? then D.floc f (ks.idxOf q) 0 else ds.getD q .junk) = some (r.map fun q => if q ∈ ks ∧ ks.idxOf q ∈ seen ∧ es[ks.idxOf q]? ≠ ts[q]? then D.floc g (ks.idxOf q) 0 else ds.getD q .junk) := fun r hr => by
    induction r with
    | nil => rfl
    | cons a r ih =>
      rw [List.map_cons, vwL, ih fun q hq => hr q (by simp [hq])]
      have : vw σ V M (if a ∈ ks ∧ ks.idxOf a ∈ seen ∧ es[ks.idxOf a]? ≠ ts[a]? then D.floc f (ks.idxOf a) 0 else ds.getD a .junk) = some (if a ∈ ks ∧ ks.idxOf a ∈ seen ∧ es[ks.idxOf a]? ≠ ts[a]? then D.floc g (ks.idxOf a) 0 else ds.getD a .junk) := by
        split
        · unfold vw; rw [hp]
        · exact vw_nl σ V M _ (nlL_mem hn (dsD (hr a (by simp))))
      rw [this]; rfl
  have := h (List.range ds.length) fun q hq => by simpa using hq
  unfold rowS
  rw [this]; rfl
theorem tc_whole (t : TL) : ((tc t).drop 0).take 256 = tc t := by rw [List.drop_zero, List.take_of_length_le (by rw [tc_len]; exact Nat.le_refl _)]
theorem getq {l : List TL} {p : Nat} (h : p < l.length) : l[p]? = some (l.getD p zT) := by rw [List.getElem?_eq_getElem h, tl_at h]
theorem all_in : ∀ {n : Nat} {seen : List Nat} (h : seen.Nodup) (hl : ∀ p ∈ seen, p < n), seen.length ≤ n
  | 0, seen, h, hl => by
    cases seen with
    | nil => exact Nat.le_refl _
    | cons a l => exact absurd (hl a (by simp)) (Nat.not_lt_zero _)
  | n + 1, seen, h, hl => by
    have h1 := all_in (n := n) (seen := seen.erase n) (h.erase n) fun p hp => by
      have h2 := hl p (List.mem_of_mem_erase hp)
      have h3 : p ≠ n := fun e => by subst e; exact absurd hp (List.Nodup.not_mem_erase h)
      omega
    rw [List.length_erase] at h1
    split at h1 <;> omega
def FromCv (I : Nat → Prop) (w h : Int) (ds : List D) (ts us : List TL) (d : D) : Prop := ∃ ps, RowP I ds ps ts us ∧ d = cvD w h ps
set_option maxRecDepth 4000 in
set_option maxHeartbeats 1000000 in
theorem done_i (w h : Int) (ds : List D) (ts us : List TL) (hr : RowOk ds ts) (hc : CvOk w h ts) (s : List Nat × List TL) (hs : DotOk ts us s) : DFunI Tryz.prog 91 [.loc 0 0] [.mix 151 [.val (.int .i64 w), .val (.int .i64 h), .fn (.func 68) [] [.loc 4 0, .loc 5 0], .arr 1, .hnd 2], .arx 108 1 ds.length ds, .mpd (kI s.1) (ptN 3 s.2.length), .fam (tlM s.2), .flat 3 [.int .i64 (w * 8)], .flat 3 [.int .i64 (h * 8)]] (fun I => FromCv I w h ds ts us) [.gone, .gone, .gone, .gone, .gone, .gone] := by
  have hlen := hs.len
  have hdl := hr.len
  refine dcallsI_go (N := 45) 6 (by kernel_rfl) Tryz.func91 rfl rfl rfl (by simp only [fr0, Nat.zero_add, Nat.reduceAdd]; exact rfl) rfl fun s0 hs0 => ?_
  refine zaf ?_
  refine zac ?_
  refine zab rfl rfl rfl (zad (.inr rfl) (ev1 rfl)) ?_
  refine zae ?_
  refine zaf ?_
  refine zaf ?_
  refine zah 1 (by simp only [holes, List.cons_append, List.nil_append]; exact rfl) ?_
  refine zac ?_
  refine zab rfl rfl rfl (zad (.inl rfl) (ev1 rfl)) ?_
  refine zab rfl rfl rfl (op_nc rfl (ev1 rfl) (fun s v h => by cases h; exact ⟨_, rfl⟩)) ?_
  refine zab rfl rfl rfl (op_fa rfl fo151_3 (ev1 rfl)) ?_
  refine zab rfl rfl rfl (op_ldm rfl tb149 (ev1 rfl) rfl rfl) ?_
  refine zaj rfl rfl rfl (op_rgd 6 rfl mp149 (ev1 rfl) rfl rfl) (by simp only [upd, zaa, za]; exact rfl) ?_
  refine zae ?_
  refine zak ?_
  refine dwp_loopS ⟨hs0, rfl⟩ (α := List Nat) (fun sn => []) [(0, _), (9, _)] (fun sn => [(1, .arx 108 1 ds.length (rowS 3 ts s.2 ds s.1 sn)), (6, .mit (.hnd 2) (kI s.1).length sn)]) [_, .hole, _, _, _, _, .hole] (fun sn => sn.Nodup ∧ ∀ p ∈ sn, p < s.1.length) (fun sn => s.1.length - sn.length) [] [0, 1, 2, 3, 4, 5, 6] (⟨List.nodup_nil, fun p hp => by simp at hp⟩) rfl ⟨rfl, rfl, trivial⟩ trivial ⟨rfl, arxn_fits hr.nl rfl (rowS_nil ..).symm, ptN_mpd rfl rfl rfl rfl, rfl, rfl, rfl, rfl, trivial⟩ ?_
  intro sn hx
  simp only [upd, zaa, za, List.cons_append, List.nil_append]
  obtain ⟨hnd, hlt⟩ := hx
  refine zaf ?_
  refine zac ?_
  refine walk_e rfl rfl rfl (op_nxd rfl (ev1 rfl) rfl rfl) ?_
  rintro d wr (⟨rfl, rfl, hall⟩ | ⟨p, kp, ep, hkp, hep, hnp, rfl, rfl⟩)
  · simp only [upd]
    refine zab rfl rfl rfl (op_ext rfl (ev1 rfl) rfl) ?_
    refine zae ?_
    refine zaf ?_
    refine dwp_if_f rfl (rfl) ?_
    refine dwp_exit ?_
    refine zaf ?_
    refine dwp_frz 3 1 rfl rfl (tlM_flat) fun ad had => ?_
    simp only [zaa, za]
    have hP := rowS_frz (f := 3) (I := s0.I) (seen := sn) hr hs (fun p hp => hall p (by simpa using hp)) (fun k hk => had k (by simpa using hk))
    have hPk := hP.ok hr hs.ul
    refine dwp_givem 0 3 (hPk.nl) rfl rfl rfl (by simp only [zaa, za]; exact rfl) ?_
    refine dwp_draw [([], []), ([], []), ([], []), ([0], []), ([], []), ([], []), ([], []), ([0], []), ([], []), ([], []), ([], [])] mixed (by kernel_rfl) ?_
    refine zag rfl rfl (zad (.inl rfl) (ev1 rfl)) ?_
    refine zag rfl rfl (op_nc rfl (ev1 rfl) (fun s v h => by cases h; exact ⟨_, rfl⟩)) ?_
    refine zag rfl rfl (op_fa rfl fo151_0 (ev1 rfl)) ?_
    refine zag rfl rfl (op_ldmv (R := [_, _]) rfl tb81 (ev1 rfl) rfl rfl rfl) ?_
    refine zag rfl rfl (zad (.inl rfl) (ev1 rfl)) ?_
    refine zag rfl rfl (op_nc rfl (ev1 rfl) (fun s v h => by cases h; exact ⟨_, rfl⟩)) ?_
    refine zag rfl rfl (op_fa rfl fo151_2 (ev1 rfl)) ?_
    refine zag rfl rfl (op_ldm rfl tb82 (ev1 rfl) rfl rfl) ?_
    refine zag rfl rfl (op_bldD (ps := [(0, .tmp 38), (1, .tmp 42)]) rfl fl84 zr84 (ec (ev1 rfl) (ec (ev1 rfl) en)) rfl rfl rfl) ?_
    refine zag rfl rfl (op_boxf rfl rfl (ev1 rfl)) ?_
    refine zag rfl rfl (zad (.inr rfl) (ev1 rfl)) ?_
    refine lex_nil ?_
    refine dwp_gone 0 (by simp only [zaa, za]; exact rfl) ?_
    refine dwp_gone 2 (by simp only [zaa, za]; exact rfl) ?_
    refine dwp_gone 4 (by simp only [zaa, za]; exact rfl) ?_
    refine dwp_gone 5 (by simp only [zaa, za]; exact rfl) ?_
    refine dwp_ret ?_
    refine kendI (post := fun I => FromCv I w h ds ts us) (I := s0.I) (Mo := [.gone, .gone, .gone, .gone, .gone, .gone]) [0, 1, 2, 3, 4, 5] (rs1 rfl (rv_t rfl)) rfl rfl ?_ ⟨rfl, rfl, rfl, rfl, rfl, rfl, trivial⟩
    exact ⟨_, hP, by rw [cvD, hP.len]; rfl⟩
  · simp only [upd, zaa, za]
    have hp1 : p < s.1.length := by have := (List.getElem?_eq_some_iff.1 hkp).1; simpa using this
    obtain ⟨q, hq⟩ : ∃ q, s.1[p]? = some q := ⟨_, List.getElem?_eq_getElem hp1⟩
    obtain rfl : kp = (q : Int) := by rw [List.getElem?_map, hq] at hkp; exact (Option.some.inj hkp).symm
    obtain rfl : ep = .floc 3 p 0 := by rw [ptN_at (by omega)] at hep; exact (Option.some.inj hep).symm
    have hqt := hs.lt q (List.mem_of_getElem? hq)
    obtain ⟨e, hd, _, _, _, hw⟩ := hr.at hqt
    have hes := tlM_at (es := s.2) (k := p) (by omega)
    refine zab rfl rfl rfl (op_ext rfl (ev1 rfl) rfl) ?_
    refine zae ?_
    refine zaf ?_
    refine dwp_if_t rfl (rfl) ?_
    refine zal ?_
    refine zak ?_
    refine zaf ?_
    refine zac ?_
    refine zab rfl rfl rfl (op_ent rfl (ev1 rfl) rfl rfl (hkp) (hep)) ?_
    refine zab rfl rfl rfl (op_ext rfl (ev1 rfl) rfl) ?_
    refine zab rfl rfl rfl (op_ext rfl (ev1 rfl) rfl) ?_
    refine zab rfl rfl rfl (zad (.inr rfl) (ev1 rfl)) ?_
    refine zab rfl rfl rfl (zad (.inr rfl) (ev1 rfl)) ?_
    refine zae ?_
    refine zaf ?_
    refine dwp_draw [([], []), ([], []), ([3], []), ([], []), ([], []), ([], []), ([0], []), ([], []), ([1], []), ([1], []), ([], []), ([], []), ([], [])] mixed (by kernel_rfl) ?_
    refine zag rfl rfl (zad (.inl rfl) (ev1 rfl)) ?_
    refine zag rfl rfl (op_nc rfl (ev1 rfl) (fun s v h => by cases h; exact ⟨_, rfl⟩)) ?_
    refine zag rfl rfl (op_ldfp rfl tb72 (ev1 rfl) rfl (hes) (tc_whole _) (tc_len _)) ?_
    refine zag rfl rfl (zad (.inl rfl) (ev1 rfl)) ?_
    refine zag rfl rfl (op_nc rfl (ev1 rfl) (fun s v h => by cases h; exact ⟨_, rfl⟩)) ?_
    refine zag rfl rfl (op_fa rfl fo151_2 (ev1 rfl)) ?_
    refine zag rfl rfl (op_ldm rfl tb82 (ev1 rfl) rfl rfl) ?_
    refine zag rfl rfl (zad (.inl rfl) (ev1 rfl)) ?_
    refine zag rfl rfl (op_ixx (q) rfl sl82 (ev1 rfl) (ev1 rfl) rfl (fun _ => rfl) (fun _ => by omega)) ?_
    refine zag rfl rfl ((op_ldx rfl tb108 (ev1 rfl) rfl (by rw [Nat.mul_one, rowS_at hs.nd hq hnp (by omega)]; exact hd)).wk (hw)) ?_
    refine zag rfl rfl (op_nc rfl (ev1 rfl) (fun s v h => by cases h; exact ⟨_, rfl⟩)) ?_
    refine zag rfl rfl (op_ldwd rfl tb72 (ev1 rfl) (tc_len _)) ?_
    refine zag rfl rfl (op_ner eq72 rfl gd72 tb72 (ev1 rfl) (ev1 rfl)) ?_
    refine lex_nil ?_
    have hle2 := all_in (n := s.1.length) (seen := sn ++ [p]) (by rw [List.nodup_append]; exact ⟨hnd, by simp, fun a ha b hb => by simp at hb; subst hb; exact fun e => hnp (e ▸ ha)⟩) (fun r hr => (List.mem_append.1 hr).elim (hlt r) fun h => by simp at h; subst h; exact hp1)
    rw [List.length_append] at hle2
    have hI : (sn ++ [p]).Nodup ∧ ∀ r ∈ sn ++ [p], r < s.1.length := ⟨by rw [List.nodup_append]; exact ⟨hnd, by simp, fun a ha b hb => by simp at hb; subst hb; exact fun e => hnp (e ▸ ha)⟩, fun r hr => (List.mem_append.1 hr).elim (hlt r) fun h => by simp at h; subst h; exact hp1⟩
    refine dwp_cond rfl (fun c2 => ?_) (fun c2 => ?_)
    · have hne : s.2[p]? ≠ ts[q]? := by rw [getq (by omega), getq hqt]; exact fun e => (show ¬ s.2.getD p zT = ts.getD q zT by simpa using c2) (Option.some.inj e)
      refine zac ?_
      refine zab rfl rfl rfl (zad (.inl rfl) (ev1 rfl)) ?_
      refine zab rfl rfl rfl (op_nc rfl (ev1 rfl) (fun s v h => by cases h; exact ⟨_, rfl⟩)) ?_
      refine zab rfl rfl rfl (op_fa rfl fo151_2 (ev1 rfl)) ?_
      refine zab rfl rfl rfl (op_ldm rfl tb82 (ev1 rfl) rfl rfl) ?_
      refine zab rfl rfl rfl (zad (.inl rfl) (ev1 rfl)) ?_
      refine zab rfl rfl rfl (zad (.inl rfl) (ev1 rfl)) ?_
      refine zab rfl rfl rfl (op_ixx (q) rfl sl82 (ev1 rfl) (ev1 rfl) rfl (fun _ => rfl) (fun _ => by omega)) ?_
      refine walk_s rfl rfl (op_stx0 (j := q) rfl tb108 (ev1 rfl) (ev1 rfl) rfl (by rw [rowS_len]; omega) (fun s v h => by cases h <;> exact ⟨rfl, rfl⟩)) (by simp only [upd, zaa, za]; exact rfl) ?_
      refine zae ?_
      refine ⟨sn ++ [p], [0, 1, 2, 3, 4, 5, 6], hI, by simp only [List.length_append, List.length_cons, List.length_nil] at hle2 ⊢; omega, rfl, ⟨rfl, rfl, trivial⟩, ⟨rfl, rowS_fits hr.nl (by rw [rowS_step hs.nd hq hnp (by omega), if_pos hne]) rfl rfl, ptN_mpd rfl rfl rfl rfl, rfl, rfl, rfl, rfl, trivial⟩⟩
    · have hne : ¬ s.2[p]? ≠ ts[q]? := by rw [getq (by omega), getq hqt]; simpa using c2
      refine zal ?_
      refine ⟨sn ++ [p], [0, 1, 2, 3, 4, 5, 6], hI, by simp only [List.length_append, List.length_cons, List.length_nil] at hle2 ⊢; omega, rfl, ⟨rfl, rfl, trivial⟩, ⟨rfl, rowS_fits hr.nl rfl (by rw [rowS_step hs.nd hq hnp (by omega), if_neg hne]) rfl, ptN_mpd rfl rfl rfl rfl, rfl, rfl, rfl, rfl, trivial⟩⟩
theorem sb_ptNm {τ : List Nat} {ks : List Int} {f g n : Nat} (hp : τ[f]? = some g) : sbB τ (.mpd ks (ptN f n)) = some (.mpd ks (ptN g n)) := by
  have h : ∀ r : List Nat, sbL τ (r.map fun k => D.floc f k 0) = some (r.map fun k => D.floc g k 0) := fun r => by
    induction r with
    | nil => rfl
    | cons a r ih =>
      rw [List.map_cons, sbL, ih]
      have : sb τ (.floc f a 0) = some (.floc g a 0) := by unfold sb; rw [hp]; rfl
      rw [this]; rfl
  show (sbL τ _).map _ = _
  rw [h]; rfl
theorem FromCv.nl {I : Nat → Prop} {w h : Int} {ds : List D} {ts us : List TL} {d : D} (hr : RowOk ds ts) (hl : us.length = ts.length) (hf : FromCv I w h ds ts us d) : d.nl = true := by
  obtain ⟨ps, hp, rfl⟩ := hf
  rfl
set_option maxRecDepth 4000 in
set_option maxHeartbeats 1000000 in
theorem clonePt_d (ds : List D) (ts : List TL) (hr : RowOk ds ts) (h1 : 1 ≤ ts.length) (hn : ts.length ≤ 5000) : DFun Tryz.prog 89 [.slm 1 ds.length ds] [] (.arr 0) [.arx 108 1 ds.length ds] := by
  have hdl := hr.len
  refine zan (N := 8) 0 (by kernel_rfl) Tryz.func89 rfl rfl rfl (by simp only [fr0, Nat.zero_add, Nat.reduceAdd]; exact rfl) rfl fun s0 hs0 => ?_
  refine dwp_lenm (t := 0) rfl fun hl0 hL0 => ?_
  refine zaf ?_
  refine zac ?_
  refine zab rfl rfl rfl (zad (.inr rfl) (ev1 rfl)) ?_
  refine zae ?_
  refine zaf ?_
  refine zaf ?_
  refine zac ?_
  refine zab rfl rfl rfl (zad (.inl rfl) (ev1 rfl)) ?_
  refine walk_nilm? rfl rfl rfl rfl sl82 (ev1 rfl) fun nb4 hnb4 => ?_
  refine zae ?_
  refine dwp_cond rfl (fun c1 => ?_) (fun c1 => ?_)
  · exact absurd (hnb4 c1).1 (by omega)
  · try simp only [decide_eq_true_eq, decide_eq_false_iff_not, beq_iff_eq, bne_iff_ne, beq_eq_false_iff_ne, bne_eq_false_iff_eq, Bool.not_eq_true', Bool.not_eq_false', Bool.and_eq_true, Bool.or_eq_true, Bool.or_eq_false_iff, ne_eq, Decidable.not_not, Int.not_lt, Int.not_le] at c1
    refine zal ?_
    refine zaf ?_
    refine zah 2 (by simp only [holes, List.cons_append, List.nil_append]; exact rfl) ?_
    refine zac ?_
    refine zaj rfl rfl rfl (op_bsx (ps := []) 0 (fun s d v hd hr => by simp at hd) rfl sl82 zr108 rfl en (by decide) rfl) (by simp only [upd, zaa, za]; exact rfl) ?_
    refine zab rfl rfl rfl (zad (.inl rfl) (ev1 rfl)) ?_
    refine zaj rfl rfl rfl (op_appr (j := 1) rfl sl82 zr108 rfl (ev1 rfl) (ev1 rfl) rfl rfl (hr.oc) (fun _ => ⟨by omega, by omega⟩)) (by simp only [upd, zaa, za]; exact rfl) ?_
    refine zab rfl rfl rfl (zad (.inr rfl) (ev1 rfl)) ?_
    refine zae ?_
    refine dwp_ret ?_
    refine kend [1] (rs1 rfl (rv_t rfl)) rfl rfl ?_ ⟨?_, trivial⟩
    rfl
    exact arxn_fits hr.nl (Nat.zero_add _) rfl
set_option maxRecDepth 4000 in
set_option maxHeartbeats 1000000 in
theorem with_i (w h : Int) (ds : List D) (ts : List TL) (hr : RowOk ds ts) (hc : CvOk w h ts) (l : List Dt) : DFunI Tryz.prog 70 [cvD w h ds, .slf 6 l.length (l.flatMap dtC)] [] (fun I => FromCv I w h ds ts (putsC w h ts l)) [] := by
  have hle := hc.le
  have hdl := hr.len
  refine dcallsI_go (N := 42) 0 (by kernel_rfl) Tryz.func70 rfl rfl rfl (by simp only [fr0, Nat.zero_add, Nat.reduceAdd]; exact rfl) rfl fun s0 hs0 => ?_
  refine dwp_len (t := 1) rfl fun hl1 hL1 => ?_
  refine zaf ?_
  refine zac ?_
  refine zab rfl rfl rfl (zad (.inr rfl) (ev1 rfl)) ?_
  refine zae ?_
  refine zaf ?_
  refine zaf ?_
  refine zac ?_
  refine zab rfl rfl rfl (zad (.inl rfl) (ev1 rfl)) ?_
  refine zab rfl rfl rfl (op_pnilm rfl pt29 (ev1 rfl)) ?_
  refine zae ?_
  refine dwp_if_f rfl (rfl) ?_
  refine zal ?_
  refine zaf ?_
  refine zah 5 (by simp only [holes, List.cons_append, List.nil_append]; exact rfl) ?_
  refine dwp_draw [([], []), ([], []), ([], []), ([], []), ([], []), ([], []), ([], []), ([], []), ([0, 1], [0, 1]), ([], []), ([], []), ([], []), ([], []), ([2], [2]), ([3], [3]), ([3], []), ([4], [4]), ([], [])] mixed (by kernel_rfl) ?_
  refine zag rfl rfl (zad (.inl rfl) (ev1 rfl)) ?_
  refine zag rfl rfl (op_nc rfl (ev1 rfl) (fun s v h => by cases h; exact ⟨_, rfl⟩)) ?_
  refine zag rfl rfl (op_fadm rfl fo84_0 (ev1 rfl)) ?_
  refine zag rfl rfl (op_lddv [_, _] rfl tb81 (ev1 rfl) rfl rfl) ?_
  refine zag rfl rfl (zad (.inl rfl) (ev1 rfl)) ?_
  refine zag rfl rfl (op_nc rfl (ev1 rfl) (fun s v h => by cases h; exact ⟨_, rfl⟩)) ?_
  refine zag rfl rfl (op_fadm rfl fo84_0 (ev1 rfl)) ?_
  refine zag rfl rfl (op_lddv [_, _] rfl tb81 (ev1 rfl) rfl rfl) ?_
  refine lex_w rfl rfl (zai [] [] [0, 1] rfl (ev1 rfl) (ec (ev1 rfl) en) rfl rfl (sasks_d w h hc.may) rfl rfl rfl rfl rfl rfl) rfl (by simp only [upd, zaa, za]; exact rfl) ?_
  refine zag rfl rfl (zad (.inl rfl) (ev1 rfl)) ?_
  refine zag rfl rfl (op_nc rfl (ev1 rfl) (fun s v h => by cases h; exact ⟨_, rfl⟩)) ?_
  refine zag rfl rfl (op_fadm rfl fo84_1 (ev1 rfl)) ?_
  refine zag rfl rfl (op_lddm rfl tb82 (ev1 rfl) rfl) ?_
  refine lex_w rfl rfl (zai [] [] [2] rfl (ev1 rfl) (ec (ev1 rfl) en) rfl rfl (clonePt_d ds ts hr hle.2 (by omega)) rfl rfl rfl (by exact (wrc (sb_arxn hr.nl) rfl)) rfl rfl) rfl (by simp only [upd, zaa, za]; exact rfl) ?_
  refine lex_w rfl rfl (op_mkd 3 rfl rfl) rfl (by simp only [upd, zaa, za]; exact rfl) ?_
  refine zag rfl rfl (op_bldDh (ps := [(0, .tmp 14), (1, .tmp 19), (2, .tmp 24), (3, .tmp 25)]) 3 rfl fl151 zr151 (ec (ev1 rfl) (ec (ev1 rfl) (ec (ev1 rfl) (ec (ev1 rfl) en)))) rfl rfl rfl rfl) ?_
  refine lex_w rfl rfl (op_boxam 4 rfl (ev1 rfl) rfl) rfl (by simp only [upd, zaa, za]; exact rfl) ?_
  refine zag rfl rfl (zad (.inr rfl) (ev1 rfl)) ?_
  refine lex_nil ?_
  refine zaf ?_
  refine zac ?_
  refine zab rfl rfl rfl (zad (.inl rfl) (ev1 rfl)) ?_
  refine zab rfl rfl rfl (op_mkf rfl (ec (ev1 rfl) en) en) ?_
  refine zab rfl rfl rfl (zad (.inr rfl) (ev1 rfl)) ?_
  refine zae ?_
  refine zaf ?_
  refine zaf ?_
  refine dwp_hole ?_
  refine dwp_fam 5 rfl (by simp only [List.cons_append, List.nil_append, zaa, za]; exact rfl) ?_
  refine zac ?_
  refine zab rfl rfl rfl (zad (.inl rfl) (ev1 rfl)) ?_
  refine zab rfl rfl rfl (op_len rfl sl128 (ev1 rfl)) ?_
  refine zab rfl rfl rfl (zad (.inl rfl) (ev1 rfl)) ?_
  refine zae ?_
  refine zak ?_
  refine dwp_loopS ⟨hs0, rfl⟩ (α := Nat) (fun k => [(32, .val (.int .i64 (k : Int)))]) [(5, _), (6, _), (30, _), (31, _)] (fun k => [(3, .mpd (kI (dotsS w h ts (l.take k)).1) (ptN 5 (dotsS w h ts (l.take k)).2.length)), (5, .fam (tlM (dotsS w h ts (l.take k)).2))]) [_, _, _, .hole, _, .hole] (fun k => k ≤ l.length) (fun k => l.length - k) 0 [0, 1, 2, 3, 4, 5] (Nat.zero_le _) rfl ⟨rfl, rfl, rfl, rfl, trivial⟩ ⟨rfl, trivial⟩ ⟨rfl, rfl, arxd_fits hr, rfl, rfl, rfl, trivial⟩ ?_
  intro k hx
  simp only [upd, zaa, za, List.cons_append, List.nil_append]
  have hk := hx
  have hs := dotsS_ok hc (l.take k) ts _ (dotOk_nil ts)
  refine zaf ?_
  refine zac ?_
  refine zab rfl rfl rfl (op_lss rfl (ev1 rfl) (ev1 rfl)) ?_
  refine zae ?_
  refine zaf ?_
  refine dwp_cond rfl (fun c2 => ?_) (fun c2 => ?_)
  · try simp only [decide_eq_true_eq, decide_eq_false_iff_not, beq_iff_eq, bne_iff_ne, beq_eq_false_iff_ne, bne_eq_false_iff_eq, Bool.not_eq_true', Bool.not_eq_false', Bool.and_eq_true, Bool.or_eq_true, Bool.or_eq_false_iff, ne_eq, Decidable.not_not, Int.not_lt, Int.not_le] at c2
    refine zal ?_
    refine zaf ?_
    refine zak ?_
    refine zaf ?_
    refine zah 1 (by simp only [holes, List.cons_append, List.nil_append]; exact rfl) ?_
    refine zac ?_
    refine zab rfl rfl rfl (op_ixsr (j := k) rfl sl128 (ev1 rfl) (ev1 rfl) (fun _ => rfl) (by decide) (by omega) (by omega)) ?_
    refine zab rfl rfl rfl (op_ldwd rfl tb131 (ev1 rfl) rfl) ?_
    refine zaj rfl rfl rfl (op_alloc 6 rfl zr131 rfl) (by simp only [upd, zaa, za]; exact rfl) ?_
    refine walk_s rfl rfl (op_stwa rfl tb131 (ev1 rfl) (ev1 rfl) rfl rfl rfl rfl) (by simp only [upd, zaa, za]; exact rfl) ?_
    refine zae ?_
    refine zac ?_
    refine zab rfl rfl rfl (zad (.inl rfl) (ev1 rfl)) ?_
    refine zab rfl rfl rfl (op_ldw rfl tb131 (ev1 rfl) rfl rfl) ?_
    refine zaj rfl rfl rfl (zai [4, 2, 3, 5, 0, 1] [] [] rfl (ev1 rfl) (ec (ev1 rfl) en) rfl (by exact mfits _ _ ⟨rfl, arxd_fits hr, ptN_mpd rfl rfl rfl rfl, rfl, rfl, rfl, trivial⟩) (dot_d w h ds ts _ hr hc (dotsS w h ts (l.take k)) hs l[k]) rfl rfl rfl (by exact (wrc rfl (wrc (sb_arxn hr.nl) (wrc (sb_ptNm rfl) (wrc rfl (wrc rfl (wrc rfl rfl))))))) rfl rfl) (by simp only [upd, zaa, za]; exact rfl) ?_
    refine zae ?_
    refine zac ?_
    refine zab rfl rfl rfl (op_add' rfl (ev1 rfl) (ev1 rfl) (fun _ => IntWalk.i64_in _ (by omega))) ?_
    refine zab rfl rfl rfl (zad (.inl rfl) (ev1 rfl)) ?_
    refine zae ?_
    refine ⟨k + 1, [0, 1, 2, 3, 4, 5], by omega, by simp only []; omega, rfl, ⟨rfl, rfl, rfl, rfl, rfl, trivial⟩, ⟨rfl, rfl, arxd_fits hr, ptN_mpd (by rw [dotsS_take (by omega)]) rfl (by rw [dotsS_take (by omega)]) rfl, rfl, by rw [dotsS_take (by omega)]; rfl, trivial⟩⟩
  · try simp only [decide_eq_true_eq, decide_eq_false_iff_not, beq_iff_eq, bne_iff_ne, beq_eq_false_iff_ne, bne_eq_false_iff_eq, Bool.not_eq_true', Bool.not_eq_false', Bool.and_eq_true, Bool.or_eq_true, Bool.or_eq_false_iff, ne_eq, Decidable.not_not, Int.not_lt, Int.not_le] at c2
    refine dwp_exit ?_
    refine zaf ?_
    rw [List.take_of_length_le (by omega)] at *
    refine zac ?_
    refine zab rfl rfl rfl (zad (.inl rfl) (ev1 rfl)) ?_
    refine walk_i rfl rfl rfl (dop_callI [4, 2, 3, 5, 0, 1] [] rfl (ev1 rfl) (ec (ev1 rfl) en) rfl (by exact mfits _ _ ⟨rfl, arxd_fits hr, ptN_mpd rfl rfl rfl rfl, rfl, rfl, rfl, trivial⟩) (done_i w h ds ts _ hr hc _ (dotsS_ok hc l ts _ (dotOk_nil ts))) rfl rfl rfl rfl (fun I d hf => hf.nl hr (putsC_len ..))) (by simp only [upd, zaa, za]; exact rfl) ?_
    rintro I _ hI hP ⟨ps, h1, rfl⟩
    refine zab rfl rfl rfl (zad (.inr rfl) (ev1 rfl)) ?_
    refine zae ?_
    refine dwp_ret ?_
    refine kendI (post := fun I => FromCv I w h ds ts (putsC w h ts l)) (I := s0.I) (Mo := []) [] (rs1 rfl (rv_t rfl)) rfl rfl ?_ trivial
    exact ⟨ps, ⟨h1.len, h1.eq, fun q t h2 h3 => let ⟨b, h4, h5⟩ := h1.ne q t h2 h3; ⟨b, fun h6 => h4 (hI b h6), h5⟩⟩, rfl⟩
end Go.Proofs.YtfnhckildfbikaaGreat
namespace Go.Proofs.YtfnhckildfbikaaGreat
set_option maxRecDepth 4000
set_option linter.unusedVariables false
set_option linter.unusedSimpArgs false
open Go.RowKit
theorem fl131 : fdL Tryz.prog 131 = some [(0, 1), (1, 1), (2, 4)] := by kernel_rfl
theorem with_d (w h : Int) (ds : List D) (ts : List TL) (hr : RowOk ds ts) (hc : CvOk w h ts) (l : List Dt) : DFun Tryz.prog 70 [cvD w h ds, .slf 6 l.length (l.flatMap dtC)] [] (cvD w h (dpR (putsC w h ts l))) [] :=
  (with_i w h ds ts hr hc l).fun fun I d hf => by
    obtain ⟨ps, h1, rfl⟩ := hf
    exact (h1.ok hr (putsC_len ..)).wkd w h
set_option maxRecDepth 4000 in
set_option maxHeartbeats 1000000 in
theorem set1_d (p : P2) (c : C4) : DFun Tryz.prog 72 [.val (.agg (p2 p).toArray), .dpf (c4 c)] [] (.val (.agg (dtC ⟨p.x, p.y, c⟩).toArray)) [] := by
  refine zan (N := 10) 0 (by kernel_rfl) Tryz.func72 rfl rfl rfl (by simp only [fr0, Nat.zero_add, Nat.reduceAdd]; exact rfl) rfl fun s0 hs0 => ?_
  refine zaf ?_
  refine zah 2 (by simp only [holes, List.cons_append, List.nil_append]; exact rfl) ?_
  refine zac ?_
  refine zaj rfl rfl rfl (op_boxa 0 rfl (ev1 rfl) rfl) (by simp only [upd, zaa, za]; exact rfl) ?_
  refine zaj rfl rfl rfl (op_alloc 1 rfl zr131 rfl) (by simp only [upd, zaa, za]; exact rfl) ?_
  refine zae ?_
  refine zaf ?_
  refine zac ?_
  refine zab rfl rfl rfl (op_fa rfl fo26_0 (ev1 rfl)) ?_
  refine zab rfl rfl rfl (op_ldo rfl tb3 (ev1 rfl) rfl rfl) ?_
  refine zab rfl rfl rfl (op_fa rfl fo26_1 (ev1 rfl)) ?_
  refine zab rfl rfl rfl (op_ldo rfl tb3 (ev1 rfl) rfl rfl) ?_
  refine zab rfl rfl rfl (op_ldwd rfl tb44 (ev1 rfl) rfl) ?_
  refine zab rfl rfl rfl (op_build (ps := [(0, .tmp 5), (1, .tmp 7), (2, .tmp 8)]) rfl fl131 zr131 (vc (ev1 rfl) (vc (ev1 rfl) (vc (ev1 rfl) vn))) rfl rfl) ?_
  refine walk_s rfl rfl (op_stwa rfl tb131 (ev1 rfl) (ev1 rfl) rfl rfl rfl rfl) (by simp only [upd, zaa, za]; exact rfl) ?_
  refine zae ?_
  refine dwp_ret ?_
  refine kend0 (rs1 rfl (rv_w tb131 rfl rfl rfl)) rfl ?_
  rfl
def dtsC (c : C4) (l : List P2) : List Dt := l.map fun p => ⟨p.x, p.y, c⟩
theorem dtsC_len (c : C4) (l : List P2) : (dtsC c l).length = l.length := by simp [dtsC]
theorem dtsC_add {c : C4} {l : List P2} {k : Nat} (h : k < l.length) : dtsC c (l.take (k + 1)) = dtsC c (l.take k) ++ [⟨l[k].x, l[k].y, c⟩] := by rw [List.take_succ_eq_append_getElem h, dtsC, dtsC, List.map_append]; rfl
set_option maxRecDepth 4000 in
set_option maxHeartbeats 1000000 in
theorem each3_d (l : List P2) (c : C4) (hn : l.length ≤ 5000) : DFun Tryz.prog 71 [.slf 2 l.length (l.flatMap p2), .fn (.func 72) [] [.dpf (c4 c)]] [] (.slf 6 (dtsC c l).length ((dtsC c l).flatMap dtC)) [] := by
  refine zan (N := 25) 0 (by kernel_rfl) Tryz.func71 rfl rfl rfl (by simp only [fr0, Nat.zero_add, Nat.reduceAdd]; exact rfl) rfl fun s0 hs0 => ?_
  refine dwp_len (t := 0) rfl fun hl0 hL0 => ?_
  refine zaf ?_
  refine zac ?_
  refine zab rfl rfl rfl (zad (.inr rfl) (ev1 rfl)) ?_
  refine zae ?_
  refine zaf ?_
  refine zah 1 (by simp only [holes, List.cons_append, List.nil_append]; exact rfl) ?_
  refine zac ?_
  refine zab rfl rfl rfl (zad (.inl rfl) (ev1 rfl)) ?_
  refine zab rfl rfl rfl (op_len rfl sl55 (ev1 rfl)) ?_
  refine zaj rfl rfl rfl (op_mk0 0 (l.length) rfl sl128 zr131 (ev1 rfl) (ev1 rfl) (fun _ => rfl) (fun _ => by omega) rfl (fun _ => ⟨by omega, by omega⟩)) (by simp only [upd, zaa, za]; exact rfl) ?_
  refine zab rfl rfl rfl (zad (.inr rfl) (ev1 rfl)) ?_
  refine zae ?_
  refine zaf ?_
  refine zaf ?_
  refine zac ?_
  refine zab rfl rfl rfl (zad (.inl rfl) (ev1 rfl)) ?_
  refine zab rfl rfl rfl (op_len rfl sl55 (ev1 rfl)) ?_
  refine zab rfl rfl rfl (zad (.inl rfl) (ev1 rfl)) ?_
  refine zae ?_
  refine zak ?_
  refine dwp_loopS ⟨hs0, rfl⟩ (α := Nat) (fun k => [(13, .val (.int .i64 (k : Int)))]) [(1, _), (5, _), (11, _), (12, _)] (fun k => [(0, .arr 131 6 (dtsC c (l.take k)).length ((dtsC c (l.take k)).flatMap dtC))]) [.hole] (fun k => k ≤ l.length) (fun k => l.length - k) 0 [0] (Nat.zero_le _) rfl ⟨rfl, rfl, rfl, rfl, trivial⟩ ⟨rfl, trivial⟩ ⟨rfl, trivial⟩ ?_
  intro k hx
  simp only [upd, zaa, za, List.cons_append, List.nil_append]
  have hk := hx
  have htl : (dtsC c (l.take k)).length = k := by rw [dtsC_len, List.length_take]; omega
  refine zaf ?_
  refine zac ?_
  refine zab rfl rfl rfl (op_lss rfl (ev1 rfl) (ev1 rfl)) ?_
  refine zae ?_
  refine zaf ?_
  refine dwp_cond rfl (fun c1 => ?_) (fun c1 => ?_)
  · try simp only [decide_eq_true_eq, decide_eq_false_iff_not, beq_iff_eq, bne_iff_ne, beq_eq_false_iff_ne, bne_eq_false_iff_eq, Bool.not_eq_true', Bool.not_eq_false', Bool.and_eq_true, Bool.or_eq_true, Bool.or_eq_false_iff, ne_eq, Decidable.not_not, Int.not_lt, Int.not_le] at c1
    refine zal ?_
    refine zaf ?_
    refine zak ?_
    refine zaf ?_
    refine zah 1 (by simp only [holes, List.cons_append, List.nil_append]; exact rfl) ?_
    refine zac ?_
    refine zab rfl rfl rfl (op_ixsr (j := k) rfl sl55 (ev1 rfl) (ev1 rfl) (fun _ => rfl) (by decide) (by omega) (by omega)) ?_
    refine zab rfl rfl rfl (op_ldwd rfl tb26 (ev1 rfl) rfl) ?_
    refine zaj rfl rfl rfl (op_alloc 1 rfl zr26 rfl) (by simp only [upd, zaa, za]; exact rfl) ?_
    refine walk_s rfl rfl (op_stwa rfl tb26 (ev1 rfl) (ev1 rfl) rfl rfl rfl rfl) (by simp only [upd, zaa, za]; exact rfl) ?_
    refine zae ?_
    refine zah 2 (by simp only [holes, List.cons_append, List.nil_append]; exact rfl) ?_
    refine zac ?_
    refine zab rfl rfl rfl (zad (.inl rfl) (ev1 rfl)) ?_
    refine zab rfl rfl rfl (zad (.inl rfl) (ev1 rfl)) ?_
    refine zab rfl rfl rfl (op_ldw rfl tb26 (ev1 rfl) rfl rfl) ?_
    refine zab rfl rfl rfl (zai [] [] [] rfl (ev1 rfl) (ec (ev1 rfl) en) rfl rfl (set1_d l[k] c) rfl rfl rfl rfl rfl rfl) ?_
    refine zaj rfl rfl rfl (op_bsa (ps := [(0, .tmp 20)]) 2 rfl sl128 zr131 rfl (vc (ev1 rfl) vn) rfl (by decide) (by decide) rfl) (by simp only [upd, zaa, za]; exact rfl) ?_
    refine zaj rfl rfl rfl (op_app (j := 3) rfl sl128 zr131 rfl (ev1 rfl) (ev1 rfl) (src_arr rfl) rfl rfl (fun _ => rfl) (fun _ => ⟨by omega, by omega⟩)) (by simp only [upd, zaa, za]; exact rfl) ?_
    refine zab rfl rfl rfl (zad (.inr rfl) (ev1 rfl)) ?_
    refine zae ?_
    refine zac ?_
    refine zab rfl rfl rfl (op_add' rfl (ev1 rfl) (ev1 rfl) (fun _ => IntWalk.i64_in _ (by omega))) ?_
    refine zab rfl rfl rfl (zad (.inl rfl) (ev1 rfl)) ?_
    refine zae ?_
    refine ⟨k + 1, [3], by omega, by simp only []; omega, rfl, ⟨rfl, rfl, rfl, rfl, rfl, trivial⟩, ⟨arr_eq (by rw [dtsC_add (by omega), List.length_append]; rfl) (by rw [dtsC_add (by omega), List.flatMap_append]; rfl), trivial⟩⟩
  · try simp only [decide_eq_true_eq, decide_eq_false_iff_not, beq_iff_eq, bne_iff_ne, beq_eq_false_iff_ne, bne_eq_false_iff_eq, Bool.not_eq_true', Bool.not_eq_false', Bool.and_eq_true, Bool.or_eq_true, Bool.or_eq_false_iff, ne_eq, Decidable.not_not, Int.not_lt, Int.not_le] at c1
    refine dwp_exit ?_
    refine zaf ?_
    refine dwp_giveA 5 rfl rfl (by simp only [zaa, za]; exact rfl) ?_
    refine zac ?_
    refine zab rfl rfl rfl (zad (.inl rfl) (ev1 rfl)) ?_
    refine zab rfl rfl rfl (zad (.inr rfl) (ev1 rfl)) ?_
    refine zae ?_
    refine dwp_ret ?_
    rw [List.take_of_length_le (by omega)]
    refine kend0 (rs1 rfl (rv_t rfl)) rfl ?_
    rfl
set_option maxRecDepth 4000 in
set_option maxHeartbeats 1000000 in
theorem set_d (w h : Int) (ds : List D) (ts : List TL) (hr : RowOk ds ts) (hc : CvOk w h ts) (c : C4) (l : List P2) (hn : l.length ≤ 5000) : DFun Tryz.prog 39 [cvD w h ds, .val (.agg (c4 c).toArray), .slf 2 l.length (l.flatMap p2)] [] (cvD w h (dpR (putsC w h ts (dtsC c l)))) [] := by
  refine zan (N := 12) 0 (by kernel_rfl) Tryz.func39 rfl rfl rfl (by simp only [fr0, Nat.zero_add, Nat.reduceAdd]; exact rfl) rfl fun s0 hs0 => ?_
  refine dwp_len (t := 2) rfl fun hl2 hL2 => ?_
  refine zaf ?_
  refine zah 1 (by simp only [holes, List.cons_append, List.nil_append]; exact rfl) ?_
  refine zac ?_
  refine zaj rfl rfl rfl (op_boxa 0 rfl (ev1 rfl) rfl) (by simp only [upd, zaa, za]; exact rfl) ?_
  refine zab rfl rfl rfl (zad (.inr rfl) (ev1 rfl)) ?_
  refine zae ?_
  refine zaf ?_
  refine dwp_view ⟨hs0, rfl⟩ [] [0] [(0, _), (2, _), (4, _)] [] rfl ⟨rfl, rfl, rfl, trivial⟩ trivial ?_
  refine zac ?_
  refine zab rfl rfl rfl (zad (.inl rfl) (ev1 rfl)) ?_
  refine zab rfl rfl rfl (zad (.inl rfl) (ev1 rfl)) ?_
  refine zab rfl rfl rfl (op_mkf rfl en (ec (ev1 rfl) en)) ?_
  refine zab rfl rfl rfl (zai [] [] [] rfl (ev1 rfl) (ec (ev1 rfl) (ec (ev1 rfl) en)) rfl rfl (each3_d l c hn) rfl rfl rfl rfl rfl rfl) ?_
  refine zab rfl rfl rfl (zai [] [] [] rfl (ev1 rfl) (ec (ev1 rfl) (ec (ev1 rfl) en)) rfl rfl (with_d w h ds ts hr hc (dtsC c l)) rfl rfl rfl rfl rfl rfl) ?_
  refine zab rfl rfl rfl (zad (.inr rfl) (ev1 rfl)) ?_
  refine zae ?_
  refine dwp_ret ?_
  refine kend0 (rs1 rfl (rv_t rfl)) rfl ?_
  rfl
def D.adr : D → Nat
  | .pin b _ => b
  | _ => 0
def Pins (l : List D) : Prop := ∀ d ∈ l, ∃ b L, d = .pin b L
theorem Pins.at {l : List D} (h : Pins l) {k : Nat} (hk : k < l.length) : ∃ L, l[k] = .pin l[k].adr L := by
  obtain ⟨b, L, e⟩ := h l[k] (List.getElem_mem hk)
  rw [e]
  exact ⟨L, rfl⟩
end Go.Proofs.YtfnhckildfbikaaGreat
namespace Go.Proofs.YtfnhckildfbikaaGreat
set_option maxRecDepth 4000
set_option linter.unusedVariables false
set_option linter.unusedSimpArgs false
open Go.RowKit
theorem eq44 {a b : C4} : eqT Tryz.prog 9 44 (c4 a) (c4 b) = some (decide (a = b)) := by
  rw [← eqC_iff]
  exact (show eqT Tryz.prog 9 44 [.int .u8 a.r, .int .u8 a.g, .int .u8 a.b, .int .u8 a.a] [.int .u8 b.r, .int .u8 b.g, .int .u8 b.b, .int .u8 b.a] = some (eqC a b) by kernel_rfl)
theorem gd44 : Tryz.prog.eqGuardType Tryz.prog.depth 44 = false := by kernel_rfl
theorem tb29 : tyB Tryz.prog 29 = some (false, 1) := by kernel_rfl
theorem tb55 : tyB Tryz.prog 55 = some (false, 1) := by kernel_rfl
theorem zr55 : zrC Tryz.prog 55 = some [.slice none 0 0] := by kernel_rfl
abbrev rowP (l : List P2) : Mem := .arr 26 2 l.length (l.flatMap p2)
def fmP (l : List P2) : List Mem := List.replicate l.length .gone ++ [rowP l]
theorem fmP_at (l : List P2) : (fmP l)[l.length]? = some (rowP l) := by
  unfold fmP
  rw [List.getElem?_append_right (by simp)]
  simp
theorem fmP_len (l : List P2) : (fmP l).length = (l.length) + 1 := by simp [fmP]
theorem fmP_add (l : List P2) (p : P2) : (fmP l).set l.length .gone ++ [Mem.arr 26 2 (l.length + 1) (l.flatMap p2 ++ p2 p)] = fmP (l ++ [p]) := by
  unfold fmP
  rw [List.set_append_right _ _ (by simp), List.length_append, List.length_replicate, Nat.sub_self, show l.length + [p].length = l.length + 1 from rfl, List.replicate_succ']
  simp [rowP, List.flatMap_append]
end Go.Proofs.YtfnhckildfbikaaGreat
namespace Go.Proofs.YtfnhckildfbikaaGreat
set_option maxRecDepth 4000
set_option linter.unusedVariables false
set_option linter.unusedSimpArgs false
open Go.RowKit
theorem ar134 : arE Tryz.prog 134 = some (4, 1) := by kernel_rfl
theorem fo44_0 : fdO Tryz.prog 44 0 = some 0 := by kernel_rfl
theorem fo44_1 : fdO Tryz.prog 44 1 = some 1 := by kernel_rfl
theorem fo44_2 : fdO Tryz.prog 44 2 = some 2 := by kernel_rfl
theorem fo44_3 : fdO Tryz.prog 44 3 = some 3 := by kernel_rfl
theorem tb134 : tyB Tryz.prog 134 = some (true, 4) := by kernel_rfl
theorem tb5 : tyB Tryz.prog 5 = some (false, 1) := by kernel_rfl
theorem zr134 : zrC Tryz.prog 134 = some [.int .u8 0, .int .u8 0, .int .u8 0, .int .u8 0] := by kernel_rfl
def C4.rng (c : C4) : Prop := (0 ≤ c.r ∧ c.r ≤ 255) ∧ (0 ≤ c.g ∧ c.g ≤ 255) ∧ (0 ≤ c.b ∧ c.b ≤ 255) ∧ 0 ≤ c.a ∧ c.a ≤ 255
theorem zC4_rng : zC4.rng := by unfold C4.rng zC4; decide
set_option maxRecDepth 4000 in
set_option maxHeartbeats 1000000 in
theorem partsOf_d (u : C4) : DFun Tryz.prog 74 [.val (.agg #[.int .u8 u.r, .int .u8 u.g, .int .u8 u.b, .int .u8 u.a])] [] (.val (.agg #[.int .u8 u.r, .int .u8 u.g, .int .u8 u.b, .int .u8 u.a])) [] := by
  refine zan (N := 12) 0 (by kernel_rfl) Tryz.func74 rfl rfl rfl (by simp only [fr0, Nat.zero_add, Nat.reduceAdd]; exact rfl) rfl fun s0 hs0 => ?_
  refine zaf ?_
  refine zah 2 (by simp only [holes, List.cons_append, List.nil_append]; exact rfl) ?_
  refine zac ?_
  refine zaj rfl rfl rfl (op_boxa 0 rfl (ev1 rfl) rfl) (by simp only [upd, zaa, za]; exact rfl) ?_
  refine zaj rfl rfl rfl (op_alloc 1 rfl zr134 rfl) (by simp only [upd, zaa, za]; exact rfl) ?_
  refine zae ?_
  refine zaf ?_
  refine zac ?_
  refine zab rfl rfl rfl (op_fa rfl fo44_0 (ev1 rfl)) ?_
  refine zab rfl rfl rfl (op_ldo rfl tb5 (ev1 rfl) rfl rfl) ?_
  refine zab rfl rfl rfl (op_fa rfl fo44_1 (ev1 rfl)) ?_
  refine zab rfl rfl rfl (op_ldo rfl tb5 (ev1 rfl) rfl rfl) ?_
  refine zab rfl rfl rfl (op_fa rfl fo44_2 (ev1 rfl)) ?_
  refine zab rfl rfl rfl (op_ldo rfl tb5 (ev1 rfl) rfl rfl) ?_
  refine zab rfl rfl rfl (op_fa rfl fo44_3 (ev1 rfl)) ?_
  refine zab rfl rfl rfl (op_ldo rfl tb5 (ev1 rfl) rfl rfl) ?_
  refine zab rfl rfl rfl ((op_bldaD (ps := [(0, .tmp 4), (1, .tmp 6), (2, .tmp 8), (3, .tmp 10)]) rfl ar134 zr134 (ec (ev1 rfl) (ec (ev1 rfl) (ec (ev1 rfl) (ec (ev1 rfl) en)))) rfl rfl rfl rfl).wk (by exact Wk.aggv [.int .u8 u.r, .int .u8 u.g, .int .u8 u.b, .int .u8 u.a] : Wk _ (.val (.agg #[.int .u8 u.r, .int .u8 u.g, .int .u8 u.b, .int .u8 u.a])))) ?_
  refine walk_s rfl rfl (op_stwa rfl tb134 (ev1 rfl) (ev1 rfl) rfl rfl rfl rfl) (by simp only [upd, zaa, za]; exact rfl) ?_
  refine zae ?_
  refine dwp_ret ?_
  refine kend0 (rs1 rfl (rv_w tb134 rfl rfl rfl)) rfl ?_
  rfl
end Go.Proofs.YtfnhckildfbikaaGreat
namespace Go.Proofs.YtfnhckildfbikaaGreat
set_option maxRecDepth 4000
set_option linter.unusedVariables false
set_option linter.unusedSimpArgs false
open Go.RowKit
structure Sp where
  y : Int
  f : Int
  t : Int
deriving DecidableEq
def s3 (s : Sp) : List Value := [.int .i64 s.y, .int .i64 s.f, .int .i64 s.t]
theorem s3_len (s : Sp) : (s3 s).length = 3 := rfl
def zSp : Sp := ⟨0, 0, 0⟩
def Sp.has (s : Sp) (x y : Int) : Prop := s.y = y ∧ s.f ≤ x ∧ x ≤ s.t
instance (s : Sp) (x y : Int) : Decidable (s.has x y) := by unfold Sp.has; infer_instance
def hasS (l : List Sp) (x y : Int) : Prop := ∃ s ∈ l, s.has x y
instance (l : List Sp) (x y : Int) : Decidable (hasS l x y) := by unfold hasS; infer_instance
def apS (a s : Sp) : Prop := a.y < s.y ∨ a.y = s.y ∧ a.t + 1 < s.f
instance (a s : Sp) : Decidable (apS a s) := by unfold apS; infer_instance
def okS (l : List Sp) : Prop := (∀ s ∈ l, s.f ≤ s.t) ∧ l.Pairwise apS
theorem okS_nil : okS [] := ⟨fun s h => (List.not_mem_nil h).elim, List.Pairwise.nil⟩
theorem hasS_cons {a : Sp} {l : List Sp} {x y : Int} : hasS (a :: l) x y ↔ a.has x y ∨ hasS l x y := by
  unfold hasS
  constructor
  · rintro ⟨s, h, g⟩
    rcases List.mem_cons.1 h with rfl | h
    · exact .inl g
    · exact .inr ⟨s, h, g⟩
  · rintro (h | ⟨s, h, g⟩)
    · exact ⟨a, List.mem_cons_self .., h⟩
    · exact ⟨s, List.mem_cons_of_mem _ h, g⟩
theorem hasS_nil {x y : Int} : ¬ hasS [] x y := fun ⟨_, h, _⟩ => by cases h
theorem hasS_app {l m : List Sp} {x y : Int} : hasS (l ++ m) x y ↔ hasS l x y ∨ hasS m x y := by
  unfold hasS
  constructor
  · rintro ⟨s, h, g⟩
    rcases List.mem_append.1 h with h | h
    · exact .inl ⟨s, h, g⟩
    · exact .inr ⟨s, h, g⟩
  · rintro (⟨s, h, g⟩ | ⟨s, h, g⟩)
    · exact ⟨s, List.mem_append.2 (.inl h), g⟩
    · exact ⟨s, List.mem_append.2 (.inr h), g⟩
theorem hasS_perm {l m : List Sp} (h : l.Perm m) {x y : Int} : hasS l x y ↔ hasS m x y :=
  ⟨fun ⟨s, g, k⟩ => ⟨s, h.mem_iff.1 g, k⟩, fun ⟨s, g, k⟩ => ⟨s, h.mem_iff.2 g, k⟩⟩
theorem okS_tail {a : Sp} {l : List Sp} (h : okS (a :: l)) : okS l := ⟨fun s hs => h.1 s (List.mem_cons_of_mem _ hs), (List.pairwise_cons.1 h.2).2⟩
theorem okS_head {a : Sp} {l : List Sp} (h : okS (a :: l)) {x y : Int} (g : hasS (a :: l) x y) : a.y < y ∨ a.y = y ∧ a.f ≤ x := by
  rcases hasS_cons.1 g with ⟨h1, h2, h3⟩ | ⟨s, hs, h1, h2, h3⟩
  · exact .inr ⟨h1, h2⟩
  · have := (List.pairwise_cons.1 h.2).1 s hs
    have hv := h.1 a (List.mem_cons_self ..)
    unfold apS at this
    omega
theorem okS_apart {a : Sp} {l : List Sp} (h : okS (a :: l)) {x y : Int} (g : hasS l x y) : ¬ a.has x y ∧ ¬ (y = a.y ∧ x = a.t + 1) := by
  obtain ⟨s, hs, h1, h2, h3⟩ := g
  have := (List.pairwise_cons.1 h.2).1 s hs
  unfold apS at this
  unfold Sp.has
  omega
theorem okS_uniq : ∀ {l m : List Sp}, okS l → okS m → (∀ x y, hasS l x y ↔ hasS m x y) → l = m
  | [], [], _, _, _ => rfl
  | [], b :: m, _, hm, h => absurd ((h b.f b.y).2 (hasS_cons.2 (.inl ⟨rfl, Int.le_refl _, hm.1 b (List.mem_cons_self ..)⟩))) hasS_nil
  | a :: l, [], hl, _, h => absurd ((h a.f a.y).1 (hasS_cons.2 (.inl ⟨rfl, Int.le_refl _, hl.1 a (List.mem_cons_self ..)⟩))) hasS_nil
  | a :: l, b :: m, hl, hm, h => by
    have va := hl.1 a (List.mem_cons_self ..)
    have vb := hm.1 b (List.mem_cons_self ..)
    have h1 := okS_head hm ((h a.f a.y).1 (hasS_cons.2 (.inl ⟨rfl, Int.le_refl _, va⟩)))
    have h2 := okS_head hl ((h b.f b.y).2 (hasS_cons.2 (.inl ⟨rfl, Int.le_refl _, vb⟩)))
    have hy : a.y = b.y := by omega
    have hf : a.f = b.f := by omega
    have ht : a.t = b.t := by
      rcases Int.lt_trichotomy a.t b.t with e | e | e
      · have := (h (a.t + 1) a.y).2 (hasS_cons.2 (.inl ⟨hy.symm, by omega, by omega⟩))
        rcases hasS_cons.1 this with ⟨_, _, g⟩ | g
        · omega
        · exact absurd ⟨rfl, rfl⟩ (okS_apart hl g).2
      · exact e
      · have := (h (b.t + 1) b.y).1 (hasS_cons.2 (.inl ⟨hy, by omega, by omega⟩))
        rcases hasS_cons.1 this with ⟨_, _, g⟩ | g
        · omega
        · exact absurd ⟨rfl, rfl⟩ (okS_apart hm g).2
    obtain ⟨y1, f1, t1⟩ := a
    obtain ⟨y2, f2, t2⟩ := b
    simp only at hy hf ht
    subst hy hf ht
    congr 1
    refine okS_uniq (okS_tail hl) (okS_tail hm) fun x y => ⟨fun g => ?_, fun g => ?_⟩
    · exact (hasS_cons.1 ((h x y).1 (hasS_cons.2 (.inr g)))).resolve_left (okS_apart hl g).1
    · exact (hasS_cons.1 ((h x y).2 (hasS_cons.2 (.inr g)))).resolve_left (okS_apart hm g).1
def mergeS (out : List Sp) (s : Sp) : List Sp := match out.getLast? with
  | none => [s]
  | some a => if apS a s then out ++ [s] else out.dropLast ++ [⟨a.y, a.f, max a.t s.t⟩]
theorem mergeS_nil (s : Sp) : mergeS [] s = [s] := rfl
theorem mergeS_app (l : List Sp) (a s : Sp) : mergeS (l ++ [a]) s = if apS a s then l ++ [a] ++ [s] else l ++ [⟨a.y, a.f, max a.t s.t⟩] := by
  unfold mergeS
  rw [List.getLast?_concat, List.dropLast_concat]
def leS (a b : Sp) : Prop := a.y < b.y ∨ a.y = b.y ∧ a.f ≤ b.f
instance (a b : Sp) : Decidable (leS a b) := by unfold leS; infer_instance
theorem list_last {α : Type} (l : List α) : l = [] ∨ ∃ m a, l = m ++ [a] := by
  rcases List.eq_nil_or_concat l with h | ⟨m, a, h⟩
  · exact .inl h
  · exact .inr ⟨m, a, by simpa using h⟩
theorem mergeS_ok {out : List Sp} {s : Sp} (ho : okS out) (hs : s.f ≤ s.t) (hl : ∀ a ∈ out, leS a s) : okS (mergeS out s) ∧ (∀ x y, hasS (mergeS out s) x y ↔ hasS out x y ∨ s.has x y) ∧ ∀ b ∈ mergeS out s, leS b s := by
  rcases list_last out with rfl | ⟨l, a, rfl⟩
  · rw [mergeS_nil]
    refine ⟨⟨fun b hb => ?_, List.pairwise_singleton ..⟩, fun x y => ?_, fun b hb => ?_⟩
    · obtain rfl := List.mem_singleton.1 hb; exact hs
    · rw [hasS_cons]; constructor
      · rintro (h | h)
        · exact .inr h
        · exact absurd h hasS_nil
      · rintro (h | h)
        · exact absurd h hasS_nil
        · exact .inl h
    · obtain rfl := List.mem_singleton.1 hb; exact .inr ⟨rfl, Int.le_refl _⟩
  · rw [mergeS_app]
    obtain ⟨hv, hp⟩ := ho
    obtain ⟨p1, p2, p3⟩ := List.pairwise_append.1 hp
    have hla := hl a (by simp)
    have hva := hv a (by simp)
    by_cases e : apS a s
    · rw [if_pos e]
      refine ⟨⟨fun b hb => ?_, ?_⟩, fun x y => ?_, fun b hb => ?_⟩
      · rcases List.mem_append.1 hb with h | h
        · exact hv b h
        · obtain rfl := List.mem_singleton.1 h; exact hs
      · refine List.pairwise_append.2 ⟨hp, List.pairwise_singleton .., fun b hb c hc => ?_⟩
        obtain rfl := List.mem_singleton.1 hc
        rcases List.mem_append.1 hb with h | h
        · have := p3 b h a (by simp)
          unfold apS at *
          omega
        · obtain rfl := List.mem_singleton.1 h; exact e
      · rw [hasS_app, hasS_cons]
        constructor
        · rintro (h | h | h)
          · exact .inl h
          · exact .inr h
          · exact absurd h hasS_nil
        · rintro (h | h)
          · exact .inl h
          · exact .inr (.inl h)
      · rcases List.mem_append.1 hb with h | h
        · exact hl b h
        · obtain rfl := List.mem_singleton.1 h; exact .inr ⟨rfl, Int.le_refl _⟩
    · rw [if_neg e]
      have e1 : a.y = s.y := by unfold leS at hla; unfold apS at e; omega
      have e2 : s.f ≤ a.t + 1 := by unfold apS at e; omega
      have e3 : a.f ≤ s.f := by unfold leS at hla; omega
      refine ⟨⟨fun b hb => ?_, ?_⟩, fun x y => ?_, fun b hb => ?_⟩
      · rcases List.mem_append.1 hb with h | h
        · exact hv b (by simp [h])
        · obtain rfl := List.mem_singleton.1 h; show a.f ≤ max a.t s.t; omega
      · refine List.pairwise_append.2 ⟨p1, List.pairwise_singleton .., fun b hb c hc => ?_⟩
        obtain rfl := List.mem_singleton.1 hc
        exact p3 b hb a (by simp)
      · rw [hasS_app, hasS_app, hasS_cons, hasS_cons]
        have n : ¬ hasS [] x y := hasS_nil
        have k : Sp.has ⟨a.y, a.f, max a.t s.t⟩ x y ↔ a.has x y ∨ s.has x y := by unfold Sp.has; show a.y = y ∧ a.f ≤ x ∧ x ≤ max a.t s.t ↔ _; omega
        rw [k]
        constructor
        · rintro (h | (h | h) | h)
          · exact .inl (.inl h)
          · exact .inl (.inr (.inl h))
          · exact .inr h
          · exact absurd h n
        · rintro ((h | h | h) | h)
          · exact .inl h
          · exact .inr (.inl (.inl h))
          · exact absurd h n
          · exact .inr (.inl (.inr h))
      · rcases List.mem_append.1 hb with h | h
        · exact hl b (by simp [h])
        · obtain rfl := List.mem_singleton.1 h; exact .inr ⟨e1, e3⟩
theorem leS_trans {a b c : Sp} (h : leS a b) (k : leS b c) : leS a c := by unfold leS at *; omega
theorem merges_ok : ∀ (m out : List Sp), okS out → (∀ s ∈ m, s.f ≤ s.t) → m.Pairwise leS → (∀ a ∈ out, ∀ s ∈ m, leS a s) → okS (m.foldl mergeS out) ∧ ∀ x y, hasS (m.foldl mergeS out) x y ↔ hasS out x y ∨ hasS m x y
  | [], out, ho, _, _, _ => ⟨ho, fun x y => ⟨.inl, fun h => h.elim id fun h => absurd h hasS_nil⟩⟩
  | s :: m, out, ho, hv, hp, hl => by
    obtain ⟨h1, h2⟩ := List.pairwise_cons.1 hp
    obtain ⟨k1, k2, k3⟩ := mergeS_ok (s := s) ho (hv s (List.mem_cons_self ..)) fun a ha => hl a ha s (List.mem_cons_self ..)
    obtain ⟨g1, g2⟩ := merges_ok m (mergeS out s) k1 (fun b hb => hv b (List.mem_cons_of_mem _ hb)) h2 fun a ha b hb => leS_trans (k3 a ha) (h1 b hb)
    refine ⟨g1, fun x y => ?_⟩
    rw [List.foldl_cons, g2, k2, hasS_cons]
    constructor
    · rintro ((h | h) | h)
      · exact .inl h
      · exact .inr (.inl h)
      · exact .inr (.inr h)
    · rintro (h | h | h)
      · exact .inl (.inl h)
      · exact .inl (.inr h)
      · exact .inr h
def normS (l : List Sp) : List Sp := (l.mergeSort fun a b => decide (leS a b)).foldl mergeS []
theorem sort_leS (l : List Sp) : (l.mergeSort fun a b => decide (leS a b)).Pairwise leS := by
  have h := List.pairwise_mergeSort (le := fun a b => decide (leS a b)) (fun a b c h k => by
    simp only [decide_eq_true_eq] at *
    exact leS_trans h k) (fun a b => by
    simp only [Bool.or_eq_true, decide_eq_true_eq]
    unfold leS
    omega) l
  exact h.imp fun h => of_decide_eq_true h
theorem norm_ok {l : List Sp} (hv : ∀ s ∈ l, s.f ≤ s.t) : okS (normS l) ∧ ∀ x y, hasS (normS l) x y ↔ hasS l x y := by
  have hp := List.mergeSort_perm l fun a b => decide (leS a b)
  have h := merges_ok (l.mergeSort fun a b => decide (leS a b)) [] okS_nil (fun s h => hv s (hp.mem_iff.1 h)) (sort_leS l) (fun a h => by cases h)
  refine ⟨h.1, fun x y => ?_⟩
  show hasS (List.foldl mergeS [] _) x y ↔ _
  rw [h.2]
  exact ⟨fun g => g.elim (fun g => absurd g hasS_nil) fun g => (hasS_perm hp).1 g, fun g => .inr ((hasS_perm hp).2 g)⟩
theorem norm_uniq {l m : List Sp} (hv : ∀ s ∈ l, s.f ≤ s.t) (hm : okS m) (h : ∀ x y, hasS m x y ↔ hasS l x y) : m = normS l :=
  okS_uniq hm (norm_ok hv).1 fun x y => (h x y).trans ((norm_ok hv).2 x y).symm
theorem norm_of_sorted {l m : List Sp} (hv : ∀ s ∈ l, s.f ≤ s.t) (hp : m.Perm l) (hs : m.Pairwise leS) : m.foldl mergeS [] = normS l := by
  have h := merges_ok m [] okS_nil (fun s h => hv s (hp.mem_iff.1 h)) hs (fun a h => by cases h)
  refine norm_uniq hv h.1 fun x y => ?_
  rw [h.2]
  exact ⟨fun g => g.elim (fun g => absurd g hasS_nil) fun g => (hasS_perm hp).1 g, fun g => .inr ((hasS_perm hp).2 g)⟩
theorem mergeS_len (out : List Sp) (s : Sp) : out.length ≤ (mergeS out s).length ∧ (mergeS out s).length ≤ out.length + 1 ∧ 0 < (mergeS out s).length := by
  rcases list_last out with rfl | ⟨l, a, rfl⟩
  · simp [mergeS_nil]
  · rw [mergeS_app]; split <;> simp
theorem merges_len : ∀ (m out : List Sp), (m.foldl mergeS out).length ≤ out.length + m.length
  | [], out => by simp
  | s :: m, out => by have := merges_len m (mergeS out s); have := mergeS_len out s; simp only [List.foldl_cons, List.length_cons]; omega
end Go.Proofs.YtfnhckildfbikaaGreat
namespace Go.Proofs.YtfnhckildfbikaaGreat
set_option maxRecDepth 4000
set_option linter.unusedVariables false
set_option linter.unusedSimpArgs false
open Go.RowKit
def rchS (s : Sp) : Prop := (-256 ≤ s.y ∧ s.y ≤ 255) ∧ (-256 ≤ s.f ∧ s.f ≤ 255) ∧ -256 ≤ s.t ∧ s.t ≤ 255
instance (s : Sp) : Decidable (rchS s) := by unfold rchS; infer_instance
def chkS (l : List Sp) : Prop := (∀ s ∈ l, rchS s ∧ s.f ≤ s.t) ∧ l.Pairwise apS
instance (l : List Sp) : Decidable (chkS l) := by unfold chkS; infer_instance
theorem chkS.ok {l : List Sp} (h : chkS l) : okS l := ⟨fun s hs => (h.1 s hs).2, h.2⟩
theorem chkS_nil : chkS [] := ⟨fun s h => (List.not_mem_nil h).elim, List.Pairwise.nil⟩
theorem chkS_add {l : List Sp} {k : Nat} (hk : k < l.length) (h : chkS (l.take k)) (hv : rchS l[k] ∧ l[k].f ≤ l[k].t) (ha : ∀ (h0 : 0 < k), apS (l[k - 1]'(by omega)) l[k]) : chkS (l.take (k + 1)) := by
  rw [List.take_succ_eq_append_getElem hk]
  refine ⟨fun s hs => ?_, List.pairwise_append.2 ⟨h.2, List.pairwise_singleton .., fun a ha' b hb => ?_⟩⟩
  · rcases List.mem_append.1 hs with g | g
    · exact h.1 s g
    · obtain rfl := List.mem_singleton.1 g; exact hv
  · obtain rfl := List.mem_singleton.1 hb
    obtain ⟨i, hi, rfl⟩ := List.getElem_of_mem ha'
    have hi' : i < k := by rw [List.length_take] at hi; omega
    have hv1 := (h.1 _ ha').2
    have h0 := ha (by omega)
    rw [List.getElem_take] at hv1 ⊢
    by_cases e : i = k - 1
    · subst e; exact h0
    · have hkk : k - 1 < (l.take k).length := by rw [List.length_take]; omega
      have p := List.pairwise_iff_getElem.1 h.2 i (k - 1) (by rw [List.length_take]; omega) hkk (by omega)
      rw [List.getElem_take, List.getElem_take] at p
      have hv2 := (h.1 _ (List.getElem_mem hkk)).2
      rw [List.getElem_take] at hv2
      unfold apS at *
      omega
theorem chkS_not1 {l : List Sp} {k : Nat} (hk : k < l.length) (hv : ¬ (rchS l[k] ∧ l[k].f ≤ l[k].t)) : ¬ chkS l := fun h => hv (h.1 _ (List.getElem_mem hk))
theorem chkS_not2 {l : List Sp} {k : Nat} (hk : k < l.length) (h0 : 0 < k) (hv : ¬ apS (l[k - 1]'(by omega)) l[k]) : ¬ chkS l := fun h => hv (List.pairwise_iff_getElem.1 h.2 (k - 1) k (by omega) hk (by omega))
def Sp.wd (s : Sp) : Nat := (s.t - s.f + 1).toNat
def Sp.pts (s : Sp) : List P2 := (List.range s.wd).map fun i : Nat => ⟨s.f + (i : Int), s.y⟩
def ptsS (l : List Sp) : List P2 := l.flatMap Sp.pts
theorem pts_mem {s : Sp} {p : P2} : p ∈ s.pts ↔ s.has p.x p.y := by
  unfold Sp.pts Sp.has Sp.wd
  rw [List.mem_map]
  constructor
  · rintro ⟨i, hi, rfl⟩
    rw [List.mem_range] at hi
    exact ⟨rfl, by show s.f ≤ s.f + (i : Int); omega, by show s.f + (i : Int) ≤ s.t; omega⟩
  · rintro ⟨h1, h2, h3⟩
    refine ⟨(p.x - s.f).toNat, List.mem_range.2 (by omega), ?_⟩
    cases p
    simp only at *
    congr 1
    omega
theorem ptsS_mem {l : List Sp} {p : P2} : p ∈ ptsS l ↔ hasS l p.x p.y := by
  unfold ptsS hasS
  rw [List.mem_flatMap]
  exact ⟨fun ⟨s, h, g⟩ => ⟨s, h, pts_mem.1 g⟩, fun ⟨s, h, g⟩ => ⟨s, h, pts_mem.2 g⟩⟩
end Go.Proofs.YtfnhckildfbikaaGreat
namespace Go.Proofs.YtfnhckildfbikaaGreat
set_option maxRecDepth 4000
set_option linter.unusedVariables false
set_option linter.unusedSimpArgs false
open Go.RowKit
def pt1 (p : P2) : Sp := ⟨p.y, p.x, p.x⟩
theorem hasS_pts {l : List P2} {x y : Int} : hasS (l.map pt1) x y ↔ ⟨x, y⟩ ∈ l := by
  constructor
  · rintro ⟨s, hs, h1, h2, h3⟩
    obtain ⟨p, hp, rfl⟩ := List.mem_map.1 hs
    have e : p = ⟨x, y⟩ := by
      cases p
      simp only [pt1] at h1 h2 h3
      congr 1 <;> omega
    rw [← e]; exact hp
  · intro h
    exact ⟨pt1 ⟨x, y⟩, List.mem_map.2 ⟨_, h, rfl⟩, rfl, Int.le_refl _, Int.le_refl _⟩
theorem pts_valid (l : List P2) : ∀ s ∈ l.map pt1, s.f ≤ s.t := fun s hs => by
  obtain ⟨p, _, rfl⟩ := List.mem_map.1 hs
  exact Int.le_refl _
def beh (p q : P2) : Prop := p.y < q.y ∨ p.y = q.y ∧ p.x < q.x
def runS (l : List P2) : List Sp := (l.map pt1).foldl mergeS []
theorem run_norm {l : List P2} (h : l.Pairwise beh) : runS l = normS (l.map pt1) :=
  norm_of_sorted (pts_valid l) (List.Perm.refl _) (List.pairwise_map.2 (h.imp fun {a b} hab => by
    unfold beh at hab
    unfold leS pt1
    show a.y < b.y ∨ a.y = b.y ∧ a.x ≤ b.x
    omega))
theorem run_ok {l : List P2} (h : l.Pairwise beh) : okS (runS l) ∧ ∀ x y, hasS (runS l) x y ↔ (⟨x, y⟩ : P2) ∈ l := by
  rw [run_norm h]
  have := norm_ok (pts_valid l)
  exact ⟨this.1, fun x y => (this.2 x y).trans hasS_pts⟩
theorem runS_add (l : List P2) (p : P2) : runS (l ++ [p]) = mergeS (runS l) (pt1 p) := by
  unfold runS
  rw [List.map_append, List.foldl_append]
  rfl
def opnS (out : List Sp) (p : P2) : Bool := match out.getLast? with
  | none => false
  | some a => decide (a.y = p.y ∧ a.t + 1 = p.x)
theorem opnS_app (l : List Sp) (a : Sp) (p : P2) : opnS (l ++ [a]) p = decide (a.y = p.y ∧ a.t + 1 = p.x) := by unfold opnS; rw [List.getLast?_concat]
def endS (out : List Sp) (p : P2) : Prop := ∀ a ∈ out, a.y < p.y ∨ a.y = p.y ∧ a.t < p.x
theorem endS_run {l : List P2} {p : P2} (h : l.Pairwise beh) (hp : ∀ q ∈ l, beh q p) : endS (runS l) p := fun a ha => by
  have h1 := (run_ok h).1.1 a ha
  have := (run_ok h).2 a.t a.y |>.1 ⟨a, ha, rfl, h1, Int.le_refl _⟩
  have := hp _ this
  unfold beh at this
  exact this
theorem merge_open {l : List Sp} {a : Sp} {p : P2} (h : a.y = p.y ∧ a.t + 1 = p.x) : mergeS (l ++ [a]) (pt1 p) = l ++ [⟨a.y, a.f, p.x⟩] := by
  rw [mergeS_app, if_neg (by unfold apS pt1; simp only; omega)]
  congr 3
  show max a.t p.x = p.x
  omega
theorem merge_shut {out : List Sp} {p : P2} (he : endS out p) (h : opnS out p = false) : mergeS out (pt1 p) = out ++ [pt1 p] := by
  rcases list_last out with rfl | ⟨l, a, rfl⟩
  · rfl
  · rw [opnS_app] at h
    have h := of_decide_eq_false h
    have := he a (by simp)
    rw [mergeS_app, if_pos (by unfold apS pt1; simp only; omega)]
theorem opn_last {out : List Sp} {p : P2} (h : opnS out p = true) : ∃ l a, out = l ++ [a] ∧ a.y = p.y ∧ a.t + 1 = p.x := by
  rcases list_last out with rfl | ⟨l, a, rfl⟩
  · cases h
  · rw [opnS_app] at h
    exact ⟨l, a, rfl, of_decide_eq_true h⟩
def fieldN (w : Nat) (n : Nat) (X Y : Int) : List P2 := (List.range n).map fun i => ⟨X + ((i % w : Nat) : Int), Y + ((i / w : Nat) : Int)⟩
theorem field_beh {w : Nat} (hw : 0 < w) (n : Nat) (X Y : Int) : (fieldN w n X Y).Pairwise beh := by
  refine List.pairwise_map.2 (List.pairwise_lt_range.imp fun {i j} h => ?_)
  unfold beh
  simp only
  have hi := Nat.div_add_mod i w
  have hj := Nat.div_add_mod j w
  have hm := Nat.mod_lt i hw
  have hq := Nat.mod_lt j hw
  have hd : i / w ≤ j / w := Nat.div_le_div_right (Nat.le_of_lt h)
  rcases Nat.lt_or_eq_of_le hd with e | e
  · left; omega
  · right
    rw [← e] at hj
    generalize w * (i / w) = m at hi hj
    omega
theorem field_mem {w h : Nat} (hw : 0 < w) {X Y : Int} {p : P2} : p ∈ fieldN w (h * w) X Y ↔ (X ≤ p.x ∧ p.x < X + w) ∧ Y ≤ p.y ∧ p.y < Y + h := by
  unfold fieldN
  rw [List.mem_map]
  constructor
  · rintro ⟨i, hi, rfl⟩
    rw [List.mem_range] at hi
    have h1 := Nat.mod_lt i hw
    have h2 : i / w < h := (Nat.div_lt_iff_lt_mul hw).2 hi
    simp only
    generalize i % w = m at h1 ⊢
    generalize i / w = q at h2 ⊢
    omega
  · rintro ⟨⟨h1, h2⟩, h3, h4⟩
    have hx : (p.x - X).toNat < w := by omega
    have hy : (p.y - Y).toNat < h := by omega
    refine ⟨(p.y - Y).toNat * w + (p.x - X).toNat, List.mem_range.2 ?_, ?_⟩
    · have := Nat.mul_le_mul_right w (show (p.y - Y).toNat + 1 ≤ h by omega)
      rw [Nat.add_mul, Nat.one_mul] at this
      omega
    · have e1 : ((p.y - Y).toNat * w + (p.x - X).toNat) % w = (p.x - X).toNat := by rw [Nat.add_comm, Nat.add_mul_mod_self_right, Nat.mod_eq_of_lt hx]
      have e2 : ((p.y - Y).toNat * w + (p.x - X).toNat) / w = (p.y - Y).toNat := by rw [Nat.add_comm, Nat.add_mul_div_right _ _ hw, Nat.div_eq_of_lt hx, Nat.zero_add]
      rw [e1, e2]
      cases p
      simp only at *
      congr 1 <;> omega
theorem field_succ (w n : Nat) (X Y : Int) : fieldN w (n + 1) X Y = fieldN w n X Y ++ [⟨X + ((n % w : Nat) : Int), Y + ((n / w : Nat) : Int)⟩] := by
  unfold fieldN
  rw [List.range_succ, List.map_append]
  rfl
theorem ix_mod {W y x : Nat} (hx : x < W) : (y * W + x) % W = x := by rw [Nat.add_comm, Nat.add_mul_mod_self_right, Nat.mod_eq_of_lt hx]
theorem ix_div {W y x : Nat} (hx : x < W) : (y * W + x) / W = y := by rw [Nat.add_comm, Nat.add_mul_div_right _ _ (Nat.lt_of_le_of_lt (Nat.zero_le _) hx), Nat.div_eq_of_lt hx, Nat.zero_add]
theorem field_at {w y x : Nat} (hx : x < w) (X Y : Int) : fieldN w (y * w + (x + 1)) X Y = fieldN w (y * w + x) X Y ++ [⟨X + x, Y + y⟩] := by rw [← Nat.add_assoc, field_succ, ix_mod hx, ix_div hx]
theorem field_before {w n : Nat} (hw : 0 < w) {X Y : Int} : ∀ q ∈ fieldN w n X Y, beh q ⟨X + ((n % w : Nat) : Int), Y + ((n / w : Nat) : Int)⟩ := fun q hq => by
  have h := field_beh hw (n + 1) X Y
  rw [field_succ] at h
  exact (List.pairwise_append.1 h).2.2 q hq _ (by simp)
end Go.Proofs.YtfnhckildfbikaaGreat
namespace Go.Proofs.YtfnhckildfbikaaGreat
set_option maxRecDepth 4000
set_option linter.unusedVariables false
set_option linter.unusedSimpArgs false
open Go.RowKit
theorem fo41_0 : fdO Tryz.prog 41 0 = some 0 := by kernel_rfl
theorem fo41_1 : fdO Tryz.prog 41 1 = some 1 := by kernel_rfl
theorem fo41_2 : fdO Tryz.prog 41 2 = some 2 := by kernel_rfl
def bdS (s : Sp) : Prop := (-2000 ≤ s.y ∧ s.y ≤ 2000) ∧ (-2000 ≤ s.f ∧ s.f ≤ 2000) ∧ -2000 ≤ s.t ∧ s.t ≤ 2000
theorem rch_bd {s : Sp} (h : rchS s) : bdS s := by unfold rchS at h; unfold bdS; omega
def rchB (n : Int) : Bool := decide (-256 ≤ n) && decide (n ≤ 255)
def chkE (l : List Sp) : Int := if chkS l then 0 else 160
theorem chkE_ok {l : List Sp} (h : chkS l) : chkE l = 0 := if_pos h
theorem chkE_no {l : List Sp} (h : ¬ chkS l) : chkE l = 160 := if_neg h
theorem rchS_iff (s : Sp) : (rchS s ∧ s.f ≤ s.t) ↔ (rchB s.y = true ∧ rchB s.f = true ∧ rchB s.t = true ∧ s.f ≤ s.t) := by
  unfold rchS rchB
  simp only [Bool.and_eq_true, decide_eq_true_eq]
  omega
set_option maxRecDepth 4000 in
set_option maxHeartbeats 1000000 in
theorem reached_d (n : Int) : DFun Tryz.prog 60 [.val (.int .i64 n)] [] (.val (.bool (rchB n))) [] := by
  refine zan (N := 9) 0 (by kernel_rfl) Tryz.func60 rfl rfl rfl (by simp only [fr0, Nat.zero_add, Nat.reduceAdd]; exact rfl) rfl fun s0 hs0 => ?_
  refine zaf ?_
  refine zac ?_
  refine zab rfl rfl rfl (zad (.inr rfl) (ev1 rfl)) ?_
  refine zae ?_
  refine zaf ?_
  refine zac ?_
  refine zab rfl rfl rfl (zad (.inl rfl) (ev1 rfl)) ?_
  refine zab rfl rfl rfl (op_geq rfl (ev1 rfl) (ev1 rfl)) ?_
  refine zab rfl rfl rfl (zad (.inl rfl) (ev1 rfl)) ?_
  refine walk_gr (gd_t rfl rfl rfl) rfl rfl rfl (zad (.inl rfl) (ev1 rfl)) ?_
  refine walk_gr (gd_t rfl rfl rfl) rfl rfl rfl (op_leq rfl (ev2 rfl) (ev1 rfl)) ?_
  refine zab rfl rfl rfl (op_and rfl (ev1 rfl) (ev3 rfl id)) ?_
  refine zab rfl rfl rfl (zad (.inr rfl) (ev1 rfl)) ?_
  refine zae ?_
  refine dwp_ret ?_
  refine kend0 (rs1 rfl (rv_t rfl)) rfl ?_
  rfl
set_option maxRecDepth 4000 in
set_option maxHeartbeats 1000000 in
theorem apart_d (a s : Sp) (ha : bdS a) : DFun Tryz.prog 61 [.val (.agg #[.int .i64 a.y, .int .i64 a.f, .int .i64 a.t]), .val (.agg #[.int .i64 s.y, .int .i64 s.f, .int .i64 s.t])] [] (.val (.bool (decide (apS a s)))) [] := by
  have hb := ha
  unfold bdS at hb
  refine zan (N := 25) 0 (by kernel_rfl) Tryz.func61 rfl rfl rfl (by simp only [fr0, Nat.zero_add, Nat.reduceAdd]; exact rfl) rfl fun s0 hs0 => ?_
  refine zaf ?_
  refine zah 2 (by simp only [holes, List.cons_append, List.nil_append]; exact rfl) ?_
  refine zac ?_
  refine zaj rfl rfl rfl (op_boxa 0 rfl (ev1 rfl) rfl) (by simp only [upd, zaa, za]; exact rfl) ?_
  refine zaj rfl rfl rfl (op_boxa 1 rfl (ev1 rfl) rfl) (by simp only [upd, zaa, za]; exact rfl) ?_
  refine zab rfl rfl rfl (zad (.inr rfl) (ev1 rfl)) ?_
  refine zae ?_
  refine zaf ?_
  refine zac ?_
  refine zab rfl rfl rfl (op_fa rfl fo41_0 (ev1 rfl)) ?_
  refine zab rfl rfl rfl (op_ldo rfl tb3 (ev1 rfl) rfl rfl) ?_
  refine zab rfl rfl rfl (op_fa rfl fo41_0 (ev1 rfl)) ?_
  refine zab rfl rfl rfl (op_ldo rfl tb3 (ev1 rfl) rfl rfl) ?_
  refine zab rfl rfl rfl (op_gtr rfl (ev1 rfl) (ev1 rfl)) ?_
  refine zab rfl rfl rfl (zad (.inl rfl) (ev1 rfl)) ?_
  refine walk_gr (gd_f rfl rfl rfl) rfl rfl rfl (op_fa rfl fo41_0 (ev1 rfl)) ?_
  refine walk_gr (gd_f rfl rfl rfl) rfl rfl rfl (op_ldo rfl tb3 (ev2 rfl) rfl rfl) ?_
  refine walk_gr (gd_f rfl rfl rfl) rfl rfl rfl (op_fa rfl fo41_0 (ev1 rfl)) ?_
  refine walk_gr (gd_f rfl rfl rfl) rfl rfl rfl (op_ldo rfl tb3 (ev2 rfl) rfl rfl) ?_
  refine walk_gr (gd_f rfl rfl rfl) rfl rfl rfl (op_eql rfl (ev2 rfl) (ev2 rfl)) ?_
  refine walk_gr (gd_f rfl rfl rfl) rfl rfl rfl (zad (.inl rfl) (ev2 rfl)) ?_
  refine walk_gr (gd_tt rfl rfl rfl) rfl rfl rfl (op_fa rfl fo41_1 (ev1 rfl)) ?_
  refine walk_gr (gd_tt rfl rfl rfl) rfl rfl rfl (op_ldo rfl tb3 (ev2 rfl) rfl rfl) ?_
  refine walk_gr (gd_tt rfl rfl rfl) rfl rfl rfl (op_fa rfl fo41_2 (ev1 rfl)) ?_
  refine walk_gr (gd_tt rfl rfl rfl) rfl rfl rfl (op_ldo rfl tb3 (ev2 rfl) rfl rfl) ?_
  refine walk_gr (gd_tt rfl rfl rfl) rfl rfl rfl (op_add' rfl (ev2 rfl) (ev1 rfl) (fun hp => IntWalk.i64_in _ (by first | omega | (simp at hp; omega)))) ?_
  refine walk_gr (gd_tt rfl rfl rfl) rfl rfl rfl (op_gtr rfl (ev2 rfl) (ev2 rfl)) ?_
  refine walk_gr (gd_f rfl rfl rfl) rfl rfl rfl (op_and rfl (ev2 rfl) (ev2 rfl)) ?_
  refine zab rfl rfl rfl (op_or rfl (ev1 rfl) (ev3 rfl id)) ?_
  refine zab rfl rfl rfl (zad (.inr rfl) (ev1 rfl)) ?_
  refine zae ?_
  refine dwp_ret ?_
  refine kend0 (rs1 rfl (rv_t rfl)) rfl ?_
  rw [D.val.injEq, Value.bool.injEq, Bool.eq_iff_iff, decide_eq_true_eq]
  unfold apS
  simp
  omega
end Go.Proofs.YtfnhckildfbikaaGreat
namespace Go.Proofs.YtfnhckildfbikaaGreat
set_option maxRecDepth 4000
set_option linter.unusedVariables false
set_option linter.unusedSimpArgs false
open Go.RowKit
theorem sl32 : slE Tryz.prog 32 = some (41, 3, 24) := by kernel_rfl
theorem tb41 : tyB Tryz.prog 41 = some (true, 3) := by kernel_rfl
theorem zr41 : zrC Tryz.prog 41 = some [.int .i64 0, .int .i64 0, .int .i64 0] := by kernel_rfl
def ixZ {α : Type} (q : α → Bool) (l : List α) : Int := if l.any q = true then (l.findIdx q : Nat) else -1
theorem ixZ_no {α : Type} {q : α → Bool} {l : List α} (h : l.any q = false) : ixZ q l = -1 := by unfold ixZ; rw [h]; rfl
theorem ixZ_at {α : Type} {q : α → Bool} {l : List α} {i : Nat} (hi : i < l.length) (h : (l.take i).any q = false) (hq : q l[i] = true) : ixZ q l = i := by
  have h1 : l.any q = true := List.any_eq_true.2 ⟨_, List.getElem_mem hi, hq⟩
  have h2 : l.findIdx q = i := by
    refine (List.findIdx_eq hi).2 ⟨hq, fun j hj => ?_⟩
    have h3 := List.any_eq_false.1 h l[j] (List.mem_take_iff_getElem.2 ⟨j, by omega, rfl⟩)
    simpa using h3
  unfold ixZ
  rw [if_pos h1, h2]
theorem ixZ_nn {α : Type} (q : α → Bool) (l : List α) : decide (0 ≤ ixZ q l) = l.any q := by
  unfold ixZ
  cases h : l.any q with
  | true => simp
  | false => simp
theorem any_add {α : Type} {q : α → Bool} {l : List α} {i : Nat} (hi : i < l.length) (h : (l.take i).any q = false) (hq : q l[i] = false) : (l.take (i + 1)).any q = false := by
  rw [List.take_succ_eq_append_getElem hi, List.any_append, h]
  simp [hq]
theorem take_all {α : Type} {l : List α} {i : Nat} (h : l.length ≤ i) : l.take i = l := List.take_of_length_le h
theorem gD_at {α : Type} {l : List α} {i : Nat} (h : i < l.length) (d : α) : l.getD i d = l[i] := by rw [List.getD_eq_getElem?_getD, List.getElem?_eq_getElem h]; rfl
theorem bd_getD {l : List Sp} {i : Nat} (h : ∀ s ∈ l, bdS s) : bdS (l.getD i zSp) := by
  by_cases e : i < l.length
  · rw [gD_at e]; exact h _ (List.getElem_mem e)
  · rw [List.getD_eq_getElem?_getD, List.getElem?_eq_none (by omega)]
    show bdS zSp
    unfold bdS zSp
    decide
set_option maxRecDepth 4000 in
set_option maxHeartbeats 1000000 in
theorem check_d (l : List Sp) : DFun Tryz.prog 32 [.slf 3 l.length (l.flatMap s3)] [] (.val (.int .i64 (chkE l))) [] := by
  refine zan (N := 48) 0 (by kernel_rfl) Tryz.func32 rfl rfl rfl (by simp only [fr0, Nat.zero_add, Nat.reduceAdd]; exact rfl) rfl fun s0 hs0 => ?_
  refine dwp_len (t := 0) rfl fun hl0 hL0 => ?_
  refine zaf ?_
  refine zac ?_
  refine zab rfl rfl rfl (zad (.inr rfl) (ev1 rfl)) ?_
  refine zae ?_
  refine zaf ?_
  refine zaf ?_
  refine zac ?_
  refine zab rfl rfl rfl (zad (.inl rfl) (ev1 rfl)) ?_
  refine zab rfl rfl rfl (op_len rfl sl32 (ev1 rfl)) ?_
  refine zab rfl rfl rfl (zad (.inl rfl) (ev1 rfl)) ?_
  refine zae ?_
  refine zak ?_
  refine dwp_loopS ⟨hs0, rfl⟩ (α := Nat) (fun i => [(7, .val (.int .i64 (i : Int)))]) [(0, _), (5, _), (6, _)] (fun i => []) [] (fun i => i ≤ l.length ∧ chkS (l.take i)) (fun i => l.length - i) 0 [] (⟨Nat.zero_le _, chkS_nil⟩) rfl ⟨rfl, rfl, rfl, trivial⟩ ⟨rfl, trivial⟩ trivial ?_
  intro i hx
  simp only [upd, zaa, za, List.cons_append, List.nil_append]
  obtain ⟨hi0, hok⟩ := hx
  refine zaf ?_
  refine zac ?_
  refine zab rfl rfl rfl (op_lss rfl (ev1 rfl) (ev1 rfl)) ?_
  refine zae ?_
  refine zaf ?_
  refine dwp_cond rfl (fun c1 => ?_) (fun c1 => ?_)
  · try simp only [decide_eq_true_eq, decide_eq_false_iff_not, beq_iff_eq, bne_iff_ne, beq_eq_false_iff_ne, bne_eq_false_iff_eq, Bool.not_eq_true', Bool.not_eq_false', Bool.and_eq_true, Bool.or_eq_true, Bool.or_eq_false_iff, ne_eq, Decidable.not_not, Int.not_lt, Int.not_le] at c1
    refine zal ?_
    refine zaf ?_
    refine zak ?_
    refine zaf ?_
    have hi : i < l.length := by omega
    refine zah 1 (by simp only [holes, List.cons_append, List.nil_append]; exact rfl) ?_
    refine zac ?_
    refine zab rfl rfl rfl (zad (.inl rfl) (ev1 rfl)) ?_
    refine zab rfl rfl rfl (op_ixsr (j := i) rfl sl32 (ev1 rfl) (ev1 rfl) (fun _ => rfl) (by decide) (by omega) (by omega)) ?_
    refine zab rfl rfl rfl (op_ldwd rfl tb41 (ev1 rfl) rfl) ?_
    refine zaj rfl rfl rfl (op_alloc 0 rfl zr41 rfl) (by simp only [upd, zaa, za]; exact rfl) ?_
    refine zab rfl rfl rfl (zad (.inr rfl) (ev1 rfl)) ?_
    refine walk_s rfl rfl (op_stwa rfl tb41 (ev1 rfl) (ev1 rfl) rfl rfl rfl rfl) (by simp only [upd, zaa, za]; exact rfl) ?_
    refine zae ?_
    refine zaf ?_
    refine zaf ?_
    have hri := rchS_iff l[i]
    refine zac ?_
    refine zab rfl rfl rfl (op_fa rfl fo41_0 (ev1 rfl)) ?_
    refine zab rfl rfl rfl (op_ldo rfl tb3 (ev1 rfl) rfl rfl) ?_
    refine zab rfl rfl rfl (zai [] [] [] rfl (ev1 rfl) (ec (ev1 rfl) en) rfl rfl (reached_d _) rfl rfl rfl rfl rfl rfl) ?_
    refine zab rfl rfl rfl (op_not rfl (ev1 rfl)) ?_
    refine zab rfl rfl rfl (zad (.inl rfl) (ev1 rfl)) ?_
    refine walk_gr (gd_f rfl rfl rfl) rfl rfl rfl (op_fa rfl fo41_1 (ev1 rfl)) ?_
    refine walk_gr (gd_f rfl rfl rfl) rfl rfl rfl (op_ldo rfl tb3 (ev2 rfl) rfl rfl) ?_
    refine walk_gr (gd_f rfl rfl rfl) rfl rfl rfl (zai [] [] [] rfl (ev1 rfl) (ec (ev2 rfl) en) rfl rfl (reached_d _) rfl rfl rfl rfl rfl rfl) ?_
    refine walk_gr (gd_f rfl rfl rfl) rfl rfl rfl (op_not rfl (ev2 rfl)) ?_
    refine zab rfl rfl rfl (op_or rfl (ev1 rfl) (ev3 rfl id)) ?_
    refine zab rfl rfl rfl (zad (.inl rfl) (ev1 rfl)) ?_
    refine walk_gr (gd_f rfl rfl rfl) rfl rfl rfl (op_fa rfl fo41_2 (ev1 rfl)) ?_
    refine walk_gr (gd_f rfl rfl rfl) rfl rfl rfl (op_ldo rfl tb3 (ev2 rfl) rfl rfl) ?_
    refine walk_gr (gd_f rfl rfl rfl) rfl rfl rfl (zai [] [] [] rfl (ev1 rfl) (ec (ev2 rfl) en) rfl rfl (reached_d _) rfl rfl rfl rfl rfl rfl) ?_
    refine walk_gr (gd_f rfl rfl rfl) rfl rfl rfl (op_not rfl (ev2 rfl)) ?_
    refine zab rfl rfl rfl (op_or rfl (ev1 rfl) (ev3 rfl id)) ?_
    refine zab rfl rfl rfl (zad (.inl rfl) (ev1 rfl)) ?_
    refine walk_gr (gd_f rfl rfl rfl) rfl rfl rfl (op_fa rfl fo41_1 (ev1 rfl)) ?_
    refine walk_gr (gd_f rfl rfl rfl) rfl rfl rfl (op_ldo rfl tb3 (ev2 rfl) rfl rfl) ?_
    refine walk_gr (gd_f rfl rfl rfl) rfl rfl rfl (op_fa rfl fo41_2 (ev1 rfl)) ?_
    refine walk_gr (gd_f rfl rfl rfl) rfl rfl rfl (op_ldo rfl tb3 (ev2 rfl) rfl rfl) ?_
    refine walk_gr (gd_f rfl rfl rfl) rfl rfl rfl (op_gtr rfl (ev2 rfl) (ev2 rfl)) ?_
    refine zab rfl rfl rfl (op_or rfl (ev1 rfl) (ev3 rfl id)) ?_
    refine zae ?_
    refine dwp_cond rfl (fun c2 => ?_) (fun c2 => ?_)
    · have hv : ¬ (rchS l[i] ∧ l[i].f ≤ l[i].t) := by
        intro hv
        obtain ⟨g1, g2, g3, g4⟩ := hri.1 hv
        rw [g1, g2, g3] at c2
        simp at c2
        omega
      refine zaf ?_
      refine zac ?_
      refine zab rfl rfl rfl (zad (.inr rfl) (ev1 rfl)) ?_
      refine zae ?_
      refine dwp_ret ?_
      refine kend0 (rs1 rfl (rv_t rfl)) rfl ?_
      rw [chkE_no (chkS_not1 hi hv)]
    · have hv : rchS l[i] ∧ l[i].f ≤ l[i].t := hri.2 (by revert c2; cases rchB l[i].y <;> cases rchB l[i].f <;> cases rchB l[i].t <;> simp)
      refine zal ?_
      refine zaf ?_
      have hbd : bdS (l.getD (i - 1) zSp) := by
          by_cases e : 0 < i
          · rw [gD_at (by omega)]; exact rch_bd ((hok.1 _ (List.mem_take_iff_getElem.2 ⟨i - 1, by omega, rfl⟩)).1)
          · obtain rfl : i = 0 := by omega
            rw [gD_at hi]; exact rch_bd hv.1
      refine dwp_draw [([], []), ([], []), ([], []), ([], []), ([], []), ([], []), ([], []), ([], []), ([0], []), ([], []), ([], []), ([], [])] mixed (by kernel_rfl) ?_
      refine zag rfl rfl (zad (.inl rfl) (ev1 rfl)) ?_
      refine zag rfl rfl (op_gtr rfl (ev1 rfl) (ev1 rfl)) ?_
      refine zag rfl rfl (zad (.inl rfl) (ev1 rfl)) ?_
      refine lex_gr (gd_t rfl rfl rfl) rfl rfl (zad (.inl rfl) (ev1 rfl)) ?_
      refine lex_gr (gd_t rfl rfl rfl) rfl rfl (zad (.inl rfl) (ev1 rfl)) ?_
      refine lex_gr (gd_t rfl rfl rfl) rfl rfl (op_sub' rfl (ev2 rfl) (ev1 rfl) (fun hp => IntWalk.i64_in _ (by first | omega | (simp at hp; omega)))) ?_
      refine lex_gr (gd_t rfl rfl rfl) rfl rfl (op_ixsg (j := i - 1) (zSp) rfl sl32 (ev2 rfl) (ev2 rfl) (fun _ => rfl) (by decide) (fun hp => by first | omega | (simp at hp; omega)) (fun hp => by first | omega | (simp at hp; omega))) ?_
      refine lex_gr (gd_t rfl rfl rfl) rfl rfl (op_ldwd rfl tb41 (ev2 rfl) rfl) ?_
      refine lex_gr (gd_t rfl rfl rfl) rfl rfl (op_ldw rfl tb41 (ev1 rfl) rfl rfl) ?_
      refine lex_gr (gd_t rfl rfl rfl) rfl rfl (zai [] [] [] rfl (ev1 rfl) (ec (ev2 rfl) (ec (ev2 rfl) en)) rfl rfl (apart_d _ _ hbd) rfl rfl rfl rfl rfl rfl) ?_
      refine lex_gr (gd_t rfl rfl rfl) rfl rfl (op_not rfl (ev2 rfl)) ?_
      refine zag rfl rfl (op_and rfl (ev1 rfl) (ev3 rfl id)) ?_
      refine lex_nil ?_
      refine dwp_cond rfl (fun c3 => ?_) (fun c3 => ?_)
      · have h0 : 0 < i := by simp at c3; omega
        have hap : ¬ apS l[i - 1] l[i] := by rw [gD_at (by omega)] at c3; simp at c3; exact c3.2
        refine zaf ?_
        refine zac ?_
        refine zab rfl rfl rfl (zad (.inr rfl) (ev1 rfl)) ?_
        refine zae ?_
        refine dwp_ret ?_
        refine kend0 (rs1 rfl (rv_t rfl)) rfl ?_
        rw [chkE_no (chkS_not2 hi h0 hap)]
      · have hok2 := chkS_add hi hok hv fun h0 => by rw [gD_at (by omega)] at c3; simp at c3; exact c3 (by omega)
        refine zal ?_
        refine zac ?_
        refine zab rfl rfl rfl (op_add' rfl (ev1 rfl) (ev1 rfl) (fun _ => IntWalk.i64_in _ (by omega))) ?_
        refine zab rfl rfl rfl (zad (.inl rfl) (ev1 rfl)) ?_
        refine zae ?_
        refine ⟨i + 1, [], ⟨by omega, hok2⟩, by simp only []; omega, rfl, ⟨rfl, rfl, rfl, rfl, trivial⟩, trivial⟩
  · try simp only [decide_eq_true_eq, decide_eq_false_iff_not, beq_iff_eq, bne_iff_ne, beq_eq_false_iff_ne, bne_eq_false_iff_eq, Bool.not_eq_true', Bool.not_eq_false', Bool.and_eq_true, Bool.or_eq_true, Bool.or_eq_false_iff, ne_eq, Decidable.not_not, Int.not_lt, Int.not_le] at c1
    refine dwp_exit ?_
    refine zaf ?_
    refine zac ?_
    refine zab rfl rfl rfl (zad (.inr rfl) (ev1 rfl)) ?_
    refine zae ?_
    refine dwp_ret ?_
    rw [take_all (by omega)] at hok
    refine kend0 (rs1 rfl (rv_t rfl)) rfl ?_
    rw [chkE_ok hok]
end Go.Proofs.YtfnhckildfbikaaGreat
namespace Go.Proofs.YtfnhckildfbikaaGreat
set_option maxRecDepth 4000
set_option linter.unusedVariables false
set_option linter.unusedSimpArgs false
open Go.RowKit
open Go.Shelf Go.Lib
def sortF_ren : Go.Shelf.Ren := ⟨fun | 6 => 64 | 15 => 87 | 14 => 86 | 28 => 104 | 29 => 105 | 20 => 96 | 21 => 97 | 22 => 98 | 23 => 99 | 24 => 100 | 25 => 101 | 26 => 102 | 27 => 103 | 46 => 115 | 47 => 116 | 48 => 117 | 49 => 118 | 50 => 119 | 57 => 123 | n => n, fun | 22 => 32 | 24 => 41 | 25 => 124 | 3 => 3 | 39 => 146 | 0 => 0 | 53 => 164 | 55 => 166 | 4 => 4 | 46 => 158 | 45 => 157 | 50 => 98 | 5 => 5 | 9 => 9 | 66 => 172 | 70 => 176 | 76 => 180 | 77 => 36 | n => n, fun | n => n⟩
theorem sortF : Go.Proofs.SlLaysF0.n6 Tryz.prog sortF_ren := {
  mixed := by kernel_rfl
  f6 := ⟨Tryz.f64.name, by decide, Tryz.func64.trans (congrArg some (by kernel_rfl))⟩
  f14 := ⟨Tryz.f86.name, by decide, Tryz.func86.trans (congrArg some (by kernel_rfl))⟩
  f15 := Tryz.func87.trans (congrArg some (by kernel_rfl))
  f20 := ⟨Tryz.f96.name, by decide, Tryz.func96.trans (congrArg some (by kernel_rfl))⟩
  f21 := ⟨Tryz.f97.name, by decide, Tryz.func97.trans (congrArg some (by kernel_rfl))⟩
  f22 := ⟨Tryz.f98.name, by decide, Tryz.func98.trans (congrArg some (by kernel_rfl))⟩
  f23 := ⟨Tryz.f99.name, by decide, Tryz.func99.trans (congrArg some (by kernel_rfl))⟩
  f24 := ⟨Tryz.f100.name, by decide, Tryz.func100.trans (congrArg some (by kernel_rfl))⟩
  f25 := ⟨Tryz.f101.name, by decide, Tryz.func101.trans (congrArg some (by kernel_rfl))⟩
  f26 := ⟨Tryz.f102.name, by decide, Tryz.func102.trans (congrArg some (by kernel_rfl))⟩
  f27 := ⟨Tryz.f103.name, by decide, Tryz.func103.trans (congrArg some (by kernel_rfl))⟩
  f28 := Tryz.func104.trans (congrArg some (by kernel_rfl))
  f29 := Tryz.func105.trans (congrArg some (by kernel_rfl))
  f46 := ⟨Tryz.f115.name, by decide, Tryz.func115.trans (congrArg some (by kernel_rfl))⟩
  f47 := Tryz.func116.trans (congrArg some (by kernel_rfl))
  f48 := Tryz.func117.trans (congrArg some (by kernel_rfl))
  f49 := ⟨Tryz.f118.name, by decide, Tryz.func118.trans (congrArg some (by kernel_rfl))⟩
  f50 := ⟨Tryz.f119.name, by decide, Tryz.func119.trans (congrArg some (by kernel_rfl))⟩
  f57 := ⟨Tryz.f123.name, by decide, Tryz.func123.trans (congrArg some (by kernel_rfl))⟩
  t0 := Tryz.underlying0
  a0 := Tryz.isAgg0
  z0 := Tryz.sizeOf0
  v0 := Tryz.zeroValue0
  t3 := Tryz.underlying3
  a3 := Tryz.isAgg3
  z3 := Tryz.sizeOf3
  v3 := Tryz.zeroValue3
  t4 := Tryz.underlying4
  a4 := Tryz.isAgg4
  z4 := Tryz.sizeOf4
  v4 := Tryz.zeroValue4
  t5 := Tryz.underlying5
  a5 := Tryz.isAgg5
  z5 := Tryz.sizeOf5
  v5 := Tryz.zeroValue5
  t9 := Tryz.underlying9
  a9 := Tryz.isAgg9
  z9 := Tryz.sizeOf9
  v9 := Tryz.zeroValue9
  t22 := Tryz.underlying32
  a22 := Tryz.isAgg32
  z22 := Tryz.sizeOf32
  v22 := Tryz.zeroValue32
  t25 := Tryz.underlying124
  a25 := Tryz.isAgg124
  z25 := Tryz.sizeOf124
  v25 := Tryz.zeroValue124
  t39 := Tryz.underlying146
  a39 := Tryz.isAgg146
  z39 := Tryz.sizeOf146
  v39 := Tryz.zeroValue146
  t45 := Tryz.underlying157
  a45 := Tryz.isAgg157
  z45 := Tryz.sizeOf157
  v45 := Tryz.zeroValue157
  t46 := Tryz.underlying158
  a46 := Tryz.isAgg158
  z46 := Tryz.sizeOf158
  v46 := Tryz.zeroValue158
  t50 := Tryz.underlying98
  a50 := Tryz.isAgg98
  z50 := Tryz.sizeOf98
  v50 := Tryz.zeroValue98
  t53 := Tryz.underlying164
  a53 := Tryz.isAgg164
  z53 := Tryz.sizeOf164
  v53 := Tryz.zeroValue164
  t55 := Tryz.underlying166
  a55 := Tryz.isAgg166
  z55 := Tryz.sizeOf166
  v55 := Tryz.zeroValue166
  t66 := Tryz.underlying172
  a66 := Tryz.isAgg172
  z66 := Tryz.sizeOf172
  v66 := Tryz.zeroValue172
  t70 := Tryz.underlying176
  a70 := Tryz.isAgg176
  z70 := Tryz.sizeOf176
  v70 := Tryz.zeroValue176
  t76 := Tryz.underlying180
  a76 := Tryz.isAgg180
  z76 := Tryz.sizeOf180
  v76 := Tryz.zeroValue180
  t77 := Tryz.underlying36
  a77 := Tryz.isAgg36
  z77 := Tryz.sizeOf36
  v77 := Tryz.zeroValue36 }
def keysL_ren : Go.Shelf.Ren := ⟨fun | 7 => 63 | 10 => 85 | n => n, fun | 23 => 117 | 26 => 3 | 3 => 32 | 28 => 120 | 0 => 0 | 27 => 119 | 33 => 111 | 4 => 4 | n => n, fun | n => n⟩
theorem keysL : Go.Proofs.SlLaysZI.n7 Tryz.prog keysL_ren := {
  mixed := by kernel_rfl
  f7 := ⟨Tryz.f63.name, by decide, Tryz.func63.trans (congrArg some (by kernel_rfl))⟩
  f10 := ⟨Tryz.f85.name, by decide, Tryz.func85.trans (congrArg some (by kernel_rfl))⟩
  t0 := Tryz.underlying0
  a0 := Tryz.isAgg0
  z0 := Tryz.sizeOf0
  v0 := Tryz.zeroValue0
  t4 := Tryz.underlying4
  a4 := Tryz.isAgg4
  z4 := Tryz.sizeOf4
  v4 := Tryz.zeroValue4
  t23 := Tryz.underlying117
  a23 := Tryz.isAgg117
  z23 := Tryz.sizeOf117
  v23 := Tryz.zeroValue117
  t26 := Tryz.underlying3
  a26 := Tryz.isAgg3
  z26 := Tryz.sizeOf3
  v26 := Tryz.zeroValue3
  t27 := Tryz.underlying119
  a27 := Tryz.isAgg119
  z27 := Tryz.sizeOf119
  v27 := Tryz.zeroValue119
  t28 := Tryz.underlying120
  a28 := Tryz.isAgg120
  z28 := Tryz.sizeOf120
  v28 := Tryz.zeroValue120
  t33 := Tryz.underlying111
  a33 := Tryz.isAgg111
  z33 := Tryz.sizeOf111
  v33 := Tryz.zeroValue111 }
def sortedL_ren : Go.Shelf.Ren := ⟨fun | 6 => 62 | 8 => 83 | 9 => 84 | 11 => 94 | 13 => 87 | 12 => 95 | 23 => 104 | 24 => 105 | 14 => 106 | 15 => 107 | 16 => 108 | 17 => 109 | 18 => 110 | 19 => 111 | 20 => 112 | 21 => 113 | 22 => 114 | 25 => 120 | 26 => 116 | 27 => 117 | 28 => 121 | 29 => 122 | 30 => 88 | 31 => 124 | n => n, fun | 26 => 3 | 28 => 120 | 24 => 61 | 0 => 0 | 3 => 3 | 37 => 146 | 48 => 164 | 50 => 166 | 4 => 4 | 40 => 158 | 39 => 157 | 45 => 98 | 5 => 5 | 9 => 9 | 51 => 172 | 55 => 176 | 57 => 180 | 58 => 36 | 33 => 111 | n => n, fun | n => n⟩
theorem sortedL : Go.Proofs.SlLaysZI.n6 Tryz.prog sortedL_ren := {
  mixed := by kernel_rfl
  f6 := ⟨Tryz.f62.name, by decide, Tryz.func62.trans (congrArg some (by kernel_rfl))⟩
  f8 := ⟨Tryz.f83.name, by decide, Tryz.func83.trans (congrArg some (by kernel_rfl))⟩
  f11 := ⟨Tryz.f94.name, by decide, Tryz.func94.trans (congrArg some (by kernel_rfl))⟩
  t0 := Tryz.underlying0
  a0 := Tryz.isAgg0
  z0 := Tryz.sizeOf0
  v0 := Tryz.zeroValue0
  t24 := Tryz.underlying61
  a24 := Tryz.isAgg61
  z24 := Tryz.sizeOf61
  v24 := Tryz.zeroValue61
  t26 := Tryz.underlying3
  a26 := Tryz.isAgg3
  z26 := Tryz.sizeOf3
  v26 := Tryz.zeroValue3
  t28 := Tryz.underlying120
  a28 := Tryz.isAgg120
  z28 := Tryz.sizeOf120
  v28 := Tryz.zeroValue120
  i26 := by kernel_rfl }
def sortL_ren : Go.Shelf.Ren := ⟨fun | 5 => 84 | 8 => 87 | 7 => 95 | 19 => 104 | 20 => 105 | 10 => 106 | 11 => 107 | 12 => 108 | 13 => 109 | 14 => 110 | 15 => 111 | 16 => 112 | 17 => 113 | 18 => 114 | 30 => 120 | 31 => 116 | 32 => 117 | 33 => 121 | 34 => 122 | 35 => 88 | 40 => 124 | n => n, fun | 23 => 61 | 25 => 3 | 3 => 3 | 32 => 146 | 22 => 61 | 0 => 0 | 44 => 164 | 46 => 166 | 4 => 4 | 36 => 158 | 35 => 157 | 41 => 98 | 5 => 5 | 9 => 9 | 53 => 172 | 57 => 176 | 63 => 180 | 64 => 36 | n => n, fun | n => n⟩
theorem sortL : Go.Proofs.SlLaysM.n5 Tryz.prog sortL_ren := {
  mixed := by kernel_rfl
  f5 := ⟨Tryz.f84.name, by decide, Tryz.func84.trans (congrArg some (by kernel_rfl))⟩
  f7 := ⟨Tryz.f95.name, by decide, Tryz.func95.trans (congrArg some (by kernel_rfl))⟩
  f8 := Tryz.func87.trans (congrArg some (by kernel_rfl))
  f10 := ⟨Tryz.f106.name, by decide, Tryz.func106.trans (congrArg some (by kernel_rfl))⟩
  f11 := ⟨Tryz.f107.name, by decide, Tryz.func107.trans (congrArg some (by kernel_rfl))⟩
  f12 := ⟨Tryz.f108.name, by decide, Tryz.func108.trans (congrArg some (by kernel_rfl))⟩
  f13 := ⟨Tryz.f109.name, by decide, Tryz.func109.trans (congrArg some (by kernel_rfl))⟩
  f14 := ⟨Tryz.f110.name, by decide, Tryz.func110.trans (congrArg some (by kernel_rfl))⟩
  f15 := ⟨Tryz.f111.name, by decide, Tryz.func111.trans (congrArg some (by kernel_rfl))⟩
  f16 := ⟨Tryz.f112.name, by decide, Tryz.func112.trans (congrArg some (by kernel_rfl))⟩
  f17 := ⟨Tryz.f113.name, by decide, Tryz.func113.trans (congrArg some (by kernel_rfl))⟩
  f18 := ⟨Tryz.f114.name, by decide, Tryz.func114.trans (congrArg some (by kernel_rfl))⟩
  f19 := Tryz.func104.trans (congrArg some (by kernel_rfl))
  f20 := Tryz.func105.trans (congrArg some (by kernel_rfl))
  f30 := ⟨Tryz.f120.name, by decide, Tryz.func120.trans (congrArg some (by kernel_rfl))⟩
  f31 := Tryz.func116.trans (congrArg some (by kernel_rfl))
  f32 := Tryz.func117.trans (congrArg some (by kernel_rfl))
  f33 := ⟨Tryz.f121.name, by decide, Tryz.func121.trans (congrArg some (by kernel_rfl))⟩
  f34 := ⟨Tryz.f122.name, by decide, Tryz.func122.trans (congrArg some (by kernel_rfl))⟩
  f35 := ⟨Tryz.f88.name, by decide, Tryz.func88.trans (congrArg some (by kernel_rfl))⟩
  f40 := ⟨Tryz.f124.name, by decide, Tryz.func124.trans (congrArg some (by kernel_rfl))⟩
  t0 := Tryz.underlying0
  a0 := Tryz.isAgg0
  z0 := Tryz.sizeOf0
  v0 := Tryz.zeroValue0
  t3 := Tryz.underlying3
  a3 := Tryz.isAgg3
  z3 := Tryz.sizeOf3
  v3 := Tryz.zeroValue3
  t4 := Tryz.underlying4
  a4 := Tryz.isAgg4
  z4 := Tryz.sizeOf4
  v4 := Tryz.zeroValue4
  t5 := Tryz.underlying5
  a5 := Tryz.isAgg5
  z5 := Tryz.sizeOf5
  v5 := Tryz.zeroValue5
  t9 := Tryz.underlying9
  a9 := Tryz.isAgg9
  z9 := Tryz.sizeOf9
  v9 := Tryz.zeroValue9
  t22 := Tryz.underlying61
  a22 := Tryz.isAgg61
  z22 := Tryz.sizeOf61
  v22 := Tryz.zeroValue61
  t23 := Tryz.underlying61
  a23 := Tryz.isAgg61
  z23 := Tryz.sizeOf61
  v23 := Tryz.zeroValue61
  t25 := Tryz.underlying3
  a25 := Tryz.isAgg3
  z25 := Tryz.sizeOf3
  v25 := Tryz.zeroValue3
  t32 := Tryz.underlying146
  a32 := Tryz.isAgg146
  z32 := Tryz.sizeOf146
  v32 := Tryz.zeroValue146
  t35 := Tryz.underlying157
  a35 := Tryz.isAgg157
  z35 := Tryz.sizeOf157
  v35 := Tryz.zeroValue157
  t36 := Tryz.underlying158
  a36 := Tryz.isAgg158
  z36 := Tryz.sizeOf158
  v36 := Tryz.zeroValue158
  t41 := Tryz.underlying98
  a41 := Tryz.isAgg98
  z41 := Tryz.sizeOf98
  v41 := Tryz.zeroValue98
  t44 := Tryz.underlying164
  a44 := Tryz.isAgg164
  z44 := Tryz.sizeOf164
  v44 := Tryz.zeroValue164
  t46 := Tryz.underlying166
  a46 := Tryz.isAgg166
  z46 := Tryz.sizeOf166
  v46 := Tryz.zeroValue166
  t53 := Tryz.underlying172
  a53 := Tryz.isAgg172
  z53 := Tryz.sizeOf172
  v53 := Tryz.zeroValue172
  t57 := Tryz.underlying176
  a57 := Tryz.isAgg176
  z57 := Tryz.sizeOf176
  v57 := Tryz.zeroValue176
  t63 := Tryz.underlying180
  a63 := Tryz.isAgg180
  z63 := Tryz.sizeOf180
  v63 := Tryz.zeroValue180
  t64 := Tryz.underlying36
  a64 := Tryz.isAgg36
  z64 := Tryz.sizeOf36
  v64 := Tryz.zeroValue36 }
def cmpL_ren : Go.Shelf.Ren := ⟨fun | 5 => 66 | 7 => 88 | n => n, fun | 22 => 3 | 3 => 3 | 4 => 4 | n => n, fun | n => n⟩
theorem cmpL : Go.Proofs.SlLaysC2.n5 Tryz.prog cmpL_ren := {
  mixed := by kernel_rfl
  f5 := ⟨Tryz.f66.name, by decide, Tryz.func66.trans (congrArg some (by kernel_rfl))⟩
  f7 := ⟨Tryz.f88.name, by decide, Tryz.func88.trans (congrArg some (by kernel_rfl))⟩
  t3 := Tryz.underlying3
  a3 := Tryz.isAgg3
  z3 := Tryz.sizeOf3
  v3 := Tryz.zeroValue3
  t4 := Tryz.underlying4
  a4 := Tryz.isAgg4
  z4 := Tryz.sizeOf4
  v4 := Tryz.zeroValue4
  t22 := Tryz.underlying3
  a22 := Tryz.isAgg3
  z22 := Tryz.sizeOf3
  v22 := Tryz.zeroValue3 }
instance instInhSp : Inhabited Sp := ⟨zSp⟩
def cfS (x y : Sp) : Int := Lib.compareInt x.f y.f
theorem cfS_lt (x y : Sp) : ltOf cfS x y = decide (x.f < y.f) := by
  unfold ltOf cfS Lib.compareInt
  by_cases h1 : x.f < y.f
  · simp [h1]
  · by_cases h2 : y.f < x.f <;> simp [h1, h2]
theorem cfS_swo : Sort.SWO (ltOf cfS) where
  irrefl x := by rw [cfS_lt]; simp
  trans x y z h1 h2 := by rw [cfS_lt] at *; simp at *; omega
  ntrans x y z h1 h2 := by rw [cfS_lt] at *; simp at *; omega
set_option maxHeartbeats 10000000 in
theorem gath1_c (x y : Sp) (W : World) : Calls Tryz.prog 65 #[.agg #[.int .i64 x.y, .int .i64 x.f, .int .i64 x.t], .agg #[.int .i64 y.y, .int .i64 y.f, .int .i64 y.t]] W fun e w' => e = .returned (.int .i64 (Lib.compareInt x.f y.f)) ∧ ∃ q os', w' = Sort.grow (W.drewN q) os' := by
  have hcon := fun W' => AnyG.cmp_Compare_int cmpL x.f y.f W'
  change ∀ W', Calls Tryz.prog 66 _ _ _ at hcon
  generalize Lib.compareInt x.f y.f = r at hcon ⊢
  go_enter Tryz.func65, Tryz.ntmps65
  go_wp2_with (go_at_call 66; refine (hcon _).mono ?_; rintro e w' ⟨rfl, rfl⟩)
  go_ret
  exact ⟨rfl, 0, _, by rw [Sort.alloc_eq_grow, Sort.alloc_eq_grow, Sort.grow_grow]; rfl⟩
theorem gath1_lays (blk off size : Nat) (w : World) : CmpLays Tryz.prog 65 #[] s3 3 cfS blk off size w :=
  fun _ _ _ _ x y => gath1_c x y _
def srtS (l : List Sp) : List Sp := (Sort.pdq (ltOf cfS) l.toArray 0 l.length (Lib.bitLen l.length) true true).toList
theorem srtS_ok (l : List Sp) : (srtS l).Perm l ∧ (srtS l).Pairwise (fun a b => a.f ≤ b.f) := by
  have h := Sort.pdq_sorts (ltOf cfS) cfS_swo l.toArray 0 l.length (Lib.bitLen l.length) true true (Nat.zero_le _) (by simp) (Or.inl rfl)
  obtain ⟨⟨h1, _, h3⟩, h4⟩ := h
  have hsz : (srtS l).length = l.length := by unfold srtS; simpa using h1
  refine ⟨?_, ?_⟩
  · have e1 : ∀ a : Array Sp, a.size = l.length → (a.extract 0 l.length).toList = a.toList := fun a ha => by rw [← ha, Array.extract_size]
    rw [e1 _ (by simpa using h1), e1 _ (by simp)] at h3
    exact h3
  · refine List.pairwise_iff_getElem.2 fun i j hi hj hij => ?_
    have := h4 i j (Nat.zero_le _) hij (by omega)
    rw [cfS_lt, decide_eq_false_iff_not, Int.not_lt] at this
    have e2 : ∀ k (hk : k < (srtS l).length), (Sort.pdq (ltOf cfS) l.toArray 0 l.length (Lib.bitLen l.length) true true)[k]! = (srtS l)[k] := fun k hk => by
      have hk' : k < (Sort.pdq (ltOf cfS) l.toArray 0 l.length (Lib.bitLen l.length) true true).size := by unfold srtS at hk; simpa using hk
      rw [getElem!_pos _ k hk']
      rfl
    rw [e2 i hi, e2 j hj] at this
    exact this
theorem srtS_len (l : List Sp) : (srtS l).length = l.length := (srtS_ok l).1.length_eq
theorem spSort_d (l : List Sp) (hne : l ≠ []) (hsz : l.length < 4611686018427387904) : DFun Tryz.prog 64 [.arr 0, .fn (.func 65) [] []] [.arr 41 3 l.length (l.flatMap s3)] (.tup []) [.arr 41 3 l.length ((srtS l).flatMap s3)] := by
  refine sortFunc_d (cf := cfS) s3_len (by decide) (fun _ => rfl) (by kernel_rfl) (fun b cap w hH hb => ?_) cfS_swo hne
  have := AnyQ.slices_SortFunc_eq sortF 3 Tryz.isAgg41 Tryz.sizeOf41 s3 (fun _ => rfl) (fun x v hv => by simp [s3] at hv; rcases hv with rfl | rfl | rfl <;> rfl) cfS cfS_swo 65 #[] b 0 cap l.toArray w (enters_of Tryz.func65 (by kernel_rfl) rfl) (gath1_lays b 0 _ w) hH hb (by simpa using hsz)
  rw [List.size_toArray] at this
  exact this
theorem sortsI (m : Nat) : AnyZI.SortsIn Tryz.prog sortedL_ren Fence.wide m :=
  ⟨fun blk off cap ss W hH hblk hsz => callsIn_wide.2 (AnyM.slices_Sort_int sortL blk off cap ss W hH hblk hsz),
   fun p cap W => callsIn_wide.2 (AnyM.slices_Sort_int_none sortL p cap W)⟩
theorem sortedK_c (ks : List Int) (hn : ks.Nodup) (hl : ks.length ≤ 1000000) (hr : ∀ k ∈ ks, -9223372036854775808 ≤ k ∧ k ≤ 9223372036854775807) (Bm b : Nat) (vs : List Value) (w : World) (hm : w.cell? ⟨Bm, 0, none⟩ = some (.map (some b))) (hBm : Bm < w.heap.size) (hvl : vs.length = ks.length) (hb : w.heap[b]? = some (.map (entsI 0 ks vs).toArray ks.length)) :
    Calls Tryz.prog 62 #[.func (.func 85) #[] #[.pointer (some ⟨Bm, 0, none⟩)]] w fun e w' => ∃ (v : Value) (ss : List Int), e = .returned v ∧ ss.Perm ks ∧ w'.ownsRow w.heap.size 3 1 v ss.length ((ss.mergeSort leI).map encZ) ∧ Below w.heap.size w w' := by
  have hmaxL : ks.length ≤ maxLen := Nat.le_trans hl (by decide)
  obtain ⟨D0, hown, hperm, hsize⟩ := owns_keys (P := Tryz.prog) (K := 3) Tryz.underlying3 hvl hn hmaxL (fun k hk => by
    have := hr k hk
    simp [Lit.wf, IntKind.min, IntKind.max, IntKind.signed, IntKind.bits]
    omega) hb
  have hseq : SeqGives Fence.wide 2 Tryz.prog 85 #[.pointer (some ⟨Bm, 0, none⟩)] encZ (fun ss => ss.Perm (intKeys D0)) (Maps.size D0) w :=
    AnyZI.keys_gives (ρ := keysL_ren) { keysL with } Fence.wide _ trivial rfl (by omega) Bm b _ D0 w hBm hm hown
  have cS := AnyZI.sorted_in sortedL Fence.wide 5 trivial trivial trivial trivial rfl (by omega) (sortsI _) (enters_of Tryz.func84 (by kernel_rfl) rfl) 85 #[.pointer (some ⟨Bm, 0, none⟩)] trivial (enters_of Tryz.func85 (by kernel_rfl) rfl) _ _ (by rw [hsize]; exact hmaxL) (by omega) _ hseq
  refine (callsIn_wide.1 cS).mono ?_
  rintro e w' ⟨v, ss, rfl, hp, hrow, _, hbel⟩
  exact ⟨v, ss, rfl, hp.trans hperm, hrow, hbel⟩
def iv (z : Int) : List Value := [.int .i64 z]
theorem sortedK_d (Tm : TypeId) (ks : List Int) (l : List D) (B : Blk) (hn : ks.Nodup) (hl : ks.length ≤ 1000000) (hr : ∀ k ∈ ks, -9223372036854775808 ≤ k ∧ k ≤ 9223372036854775807) :
    DFun Tryz.prog 62 [.fn (.func 85) [] [.loc 0 0]] [.mix Tm [.hnd 1], .mpd ks l, B] (.arr 3) [.mix Tm [.hnd 1], .mpd ks l, B, .arr 3 1 (ks.mergeSort leI).length ((ks.mergeSort leI).flatMap iv)] := by
  have h := sortedKeys_d (Tm := Tm) (T := 3) (l := l) B (by kernel_rfl) (sortedK_c ks hn hl hr)
  have e1 : (ks.mergeSort leI).flatMap iv = (ks.mergeSort leI).map encZ := flat_map1 encZ _
  rw [e1, List.length_mergeSort]
  exact h
end Go.Proofs.YtfnhckildfbikaaGreat
namespace Go.Proofs.YtfnhckildfbikaaGreat
set_option maxRecDepth 4000
set_option linter.unusedVariables false
set_option linter.unusedSimpArgs false
open Go.RowKit
def rowY (l : List Sp) (y : Int) : List Sp := l.filter fun s => decide (s.y = y)
theorem rowY_mem {l : List Sp} {y : Int} {s : Sp} : s ∈ rowY l y ↔ s ∈ l ∧ s.y = y := by unfold rowY; rw [List.mem_filter, decide_eq_true_eq]
theorem rowY_len (l : List Sp) (y : Int) : (rowY l y).length ≤ l.length := List.length_filter_le ..
theorem rowY_take {l : List Sp} {i : Nat} (hi : i < l.length) (y : Int) : rowY (l.take (i + 1)) y = rowY (l.take i) y ++ (if l[i].y = y then [l[i]] else []) := by
  unfold rowY
  rw [List.take_succ_eq_append_getElem hi, List.filter_append]
  congr 1
  by_cases e : l[i].y = y <;> simp [e]
structure GS where
  i : Nat
  ks : List Int
  nn : List Nat
  Bs : List Mem
abbrev rowB (l : List Sp) (y : Int) : Mem := .arr 41 3 (rowY l y).length ((rowY l y).flatMap s3)
structure GOk (l : List Sp) (g : GS) : Prop where
  le : g.i ≤ l.length
  nd : g.ks.Nodup
  len : g.nn.length = g.ks.length
  keys : ∀ y, y ∈ g.ks ↔ ∃ s ∈ l.take g.i, s.y = y
  nnd : g.nn.Nodup
  rows : ∀ (j : Nat) y k, g.ks[j]? = some y → g.nn[j]? = some k → g.Bs[k]? = some (rowB (l.take g.i) y)
theorem GOk.zero (l : List Sp) : GOk l ⟨0, [], [], []⟩ := ⟨Nat.zero_le _, List.nodup_nil, rfl, fun y => by simp, List.nodup_nil, fun j y k h => by simp at h⟩
theorem GOk.klen {l : List Sp} {g : GS} (h : GOk l g) : g.ks.length ≤ l.length := by
  have h1 : g.ks ⊆ (l.take g.i).map Sp.y := fun y hy => by
    obtain ⟨s, hs, e⟩ := (h.keys y).1 hy
    exact List.mem_map.2 ⟨s, hs, e⟩
  have := (List.nodup_iff_count.1 h.nd)
  have h2 : g.ks.length ≤ ((l.take g.i).map Sp.y).length := h.nd.length_le_of_subset h1
  rw [List.length_map, List.length_take] at h2
  omega
theorem GOk.bs {l : List Sp} {g : GS} (h : GOk l g) {j : Nat} {k : Nat} (hk : g.nn[j]? = some k) : k < g.Bs.length := by
  have hj : j < g.ks.length := by rw [← h.len]; exact (List.getElem?_eq_some_iff.1 hk).1
  exact (List.getElem?_eq_some_iff.1 (h.rows j _ k (List.getElem?_eq_getElem hj) hk)).1
theorem GOk.new {l : List Sp} {g : GS} (h : GOk l g) (hi : g.i < l.length) (hk : l[g.i].y ∉ g.ks) {B : Mem} (hB : B = .arr 41 3 1 (s3 l[g.i])) : GOk l ⟨g.i + 1, g.ks ++ [l[g.i].y], g.nn ++ [g.Bs.length], g.Bs ++ [B]⟩ := by
  subst hB
  have hno : ∀ s ∈ l.take g.i, s.y ≠ l[g.i].y := fun s hs e => hk ((h.keys _).2 ⟨s, hs, e⟩)
  refine ⟨hi, ?_, by simp [h.len], fun y => ?_, ?_, fun j y k h1 h2 => ?_⟩
  · exact List.nodup_append.2 ⟨h.nd, by simp, fun a ha b hb => by simp at hb; subst hb; exact fun e => hk (e ▸ ha)⟩
  · simp only
    rw [List.mem_append, h.keys, List.take_succ_eq_append_getElem hi]
    constructor
    · rintro (⟨s, hs, e⟩ | e)
      · exact ⟨s, List.mem_append.2 (.inl hs), e⟩
      · exact ⟨l[g.i], List.mem_append.2 (.inr (by simp)), (List.mem_singleton.1 e).symm⟩
    · rintro ⟨s, hs, e⟩
      rcases List.mem_append.1 hs with hs | hs
      · exact .inl ⟨s, hs, e⟩
      · rw [List.mem_singleton.1 hs] at e; exact .inr (by simp [e])
  · refine List.nodup_append.2 ⟨h.nnd, by simp, fun a ha b hb => ?_⟩
    simp at hb
    subst hb
    obtain ⟨q, hq⟩ := List.getElem?_of_mem ha
    have := h.bs hq
    omega
  · simp only at *
    by_cases e : j < g.ks.length
    · rw [List.getElem?_append_left e] at h1
      rw [List.getElem?_append_left (by rw [h.len]; exact e)] at h2
      have hne : ¬ l[g.i].y = y := fun e => hk (e ▸ List.mem_of_getElem? h1)
      rw [List.getElem?_append_left (h.bs h2), h.rows j y k h1 h2]
      unfold rowB
      rw [rowY_take hi, if_neg hne, List.append_nil]
    · rw [List.getElem?_append_right (by omega)] at h1
      rw [List.getElem?_append_right (by rw [h.len]; omega)] at h2
      have e1 : j - g.ks.length = 0 := by
        have := (List.getElem?_eq_some_iff.1 h1).1
        simp at this; omega
      rw [e1] at h1
      rw [h.len, e1] at h2
      simp at h1 h2
      subst h1 h2
      have e2 : rowY (l.take g.i) l[g.i].y = [] := List.eq_nil_iff_forall_not_mem.2 fun s hs => hno s (rowY_mem.1 hs).1 (rowY_mem.1 hs).2
      rw [List.getElem?_append_right (Nat.le_refl _), Nat.sub_self]
      unfold rowB
      rw [rowY_take hi, if_pos rfl, e2]
      simp
theorem GOk.old {l : List Sp} {g : GS} (h : GOk l g) (hi : g.i < l.length) {j k : Nat} (hj : g.ks[j]? = some l[g.i].y) (hk : g.nn[j]? = some k) {B : Mem} (hB : B = .arr 41 3 ((rowY (l.take g.i) l[g.i].y).length + 1) ((rowY (l.take g.i) l[g.i].y).flatMap s3 ++ s3 l[g.i])) : GOk l ⟨g.i + 1, g.ks, g.nn.set j g.Bs.length, g.Bs.set k .gone ++ [B]⟩ := by
  subst hB
  refine ⟨hi, h.nd, by simp [h.len], fun y => ?_, ?_, fun q y k' h1 h2 => ?_⟩
  · simp only
    rw [h.keys, List.take_succ_eq_append_getElem hi]
    constructor
    · rintro ⟨s, hs, e⟩
      exact ⟨s, List.mem_append.2 (.inl hs), e⟩
    · rintro ⟨s, hs, e⟩
      rcases List.mem_append.1 hs with hs | hs
      · exact ⟨s, hs, e⟩
      · rw [List.mem_singleton.1 hs] at e
        exact (h.keys y).1 (e ▸ List.mem_of_getElem? hj)
  · refine List.nodup_iff_pairwise_ne.2 (List.pairwise_iff_getElem.2 fun a b ha hb hab => ?_)
    simp only [List.length_set] at ha hb
    rw [List.getElem_set, List.getElem_set]
    have nb : ∀ q (hq : q < g.nn.length), g.nn[q] < g.Bs.length := fun q hq => h.bs (List.getElem?_eq_getElem hq)
    split
    · split
      · omega
      · have := nb b hb; omega
    · split
      · have := nb a ha; omega
      · exact List.pairwise_iff_getElem.1 h.nnd a b ha hb hab
  · simp only at *
    by_cases e : j = q
    · subst e
      have hjl : j < g.nn.length := (List.getElem?_eq_some_iff.1 hk).1
      rw [List.getElem?_set_self hjl] at h2
      cases h2
      rw [hj] at h1
      cases h1
      rw [List.getElem?_append_right (by simp), List.length_set, Nat.sub_self]
      unfold rowB
      rw [rowY_take hi, if_pos rfl]
      simp
    · rw [List.getElem?_set_ne e] at h2
      have hkk : k ≠ k' := fun e2 => by
        subst e2
        obtain ⟨q1, q2⟩ := List.getElem?_eq_some_iff.1 hk
        obtain ⟨q3, q4⟩ := List.getElem?_eq_some_iff.1 h2
        rcases Nat.lt_or_gt_of_ne e with e3 | e3
        · exact List.pairwise_iff_getElem.1 h.nnd j q q1 q3 e3 (q2.trans q4.symm)
        · exact List.pairwise_iff_getElem.1 h.nnd q j q3 q1 e3 (q4.trans q2.symm)
      have hne : ¬ l[g.i].y = y := fun e2 => by
        rw [e2] at hj
        obtain ⟨q1, q2⟩ := List.getElem?_eq_some_iff.1 hj
        obtain ⟨q3, q4⟩ := List.getElem?_eq_some_iff.1 h1
        rcases Nat.lt_or_gt_of_ne e with e3 | e3
        · exact List.pairwise_iff_getElem.1 h.nd j q q1 q3 e3 (q2.trans q4.symm)
        · exact List.pairwise_iff_getElem.1 h.nd q j q3 q1 e3 (q4.trans q2.symm)
      rw [List.getElem?_append_left (by rw [List.length_set]; exact h.bs h2), List.getElem?_set_ne hkk, h.rows q y k' h1 h2]
      unfold rowB
      rw [rowY_take hi, if_neg hne, List.append_nil]
theorem rows_perm : ∀ (ks : List Int) (l : List Sp), ks.Nodup → (∀ s ∈ l, s.y ∈ ks) → (ks.flatMap (rowY l)).Perm l
  | [], l, _, h => by
    have : l = [] := List.eq_nil_iff_forall_not_mem.2 fun s hs => (List.not_mem_nil (h s hs))
    subst this
    exact .refl _
  | k :: ks, l, hn, h => by
    obtain ⟨n1, n2⟩ := List.nodup_cons.1 hn
    rw [List.flatMap_cons]
    have e : ∀ y ∈ ks, rowY l y = rowY (l.filter fun s => !decide (s.y = k)) y := fun y hy => by
      unfold rowY
      rw [List.filter_filter]
      refine List.filter_congr fun s _ => ?_
      by_cases h1 : s.y = y
      · have : ¬ s.y = k := fun e => n1 (e ▸ h1 ▸ hy)
        simp [h1, this]
        exact fun e => this (h1.trans e)
      · simp [h1]
    have e2 : ks.flatMap (rowY l) = ks.flatMap (rowY (l.filter fun s => !decide (s.y = k))) := by
      rw [List.flatMap_def, List.flatMap_def, List.map_congr_left e]
    rw [e2]
    have hp := rows_perm ks (l.filter fun s => !decide (s.y = k)) n2 fun s hs => by
      obtain ⟨h1, h2⟩ := List.mem_filter.1 hs
      rcases List.mem_cons.1 (h s h1) with h3 | h3
      · simp [h3] at h2
      · exact h3
    exact (List.Perm.append_left _ hp).trans (List.filter_append_perm ..)
theorem perm_flat {f g : Int → List Sp} (h : ∀ y, (f y).Perm (g y)) : ∀ ks : List Int, (ks.flatMap f).Perm (ks.flatMap g)
  | [] => .refl _
  | k :: ks => by rw [List.flatMap_cons, List.flatMap_cons]; exact (h k).append (perm_flat h ks)
theorem merges_bd : ∀ (m out : List Sp), (∀ s ∈ out, bdS s) → (∀ s ∈ m, bdS s) → ∀ s ∈ m.foldl mergeS out, bdS s
  | [], out, h, _ => h
  | s :: m, out, h, hm => merges_bd m (mergeS out s) (fun b hb => by
    have hs := hm s (List.mem_cons_self ..)
    rcases list_last out with rfl | ⟨l, a, rfl⟩
    · rw [mergeS_nil] at hb; rw [List.mem_singleton.1 hb]; exact hs
    · rw [mergeS_app] at hb
      have ha := h a (by simp)
      split at hb
      · rcases List.mem_append.1 hb with hb | hb
        · exact h b hb
        · rw [List.mem_singleton.1 hb]; exact hs
      · rcases List.mem_append.1 hb with hb | hb
        · exact h b (by simp [hb])
        · rw [List.mem_singleton.1 hb]
          unfold bdS at *
          simp only
          omega) fun b hb => hm b (List.mem_cons_of_mem _ hb)
theorem merges_y {p : Int → Prop} : ∀ (m out : List Sp), (∀ s ∈ out, p s.y) → (∀ s ∈ m, p s.y) → ∀ s ∈ m.foldl mergeS out, p s.y
  | [], out, h, _ => h
  | s :: m, out, h, hm => merges_y m (mergeS out s) (fun b hb => by
    have hs := hm s (List.mem_cons_self ..)
    rcases list_last out with rfl | ⟨l, a, rfl⟩
    · rw [mergeS_nil] at hb; rw [List.mem_singleton.1 hb]; exact hs
    · rw [mergeS_app] at hb
      have ha := h a (by simp)
      split at hb
      · rcases List.mem_append.1 hb with hb | hb
        · exact h b hb
        · rw [List.mem_singleton.1 hb]; exact hs
      · rcases List.mem_append.1 hb with hb | hb
        · exact h b (by simp [hb])
        · rw [List.mem_singleton.1 hb]; exact ha) fun b hb => hm b (List.mem_cons_of_mem _ hb)
theorem merges_ge : ∀ (m out : List Sp), out.length ≤ (m.foldl mergeS out).length
  | [], out => Nat.le_refl _
  | s :: m, out => Nat.le_trans (mergeS_len out s).1 (merges_ge m _)
abbrev lastS (out : List Sp) : Sp := out.getD (out.length - 1) zSp
theorem lastS_app (l : List Sp) (a : Sp) : lastS (l ++ [a]) = a := by
  unfold lastS
  rw [List.length_append, List.getD_eq_getElem?_getD, List.getElem?_append_right (by simp)]
  simp
theorem mergeS_push {out : List Sp} {s : Sp} (h : out = [] ∨ apS (lastS out) s) : mergeS out s = out ++ [s] := by
  rcases list_last out with rfl | ⟨l, a, rfl⟩
  · rfl
  · rw [lastS_app] at h
    rw [mergeS_app, if_pos (h.resolve_left (by simp))]
theorem mergeS_set {out : List Sp} {s : Sp} (h0 : 0 < out.length) (h : ¬ apS (lastS out) s) : mergeS out s = out.set (out.length - 1) ⟨(lastS out).y, (lastS out).f, max (lastS out).t s.t⟩ := by
  rcases list_last out with rfl | ⟨l, a, rfl⟩
  · cases h0
  · rw [lastS_app] at h ⊢
    rw [mergeS_app, if_neg h]
    simp
theorem merges_first {m out : List Sp} {y : Int} (ho : ∀ s ∈ out, s.y < y) (hm : ∀ s ∈ m, s.y = y) : m = [] ∨ out.length + 1 ≤ (m.foldl mergeS out).length := by
  cases m with
  | nil => exact .inl rfl
  | cons s m =>
    right
    have e : mergeS out s = out ++ [s] := mergeS_push (by
      rcases list_last out with rfl | ⟨l, a, rfl⟩
      · exact .inl rfl
      · right
        rw [lastS_app]
        have := ho a (by simp)
        have := hm s (List.mem_cons_self ..)
        unfold apS
        omega)
    rw [List.foldl_cons, e]
    have := merges_ge m (out ++ [s])
    simpa using this
theorem merges_take {m out : List Sp} {k : Nat} (hk : k < m.length) : (m.take (k + 1)).foldl mergeS out = mergeS ((m.take k).foldl mergeS out) m[k] := by
  rw [List.take_succ_eq_append_getElem hk, List.foldl_append]
  rfl
end Go.Proofs.YtfnhckildfbikaaGreat
namespace Go.Proofs.YtfnhckildfbikaaGreat
set_option maxRecDepth 4000
set_option linter.unusedVariables false
set_option linter.unusedSimpArgs false
open Go.RowKit
def gathR (l : List Sp) (ys : List Int) : List Sp := ys.foldl (fun o y => (srtS (rowY l y)).foldl mergeS o) []
theorem gathR_flat (l : List Sp) : ∀ (ys : List Int) (o : List Sp), ys.foldl (fun o y => (srtS (rowY l y)).foldl mergeS o) o = (ys.flatMap fun y => srtS (rowY l y)).foldl mergeS o
  | [], o => rfl
  | y :: ys, o => by rw [List.foldl_cons, gathR_flat l ys, List.flatMap_cons, List.foldl_append]
theorem gathR_add (l : List Sp) (ys : List Int) {i : Nat} (hi : i < ys.length) : gathR l (ys.take (i + 1)) = (srtS (rowY l ys[i])).foldl mergeS (gathR l (ys.take i)) := by
  unfold gathR
  rw [List.take_succ_eq_append_getElem hi, List.foldl_append]
  rfl
theorem srtS_mem {l : List Sp} {s : Sp} : s ∈ srtS l ↔ s ∈ l := (srtS_ok l).1.mem_iff
theorem gathR_y (l : List Sp) (ys : List Int) : ∀ s ∈ gathR l ys, s.y ∈ ys := by
  unfold gathR
  rw [gathR_flat]
  refine merges_y (p := fun y => y ∈ ys) _ _ (fun s h => (List.not_mem_nil h).elim) fun s hs => ?_
  obtain ⟨y, hy, h⟩ := List.mem_flatMap.1 hs
  rw [(rowY_mem.1 (srtS_mem.1 h)).2]
  exact hy
theorem gathR_bd {l : List Sp} (h : ∀ s ∈ l, bdS s) (ys : List Int) : ∀ s ∈ gathR l ys, bdS s := by
  unfold gathR
  rw [gathR_flat]
  refine merges_bd _ _ (fun s h => (List.not_mem_nil h).elim) fun s hs => ?_
  obtain ⟨y, hy, g⟩ := List.mem_flatMap.1 hs
  exact h s (rowY_mem.1 (srtS_mem.1 g)).1
theorem gathR_perm {l : List Sp} {ys : List Int} (hn : ys.Nodup) (hk : ∀ s ∈ l, s.y ∈ ys) : (ys.flatMap fun y => srtS (rowY l y)).Perm l :=
  (perm_flat (fun y => (srtS_ok (rowY l y)).1) ys).trans (rows_perm ys l hn hk)
theorem gathR_len {l : List Sp} {ys : List Int} (hn : ys.Nodup) (hk : ∀ s ∈ l, s.y ∈ ys) (i : Nat) : (gathR l (ys.take i)).length ≤ l.length := by
  unfold gathR
  rw [gathR_flat]
  have h1 := merges_len ((ys.take i).flatMap fun y => srtS (rowY l y)) []
  have h2 := (gathR_perm hn hk).length_eq
  have h3 : ((ys.take i).flatMap fun y => srtS (rowY l y)).length ≤ (ys.flatMap fun y => srtS (rowY l y)).length := by
    conv => rhs; rw [← List.take_append_drop i ys, List.flatMap_append, List.length_append]
    omega
  rw [List.length_nil, Nat.zero_add] at h1
  omega
theorem gathR_norm {l : List Sp} (hv : ∀ s ∈ l, s.f ≤ s.t) {ys : List Int} (hs : ys.Pairwise (· < ·)) (hk : ∀ s ∈ l, s.y ∈ ys) : gathR l ys = normS l := by
  have hn : ys.Nodup := hs.imp fun h => by omega
  unfold gathR
  rw [gathR_flat]
  refine norm_of_sorted hv (gathR_perm hn hk) ?_
  refine List.pairwise_flatMap.2 ⟨fun y _ => ?_, hs.imp fun {a b} hab x hx z hz => ?_⟩
  · refine (srtS_ok (rowY l y)).2.imp_of_mem fun {a b} ha hb hab => ?_
    have h1 := (rowY_mem.1 (srtS_mem.1 ha)).2
    have h2 := (rowY_mem.1 (srtS_mem.1 hb)).2
    right
    omega
  · have h1 := (rowY_mem.1 (srtS_mem.1 hx)).2
    have h2 := (rowY_mem.1 (srtS_mem.1 hz)).2
    left
    omega
theorem keys_sorted {ks : List Int} (hn : ks.Nodup) : (ks.mergeSort leI).Pairwise (· < ·) ∧ (ks.mergeSort leI).Perm ks := by
  have hp := List.mergeSort_perm ks leI
  have hnd : (ks.mergeSort leI).Nodup := hp.nodup_iff.2 hn
  have hs : (ks.mergeSort leI).Pairwise (fun a b => leI a b = true) := List.pairwise_mergeSort (fun a b c h1 h2 => by simp only [leI, decide_eq_true_eq] at *; omega) (fun a b => by simp only [leI, Bool.or_eq_true, decide_eq_true_eq]; omega) ks
  refine ⟨?_, hp⟩
  refine (hs.and hnd).imp fun h => ?_
  have h1 := h.1
  simp only [leI, decide_eq_true_eq] at h1
  have h2 := h.2
  omega
def LOk (l : List Sp) (g : GS) (i : Nat) (Bs : List Mem) : Prop := ∀ (j : Nat) y k, g.ks[j]? = some y → g.nn[j]? = some k → y ∈ (g.ks.mergeSort leI).drop i → Bs[k]? = some (rowB l y)
theorem LOk.zero {l : List Sp} {g : GS} (h : GOk l g) (he : g.i = l.length) : LOk l g 0 g.Bs := fun j y k h1 h2 _ => by
  have := h.rows j y k h1 h2
  rwa [he, List.take_length] at this
theorem LOk.step {l : List Sp} {g : GS} (h : GOk l g) {i : Nat} {Bs : List Mem} (hl : LOk l g i Bs) (hi : i < (g.ks.mergeSort leI).length) {j k : Nat} (hj : g.ks[j]? = some (g.ks.mergeSort leI)[i]) (hk : g.nn[j]? = some k) : LOk l g (i + 1) (Bs.set k .gone) := fun q y k' h1 h2 h3 => by
  have hs := keys_sorted h.nd
  have h4 : y ∈ (g.ks.mergeSort leI).drop i := by rw [List.drop_eq_getElem_cons hi]; exact List.mem_cons_of_mem _ h3
  have hne : k ≠ k' := fun e => by
    subst e
    have hjq : j = q := by
      obtain ⟨q1, q2⟩ := List.getElem?_eq_some_iff.1 hk
      obtain ⟨q3, q4⟩ := List.getElem?_eq_some_iff.1 h2
      rcases Nat.lt_trichotomy j q with e3 | e3 | e3
      · exact absurd (q2.trans q4.symm) (List.pairwise_iff_getElem.1 h.nnd j q q1 q3 e3)
      · exact e3
      · exact absurd (q4.trans q2.symm) (List.pairwise_iff_getElem.1 h.nnd q j q3 q1 e3)
    subst hjq
    rw [hj] at h1
    cases h1
    have h5 := hs.1
    rw [← List.take_append_drop i (g.ks.mergeSort leI), List.pairwise_append] at h5
    have h6 := h5.2.1
    rw [List.drop_eq_getElem_cons hi, List.pairwise_cons] at h6
    have := h6.1 _ h3
    omega
  rw [List.getElem?_set_ne hne]
  exact hl q y k' h1 h2 h4
theorem key_at {l : List Sp} {g : GS} (h : GOk l g) {i : Nat} (hi : i < (g.ks.mergeSort leI).length) : ∃ (j k : Nat), g.ks[j]? = some (g.ks.mergeSort leI)[i] ∧ g.nn[j]? = some k := by
  have hm : (g.ks.mergeSort leI)[i] ∈ g.ks := (keys_sorted h.nd).2.mem_iff.1 (List.getElem_mem hi)
  obtain ⟨j, hj⟩ := List.getElem?_of_mem hm
  have hjl : j < g.nn.length := by rw [h.len]; exact (List.getElem?_eq_some_iff.1 hj).1
  exact ⟨j, _, hj, List.getElem?_eq_getElem hjl⟩
theorem row_ne {l : List Sp} {g : GS} (h : GOk l g) (he : g.i = l.length) {y : Int} (hy : y ∈ g.ks) : rowY l y ≠ [] := fun e => by
  obtain ⟨s, hs, e1⟩ := (h.keys y).1 hy
  rw [he, List.take_length] at hs
  have : s ∈ rowY l y := rowY_mem.2 ⟨hs, e1⟩
  rw [e] at this
  exact List.not_mem_nil this
theorem push_ok {o row : List Sp} {m : Nat} {y : Int} (ho : ∀ s ∈ o, s.y < y) (hr : ∀ s ∈ row, s.y = y) (hm : m < row.length) (h : ¬ (o.length + 1 ≤ ((row.take m).foldl mergeS o).length ∧ ¬ apS (lastS ((row.take m).foldl mergeS o)) row[m])) : (row.take m).foldl mergeS o = [] ∨ apS (lastS ((row.take m).foldl mergeS o)) row[m] := by
  by_cases e : apS (lastS ((row.take m).foldl mergeS o)) row[m]
  · exact .inr e
  · rcases merges_first (m := row.take m) ho (fun s hs => hr s (List.mem_of_mem_take hs)) with h1 | h1
    · rw [h1] at e ⊢
      rcases list_last o with rfl | ⟨l, a, rfl⟩
      · exact .inl rfl
      · exfalso
        apply e
        show apS (lastS (l ++ [a])) _
        rw [lastS_app]
        have h2 := ho a (by simp)
        have h3 := hr row[m] (List.getElem_mem hm)
        unfold apS
        omega
    · exact absurd ⟨h1, e⟩ h
theorem take_lt {ys : List Int} (h : ys.Pairwise (· < ·)) {i : Nat} (hi : i < ys.length) : ∀ y ∈ ys.take i, y < ys[i] := fun y hy => by
  rw [← List.take_append_drop i ys, List.pairwise_append] at h
  exact h.2.2 y hy _ (by rw [List.drop_eq_getElem_cons hi]; exact List.mem_cons_self ..)
end Go.Proofs.YtfnhckildfbikaaGreat
namespace Go.Proofs.YtfnhckildfbikaaGreat
set_option maxRecDepth 4000
set_option linter.unusedVariables false
set_option linter.unusedSimpArgs false
open Go.RowKit
theorem mp117 : mpT Tryz.prog 117 = some (3, 32) := by kernel_rfl
theorem sl61 : slE Tryz.prog 61 = some (3, 1, 8) := by kernel_rfl
theorem zv32 : zrV Tryz.prog 32 = some (.slice none 0 0) := by kernel_rfl
set_option maxRecDepth 4000 in
set_option maxHeartbeats 1000000 in
theorem mkeys_d (ks : List Int) (nn : List Nat) (Bs : List Mem) : DFun Tryz.prog 63 [.hnd 0] [.mpd ks (nn.flatMap fun k => [.farr 1 k]), .fam Bs] (.fn (.func 85) [] [.loc 2 0]) [.mpd ks (nn.flatMap fun k => [.farr 1 k]), .fam Bs, .mix 117 [.hnd 0]] := by
  refine zan (N := 4) 2 (by kernel_rfl) Tryz.func63 rfl rfl rfl (by simp only [fr0, Nat.zero_add, Nat.reduceAdd]; exact rfl) rfl fun s0 hs0 => ?_
  refine zaf ?_
  refine zah 1 (by simp only [holes, List.cons_append, List.nil_append]; exact rfl) ?_
  refine zac ?_
  refine zaj rfl rfl rfl (op_boxh 2 rfl (ev1 rfl) rfl rfl) (by simp only [upd, zaa, za]; exact rfl) ?_
  refine zab rfl rfl rfl (zad (.inr rfl) (ev1 rfl)) ?_
  refine zae ?_
  refine zaf ?_
  refine zac ?_
  refine zab rfl rfl rfl (op_mkf rfl en (ec (ev1 rfl) en)) ?_
  refine zab rfl rfl rfl (zad (.inr rfl) (ev1 rfl)) ?_
  refine zae ?_
  refine dwp_ret ?_
  refine kend [0, 1, 2] (rs1 rfl (rv_t rfl)) rfl rfl ?_ ⟨?_, ?_, ?_, trivial⟩
  rfl
  all_goals first | exact rfl | exact mpd_fits rfl rfl (fun _ => rfl)
set_option maxRecDepth 4000 in
set_option maxHeartbeats 1000000 in
theorem gath_o (l : List Sp) (hv : ∀ s ∈ l, s.f ≤ s.t) (hb : ∀ s ∈ l, bdS s) (hn : l.length ≤ 1000000) : DFun Tryz.prog 33 [.slf 3 l.length (l.flatMap s3)] [] (.arr 0) [.arr 41 3 (normS l).length ((normS l).flatMap s3)] := by
  refine zan (N := 87) 0 (by kernel_rfl) Tryz.func33 rfl rfl rfl (by simp only [fr0, Nat.zero_add, Nat.reduceAdd]; exact rfl) rfl fun s0 hs0 => ?_
  refine dwp_len (t := 0) rfl fun hl0 hL0 => ?_
  refine zaf ?_
  refine zac ?_
  refine zab rfl rfl rfl (zad (.inr rfl) (ev1 rfl)) ?_
  refine zae ?_
  refine zaf ?_
  refine zah 1 (by simp only [holes, List.cons_append, List.nil_append]; exact rfl) ?_
  refine zac ?_
  refine zaj rfl rfl rfl (op_mkd 0 rfl rfl) (by simp only [upd, zaa, za]; exact rfl) ?_
  refine zab rfl rfl rfl (zad (.inr rfl) (ev1 rfl)) ?_
  refine zae ?_
  refine zaf ?_
  refine zaf ?_
  refine dwp_hole ?_
  refine dwp_fam 1 rfl (by simp only [List.cons_append, List.nil_append, zaa, za]; exact rfl) ?_
  refine zac ?_
  refine zab rfl rfl rfl (zad (.inl rfl) (ev1 rfl)) ?_
  refine zab rfl rfl rfl (op_len rfl sl32 (ev1 rfl)) ?_
  refine zab rfl rfl rfl (zad (.inl rfl) (ev1 rfl)) ?_
  refine zae ?_
  refine zak ?_
  refine dwp_loopS ⟨hs0, rfl⟩ (α := GS) (fun g => [(17, .val (.int .i64 (g.i : Int)))]) [(3, _), (15, _), (16, _)] (fun g => [(0, .mpd g.ks (g.nn.flatMap fun k => [.farr 1 k])), (1, .fam g.Bs)]) [.hole, .hole] (fun g => GOk l g) (fun g => l.length - g.i) ⟨0, [], [], []⟩ [0, 1] (GOk.zero l) rfl ⟨rfl, rfl, rfl, trivial⟩ ⟨rfl, trivial⟩ ⟨rfl, rfl, trivial⟩ ?_
  intro g hx
  simp only [upd, zaa, za, List.cons_append, List.nil_append]
  have hg := hx
  refine zaf ?_
  refine zac ?_
  refine zab rfl rfl rfl (op_lss rfl (ev1 rfl) (ev1 rfl)) ?_
  refine zae ?_
  refine zaf ?_
  refine dwp_cond rfl (fun c1 => ?_) (fun c1 => ?_)
  · try simp only [decide_eq_true_eq, decide_eq_false_iff_not, beq_iff_eq, bne_iff_ne, beq_eq_false_iff_ne, bne_eq_false_iff_eq, Bool.not_eq_true', Bool.not_eq_false', Bool.and_eq_true, Bool.or_eq_true, Bool.or_eq_false_iff, ne_eq, Decidable.not_not, Int.not_lt, Int.not_le] at c1
    refine zal ?_
    refine zaf ?_
    refine zak ?_
    refine zaf ?_
    have hi : g.i < l.length := by omega
    refine zah 1 (by simp only [holes, List.cons_append, List.nil_append]; exact rfl) ?_
    refine zac ?_
    refine zab rfl rfl rfl (op_ixsr (j := g.i) rfl sl32 (ev1 rfl) (ev1 rfl) (fun _ => rfl) (by decide) (by omega) (by omega)) ?_
    refine zab rfl rfl rfl (op_ldwd rfl tb41 (ev1 rfl) rfl) ?_
    refine zaj rfl rfl rfl (op_alloc 2 rfl zr41 rfl) (by simp only [upd, zaa, za]; exact rfl) ?_
    refine walk_s rfl rfl (op_stwa rfl tb41 (ev1 rfl) (ev1 rfl) rfl rfl rfl rfl) (by simp only [upd, zaa, za]; exact rfl) ?_
    refine zae ?_
    by_cases hk : l[g.i].y ∈ g.ks
    · obtain ⟨j, hj⟩ := List.getElem?_of_mem hk
      clear hk
      have hjl : j < g.nn.length := by rw [hg.len]; exact (List.getElem?_eq_some_iff.1 hj).1
      obtain ⟨k, hk⟩ : ∃ k, g.nn[j]? = some k := ⟨_, List.getElem?_eq_getElem hjl⟩
      have hB := hg.rows j _ k hj hk
      have hrl := rowY_len (l.take g.i) l[g.i].y
      rw [List.length_take] at hrl
      refine zah 2 (by simp only [holes, List.cons_append, List.nil_append]; exact rfl) ?_
      refine dwp_draw [([], []), ([], []), ([2], []), ([], []), ([], []), ([2], []), ([0], []), ([2], []), ([], []), ([1, 3, 4], [1, 3, 4]), ([0], [0])] mixed (by kernel_rfl) ?_
      refine zag rfl rfl (zad (.inl rfl) (ev1 rfl)) ?_
      refine zag rfl rfl (op_fa rfl fo41_0 (ev1 rfl)) ?_
      refine zag rfl rfl (op_ldo rfl tb3 (ev1 rfl) rfl rfl) ?_
      refine zag rfl rfl (zad (.inl rfl) (ev1 rfl)) ?_
      refine zag rfl rfl (op_fa rfl fo41_0 (ev1 rfl)) ?_
      refine zag rfl rfl (op_ldo rfl tb3 (ev1 rfl) rfl rfl) ?_
      refine zag rfl rfl (op_lkdy (j := j) mp117 it3 rfl (ev1 rfl) (ev1 rfl) rfl (fun _ => hg.nd) (fun _ => hj) (names_at hk)) ?_
      refine zag rfl rfl (op_ldw rfl tb41 (ev1 rfl) rfl rfl) ?_
      refine zag rfl rfl (op_bs (ps := [(0, .tmp 28)]) rfl sl32 zr41 rfl (vc (ev1 rfl) vn) rfl (by decide) (by decide)) ?_
      refine lex_w rfl rfl (op_appF (j1 := 3) (j2 := 4) rfl rfl sl32 zr41 rfl (ev1 rfl) (ev1 rfl) rfl (hB) rfl rfl rfl (fun _ => rfl) (fun _ => ⟨by omega, by omega⟩)) rfl (by simp only [upd, zaa, za]; exact rfl) ?_
      refine lex_s rfl rfl (op_muy (j := j) mp117 it3 rfl (ev1 rfl) (ev1 rfl) (ev1 rfl) rfl (fun _ => hg.nd) (fun _ => hj)) rfl (by simp only [upd, zaa, za]; exact rfl) ?_
      refine lex_nil ?_
      refine zac ?_
      refine zab rfl rfl rfl (op_add' rfl (ev1 rfl) (ev1 rfl) (fun _ => IntWalk.i64_in _ (by omega))) ?_
      refine zab rfl rfl rfl (zad (.inl rfl) (ev1 rfl)) ?_
      refine zae ?_
      refine ⟨⟨g.i + 1, g.ks, g.nn.set j g.Bs.length, _⟩, [0, 1], hg.old hi hj hk rfl, by simp only []; omega, rfl, ⟨rfl, rfl, rfl, rfl, trivial⟩, ⟨(by rw [names_set]; exact mpd_fits rfl rfl (fun _ => rfl)), rfl, trivial⟩⟩
    · refine zah 1 (by simp only [holes, List.cons_append, List.nil_append]; exact rfl) ?_
      refine dwp_draw [([], []), ([], []), ([2], []), ([], []), ([], []), ([2], []), ([0], []), ([2], []), ([], []), ([3], [3]), ([0], [0])] mixed (by kernel_rfl) ?_
      refine zag rfl rfl (zad (.inl rfl) (ev1 rfl)) ?_
      refine zag rfl rfl (op_fa rfl fo41_0 (ev1 rfl)) ?_
      refine zag rfl rfl (op_ldo rfl tb3 (ev1 rfl) rfl rfl) ?_
      refine zag rfl rfl (zad (.inl rfl) (ev1 rfl)) ?_
      refine zag rfl rfl (op_fa rfl fo41_0 (ev1 rfl)) ?_
      refine zag rfl rfl (op_ldo rfl tb3 (ev1 rfl) rfl rfl) ?_
      refine zag rfl rfl ((op_lkdn mp117 it3 zv32 rfl (ev1 rfl) (ev1 rfl) rfl (fun _ => hk)).wk (Wk.slc0 3)) ?_
      refine zag rfl rfl (op_ldw rfl tb41 (ev1 rfl) rfl rfl) ?_
      refine zag rfl rfl (op_bs (ps := [(0, .tmp 28)]) rfl sl32 zr41 rfl (vc (ev1 rfl) vn) rfl (by decide) (by decide)) ?_
      refine lex_w rfl rfl (op_apc 3 rfl sl32 zr41 rfl (ev1 rfl) (ev1 rfl) src_slf rfl (fun _ => ⟨by decide, by omega, by omega⟩)) rfl (by simp only [upd, zaa, za]; exact rfl) ?_
      refine lex_s rfl rfl (op_mud mp117 it3 rfl (ev1 rfl) (ev1 rfl) (ev1 rfl) rfl (fun _ => hk)) rfl (by simp only [upd, zaa, za]; exact rfl) ?_
      refine lex_nil ?_
      refine dwp_absd (l' := ((g.nn ++ [g.Bs.length]).flatMap fun k => [.farr 1 k])) 0 g.nn.length 1 rfl (names_new) rfl rfl (names_add) (by simp only [List.cons_append, List.nil_append, zaa, za]; exact rfl) ?_
      refine zac ?_
      refine zab rfl rfl rfl (op_add' rfl (ev1 rfl) (ev1 rfl) (fun _ => IntWalk.i64_in _ (by omega))) ?_
      refine zab rfl rfl rfl (zad (.inl rfl) (ev1 rfl)) ?_
      refine zae ?_
      refine ⟨⟨g.i + 1, g.ks ++ [l[g.i].y], g.nn ++ [g.Bs.length], _⟩, [0, 1], hg.new hi hk rfl, by simp only []; omega, rfl, ⟨rfl, rfl, rfl, rfl, trivial⟩, ⟨mpd_fits rfl rfl (fun _ => rfl), rfl, trivial⟩⟩
  · try simp only [decide_eq_true_eq, decide_eq_false_iff_not, beq_iff_eq, bne_iff_ne, beq_eq_false_iff_ne, bne_eq_false_iff_eq, Bool.not_eq_true', Bool.not_eq_false', Bool.and_eq_true, Bool.or_eq_true, Bool.or_eq_false_iff, ne_eq, Decidable.not_not, Int.not_lt, Int.not_le] at c1
    refine dwp_exit ?_
    refine zaf ?_
    refine zac ?_
    refine zab rfl rfl rfl (zad (.inr rfl) (ev1 rfl)) ?_
    refine zae ?_
    refine zaf ?_
    refine zaf ?_
    have he : g.i = l.length := by have := hg.le; omega
    have hkl := hg.klen
    have hsr := keys_sorted hg.nd
    have hyl := hsr.2.length_eq
    have hkey : ∀ s ∈ l, s.y ∈ (g.ks.mergeSort leI) := fun s hs => hsr.2.mem_iff.2 ((hg.keys s.y).2 ⟨s, by rw [he, List.take_length]; exact hs, rfl⟩)
    have hrg : ∀ y ∈ g.ks, -9223372036854775808 ≤ y ∧ y ≤ 9223372036854775807 := fun y hy => by
      obtain ⟨s, hs, e⟩ := (hg.keys y).1 hy
      have := hb s (List.mem_of_mem_take hs)
      unfold bdS at this
      omega
    refine zah 2 (by simp only [holes, List.cons_append, List.nil_append]; exact rfl) ?_
    refine zac ?_
    refine zab rfl rfl rfl (zad (.inl rfl) (ev1 rfl)) ?_
    refine zaj rfl rfl rfl (zai [0, 1] [] [2] rfl (ev1 rfl) (ec (ev1 rfl) en) rfl (by exact mfits _ _ ⟨mpd_fits rfl rfl (fun _ => rfl), rfl, trivial⟩) (mkeys_d _ _ _) rfl rfl rfl (by exact (wrc (sb_mpd (fun _ => rfl)) (wrc rfl (wrc rfl rfl)))) rfl rfl) (by simp only [upd, zaa, za]; exact rfl) ?_
    refine zaj rfl rfl rfl (zai [2, 0, 1] [] [3] rfl (ev1 rfl) (ec (ev1 rfl) en) rfl (by exact mfits _ _ ⟨rfl, mpd_fits rfl rfl (fun _ => rfl), rfl, trivial⟩) (sortedK_d _ _ _ _ hg.nd (by omega) hrg) rfl rfl rfl (by exact (wrc rfl (wrc (sb_mpd (fun _ => rfl)) (wrc rfl (wrc rfl rfl))))) rfl rfl) (by simp only [upd, zaa, za]; exact rfl) ?_
    refine zab rfl rfl rfl (op_lena rfl sl61 (ev1 rfl) rfl) ?_
    refine zab rfl rfl rfl (zad (.inl rfl) (ev1 rfl)) ?_
    refine zae ?_
    refine zak ?_
    refine dwp_adopt 6 41 3 rfl rfl rfl ?_
    refine dwp_loopS ⟨hs0, rfl⟩ (α := Nat × List Mem) (fun q => [(36, .val (.int .i64 (q.1 : Int)))]) [(3, _), (6, _), (34, _), (35, _)] (fun q => [(1, .fam q.2), (4, .arr 41 3 (gathR l ((g.ks.mergeSort leI).take q.1)).length ((gathR l ((g.ks.mergeSort leI).take q.1)).flatMap s3))]) [_, .hole, _, _, .hole] (fun q => q.1 ≤ g.ks.length ∧ LOk l g q.1 q.2) (fun q => g.ks.length - q.1) (0, g.Bs) [0, 1, 2, 3, 4] (⟨Nat.zero_le _, LOk.zero hg he⟩) rfl ⟨rfl, rfl, rfl, rfl, trivial⟩ ⟨rfl, trivial⟩ ⟨mpd_fits rfl rfl (fun _ => rfl), rfl, rfl, rfl, rfl, trivial⟩ ?_
    intro q hx
    simp only [upd, zaa, za, List.cons_append, List.nil_append]
    obtain ⟨i, Bs⟩ := q
    obtain ⟨hi0, hL⟩ := hx
    have hol := gathR_len (i := i) (hsr.1.imp fun h => (by omega)) hkey
    have hob := gathR_bd hb ((g.ks.mergeSort leI).take i)
    refine zaf ?_
    refine zac ?_
    refine zab rfl rfl rfl (op_lss rfl (ev1 rfl) (ev1 rfl)) ?_
    refine zae ?_
    refine zaf ?_
    refine dwp_cond rfl (fun c2 => ?_) (fun c2 => ?_)
    · try simp only [decide_eq_true_eq, decide_eq_false_iff_not, beq_iff_eq, bne_iff_ne, beq_eq_false_iff_ne, bne_eq_false_iff_eq, Bool.not_eq_true', Bool.not_eq_false', Bool.and_eq_true, Bool.or_eq_true, Bool.or_eq_false_iff, ne_eq, Decidable.not_not, Int.not_lt, Int.not_le] at c2
      refine zal ?_
      refine zaf ?_
      refine zak ?_
      refine zaf ?_
      have hi : i < (g.ks.mergeSort leI).length := by omega
      obtain ⟨j, k, hj, hk⟩ := key_at hg hi
      have hB : Bs[k]? = some (rowB l (g.ks.mergeSort leI)[i]) := hL j _ k hj hk (by rw [List.drop_eq_getElem_cons hi]; exact List.mem_cons_self ..)
      have hne := row_ne hg he (hsr.2.mem_iff.1 (List.getElem_mem hi))
      have hrl := rowY_len l (g.ks.mergeSort leI)[i]
      have hsl := srtS_len (rowY l (g.ks.mergeSort leI)[i])
      refine zac ?_
      refine zab rfl rfl rfl (op_ixar (j := i) rfl sl61 (ev1 rfl) (ev1 rfl) rfl (fun _ => by first | rfl | omega) (fun _ => by omega)) ?_
      refine zab rfl rfl rfl (op_lda1 rfl tb3 (ev1 rfl) rfl (fun _ => rfl) (by omega) rfl) ?_
      refine zab rfl rfl rfl (zad (.inr rfl) (ev1 rfl)) ?_
      refine zae ?_
      refine zaf ?_
      refine zac ?_
      refine zab rfl rfl rfl (zad (.inl rfl) (ev1 rfl)) ?_
      refine zab rfl rfl rfl (zad (.inl rfl) (ev1 rfl)) ?_
      refine zab rfl rfl rfl (op_lkdy (j := j) mp117 it3 rfl (ev1 rfl) (ev1 rfl) rfl (fun _ => hg.nd) (fun _ => hj) (names_at hk)) ?_
      refine zab rfl rfl rfl (zad (.inr rfl) (ev1 rfl)) ?_
      refine zae ?_
      refine zaf ?_
      refine dwp_hole ?_
      refine dwp_rel 9 1 (j := 5) rfl rfl (hB) rfl (by simp only [List.cons_append, List.nil_append, zaa, za]; exact rfl) ?_
      refine zac ?_
      refine zab rfl rfl rfl (zad (.inl rfl) (ev1 rfl)) ?_
      refine zaj rfl rfl rfl (zai [5] [] [] rfl (ev1 rfl) (ec (ev1 rfl) (ec (ev1 rfl) en)) rfl rfl (spSort_d _ hne (by omega)) rfl rfl rfl rfl rfl rfl) (by simp only [upd, zaa, za]; exact rfl) ?_
      refine zae ?_
      refine zaf ?_
      have hyy : ∀ s ∈ (gathR l ((g.ks.mergeSort leI).take i)), s.y < (g.ks.mergeSort leI)[i] := fun s hs => take_lt hsr.1 hi _ (gathR_y l _ s hs)
      have hry : ∀ s ∈ srtS (rowY l (g.ks.mergeSort leI)[i]), s.y = (g.ks.mergeSort leI)[i] := fun s hs => (rowY_mem.1 (srtS_mem.1 hs)).2
      have hrb : ∀ s ∈ srtS (rowY l (g.ks.mergeSort leI)[i]), bdS s := fun s hs => hb s (rowY_mem.1 (srtS_mem.1 hs)).1
      refine zac ?_
      refine zab rfl rfl rfl (zad (.inl rfl) (ev1 rfl)) ?_
      refine zab rfl rfl rfl (op_lena rfl sl32 (ev1 rfl) rfl) ?_
      refine zab rfl rfl rfl (zad (.inr rfl) (ev1 rfl)) ?_
      refine zae ?_
      refine zaf ?_
      refine zac ?_
      refine zab rfl rfl rfl (zad (.inl rfl) (ev1 rfl)) ?_
      refine zab rfl rfl rfl (op_lena rfl sl32 (ev1 rfl) rfl) ?_
      refine zab rfl rfl rfl (zad (.inl rfl) (ev1 rfl)) ?_
      refine zae ?_
      refine zak ?_
      refine dwp_loopS ⟨hs0, rfl⟩ (α := Nat) (fun m => [(49, .val (.int .i64 (m : Int)))]) [(3, _), (6, _), (10, _), (34, _), (35, _), (36, _), (47, _), (48, _)] (fun m => [(4, .arr 41 3 ((((srtS (rowY l (g.ks.mergeSort leI)[i])).take m).foldl mergeS (gathR l ((g.ks.mergeSort leI).take i)))).length (((((srtS (rowY l (g.ks.mergeSort leI)[i])).take m).foldl mergeS (gathR l ((g.ks.mergeSort leI).take i)))).flatMap s3))]) [_, _, _, _, .hole, _] (fun m => m ≤ (srtS (rowY l (g.ks.mergeSort leI)[i])).length) (fun m => (srtS (rowY l (g.ks.mergeSort leI)[i])).length - m) 0 [0, 1, 2, 3, 4, 5] (Nat.zero_le _) rfl ⟨rfl, rfl, rfl, rfl, rfl, rfl, rfl, rfl, trivial⟩ ⟨rfl, trivial⟩ ⟨mpd_fits rfl rfl (fun _ => rfl), rfl, rfl, rfl, rfl, rfl, trivial⟩ ?_
      intro m hx
      simp only [upd, zaa, za, List.cons_append, List.nil_append]
      have hm := hx
      have hxb := merges_bd ((srtS (rowY l (g.ks.mergeSort leI)[i])).take m) _ hob (fun s hs => hrb s (List.mem_of_mem_take hs))
      have hxl := merges_len ((srtS (rowY l (g.ks.mergeSort leI)[i])).take m) (gathR l ((g.ks.mergeSort leI).take i))
      have htl := List.length_take_le m (srtS (rowY l (g.ks.mergeSort leI)[i]))
      refine zaf ?_
      refine zac ?_
      refine zab rfl rfl rfl (op_lss rfl (ev1 rfl) (ev1 rfl)) ?_
      refine zae ?_
      refine zaf ?_
      refine dwp_cond rfl (fun c3 => ?_) (fun c3 => ?_)
      · try simp only [decide_eq_true_eq, decide_eq_false_iff_not, beq_iff_eq, bne_iff_ne, beq_eq_false_iff_ne, bne_eq_false_iff_eq, Bool.not_eq_true', Bool.not_eq_false', Bool.and_eq_true, Bool.or_eq_true, Bool.or_eq_false_iff, ne_eq, Decidable.not_not, Int.not_lt, Int.not_le] at c3
        refine zal ?_
        refine zaf ?_
        refine zak ?_
        refine zaf ?_
        have hmi : m < (srtS (rowY l (g.ks.mergeSort leI)[i])).length := by omega
        refine zah 1 (by simp only [holes, List.cons_append, List.nil_append]; exact rfl) ?_
        refine zac ?_
        refine zab rfl rfl rfl (op_ixar (j := m) rfl sl32 (ev1 rfl) (ev1 rfl) rfl (fun _ => by first | rfl | omega) (fun _ => by omega)) ?_
        refine zab rfl rfl rfl (op_ldar rfl tb41 (ev1 rfl) rfl (fun _ => rfl) (by omega)) ?_
        refine zaj rfl rfl rfl (op_alloc 6 rfl zr41 rfl) (by simp only [upd, zaa, za]; exact rfl) ?_
        refine walk_s rfl rfl (op_stwa rfl tb41 (ev1 rfl) (ev1 rfl) rfl rfl rfl rfl) (by simp only [upd, zaa, za]; exact rfl) ?_
        refine zae ?_
        refine zaf ?_
        refine zac ?_
        refine zab rfl rfl rfl (zad (.inl rfl) (ev1 rfl)) ?_
        refine zab rfl rfl rfl (op_lena rfl sl32 (ev1 rfl) rfl) ?_
        refine zab rfl rfl rfl (op_sub' rfl (ev1 rfl) (ev1 rfl) (fun _ => IntWalk.i64_in _ (by omega))) ?_
        refine zab rfl rfl rfl (zad (.inr rfl) (ev1 rfl)) ?_
        refine zae ?_
        refine zaf ?_
        have hbl := bd_getD (i := (((srtS (rowY l (g.ks.mergeSort leI)[i])).take m).foldl mergeS (gathR l ((g.ks.mergeSort leI).take i))).length - 1) hxb
        refine dwp_draw [([], []), ([], []), ([], []), ([], []), ([], []), ([], []), ([4], []), ([4], []), ([6], []), ([], []), ([], []), ([], [])] mixed (by kernel_rfl) ?_
        refine zag rfl rfl (zad (.inl rfl) (ev1 rfl)) ?_
        refine zag rfl rfl (zad (.inl rfl) (ev1 rfl)) ?_
        refine zag rfl rfl (op_geq rfl (ev1 rfl) (ev1 rfl)) ?_
        refine zag rfl rfl (zad (.inl rfl) (ev1 rfl)) ?_
        refine lex_gr (gd_t rfl rfl rfl) rfl rfl (zad (.inl rfl) (ev1 rfl)) ?_
        refine lex_gr (gd_t rfl rfl rfl) rfl rfl (zad (.inl rfl) (ev1 rfl)) ?_
        refine lex_gr (gd_t rfl rfl rfl) rfl rfl (op_ixar (j := (((srtS (rowY l (g.ks.mergeSort leI)[i])).take m).foldl mergeS (gathR l ((g.ks.mergeSort leI).take i))).length - 1) rfl sl32 (ev2 rfl) (ev2 rfl) rfl (fun hp => by first | rfl | omega | (simp at hp; omega)) (fun hp => by first | omega | (simp at hp; omega))) ?_
        refine lex_gr (gd_t rfl rfl rfl) rfl rfl (op_ldarg (zSp) rfl tb41 (ev2 rfl) rfl (fun _ => rfl) (fun hp => by first | omega | (simp at hp; omega))) ?_
        refine lex_gr (gd_t rfl rfl rfl) rfl rfl (op_ldw rfl tb41 (ev1 rfl) rfl rfl) ?_
        refine lex_gr (gd_t rfl rfl rfl) rfl rfl (zai [] [] [] rfl (ev1 rfl) (ec (ev2 rfl) (ec (ev2 rfl) en)) rfl rfl (apart_d _ _ hbl) rfl rfl rfl rfl rfl rfl) ?_
        refine lex_gr (gd_t rfl rfl rfl) rfl rfl (op_not rfl (ev2 rfl)) ?_
        refine zag rfl rfl (op_and rfl (ev1 rfl) (ev3 rfl id)) ?_
        refine lex_nil ?_
        refine dwp_cond rfl (fun c3 => ?_) (fun c3 => ?_)
        · rw [Bool.and_eq_true] at c3
          have c4 := of_decide_eq_true c3.1
          have hna : ¬ apS (lastS (((srtS (rowY l (g.ks.mergeSort leI)[i])).take m).foldl mergeS (gathR l ((g.ks.mergeSort leI).take i)))) (srtS (rowY l (g.ks.mergeSort leI)[i]))[m] := by have := c3.2; simpa using this
          refine dwp_draw [([], []), ([], []), ([], []), ([], []), ([4], []), ([], []), ([4], []), ([], []), ([6], []), ([], []), ([4], []), ([], []), ([4], [4])] mixed (by kernel_rfl) ?_
          refine zag rfl rfl (zad (.inl rfl) (ev1 rfl)) ?_
          refine zag rfl rfl (zad (.inl rfl) (ev1 rfl)) ?_
          refine zag rfl rfl (zad (.inl rfl) (ev1 rfl)) ?_
          refine zag rfl rfl (zad (.inl rfl) (ev1 rfl)) ?_
          refine zag rfl rfl (op_ixar (j := (((srtS (rowY l (g.ks.mergeSort leI)[i])).take m).foldl mergeS (gathR l ((g.ks.mergeSort leI).take i))).length - 1) rfl sl32 (ev1 rfl) (ev1 rfl) rfl (fun _ => by first | rfl | omega) (fun _ => by omega)) ?_
          refine zag rfl rfl (op_faa rfl fo41_2 (ev1 rfl)) ?_
          refine zag rfl rfl (op_ldaf (j := (((srtS (rowY l (g.ks.mergeSort leI)[i])).take m).foldl mergeS (gathR l ((g.ks.mergeSort leI).take i))).length - 1) (c := 2) (zSp) rfl tb3 (ev1 rfl) rfl (fun _ => rfl) (fun _ => by omega) (by decide) rfl) ?_
          refine zag rfl rfl (op_fa rfl fo41_2 (ev1 rfl)) ?_
          refine zag rfl rfl (op_ldo rfl tb3 (ev1 rfl) rfl rfl) ?_
          refine zag rfl rfl (op_max rfl (ev1 rfl) (ev1 rfl)) ?_
          refine zag rfl rfl (op_ixar (j := (((srtS (rowY l (g.ks.mergeSort leI)[i])).take m).foldl mergeS (gathR l ((g.ks.mergeSort leI).take i))).length - 1) rfl sl32 (ev1 rfl) (ev1 rfl) rfl (fun _ => by first | rfl | omega) (fun _ => by omega)) ?_
          refine zag rfl rfl (op_faa rfl fo41_2 (ev1 rfl)) ?_
          refine lex_s rfl rfl (op_staf (j := (((srtS (rowY l (g.ks.mergeSort leI)[i])).take m).foldl mergeS (gathR l ((g.ks.mergeSort leI).take i))).length - 1) (c := 2) (zSp) (⟨(lastS (((srtS (rowY l (g.ks.mergeSort leI)[i])).take m).foldl mergeS (gathR l ((g.ks.mergeSort leI).take i)))).y, (lastS (((srtS (rowY l (g.ks.mergeSort leI)[i])).take m).foldl mergeS (gathR l ((g.ks.mergeSort leI).take i)))).f, max (lastS (((srtS (rowY l (g.ks.mergeSort leI)[i])).take m).foldl mergeS (gathR l ((g.ks.mergeSort leI).take i)))).t (srtS (rowY l (g.ks.mergeSort leI)[i]))[m].t⟩) rfl tb3 (ev1 rfl) (ev1 rfl) rfl rfl rfl rfl (fun _ => rfl) (fun _ => by omega) (Nat.le_of_ble_eq_true rfl) rfl) rfl (by simp only [upd, zaa, za]; exact rfl) ?_
          refine lex_nil ?_
          refine zac ?_
          refine zab rfl rfl rfl (op_add' rfl (ev1 rfl) (ev1 rfl) (fun _ => IntWalk.i64_in _ (by omega))) ?_
          refine zab rfl rfl rfl (zad (.inl rfl) (ev1 rfl)) ?_
          refine zae ?_
          refine ⟨m + 1, [0, 1, 2, 3, 4, 5], by omega, by simp only []; omega, rfl, ⟨rfl, rfl, rfl, rfl, rfl, rfl, rfl, rfl, rfl, trivial⟩, ⟨mpd_fits rfl rfl (fun _ => rfl), rfl, rfl, rfl, (by rw [merges_take hmi, mergeS_set (by omega) hna, List.length_set]; rfl), rfl, trivial⟩⟩
        · have hpush := push_ok hyy hry hmi (fun h => by
            rw [Bool.and_eq_false_iff] at c3
            rcases c3 with c3 | c3
            · have := of_decide_eq_false c3
              omega
            · apply h.2
              simpa using c3)
          refine zah 1 (by simp only [holes, List.cons_append, List.nil_append]; exact rfl) ?_
          refine zac ?_
          refine zab rfl rfl rfl (zad (.inl rfl) (ev1 rfl)) ?_
          refine zab rfl rfl rfl (op_ldw rfl tb41 (ev1 rfl) rfl rfl) ?_
          refine zab rfl rfl rfl (op_bs (ps := [(0, .tmp 81)]) rfl sl32 zr41 rfl (vc (ev1 rfl) vn) rfl (by decide) (by decide)) ?_
          refine zaj rfl rfl rfl (op_app (j := 7) rfl sl32 zr41 rfl (ev1 rfl) (ev1 rfl) src_slf rfl rfl (fun _ => rfl) (fun _ => ⟨by omega, by omega⟩)) (by simp only [upd, zaa, za]; exact rfl) ?_
          refine zab rfl rfl rfl (zad (.inr rfl) (ev1 rfl)) ?_
          refine zae ?_
          refine zac ?_
          refine zab rfl rfl rfl (op_add' rfl (ev1 rfl) (ev1 rfl) (fun _ => IntWalk.i64_in _ (by omega))) ?_
          refine zab rfl rfl rfl (zad (.inl rfl) (ev1 rfl)) ?_
          refine zae ?_
          refine ⟨m + 1, [0, 1, 2, 3, 7, 5], by omega, by simp only []; omega, rfl, ⟨rfl, rfl, rfl, rfl, rfl, rfl, rfl, rfl, rfl, trivial⟩, ⟨mpd_fits rfl rfl (fun _ => rfl), rfl, rfl, rfl, (by rw [merges_take hmi, mergeS_push hpush, List.length_append, List.flatMap_append]; rfl), rfl, trivial⟩⟩
      · try simp only [decide_eq_true_eq, decide_eq_false_iff_not, beq_iff_eq, bne_iff_ne, beq_eq_false_iff_ne, bne_eq_false_iff_eq, Bool.not_eq_true', Bool.not_eq_false', Bool.and_eq_true, Bool.or_eq_true, Bool.or_eq_false_iff, ne_eq, Decidable.not_not, Int.not_lt, Int.not_le] at c3
        refine dwp_exit ?_
        refine zac ?_
        refine zab rfl rfl rfl (op_add' rfl (ev1 rfl) (ev1 rfl) (fun _ => IntWalk.i64_in _ (by omega))) ?_
        refine zab rfl rfl rfl (zad (.inl rfl) (ev1 rfl)) ?_
        refine zae ?_
        have hfin : (srtS (rowY l (g.ks.mergeSort leI)[i])).take m = srtS (rowY l (g.ks.mergeSort leI)[i]) := take_all (by omega)
        refine ⟨(i + 1, _), [0, 1, 2, 3, 4], ⟨by omega, hL.step hg hi hj hk⟩, by simp only []; omega, rfl, ⟨rfl, rfl, rfl, rfl, rfl, trivial⟩, ⟨mpd_fits rfl rfl (fun _ => rfl), rfl, rfl, rfl, (by rw [gathR_add l _ hi, hfin]; rfl), trivial⟩⟩
    · try simp only [decide_eq_true_eq, decide_eq_false_iff_not, beq_iff_eq, bne_iff_ne, beq_eq_false_iff_ne, bne_eq_false_iff_eq, Bool.not_eq_true', Bool.not_eq_false', Bool.and_eq_true, Bool.or_eq_true, Bool.or_eq_false_iff, ne_eq, Decidable.not_not, Int.not_lt, Int.not_le] at c2
      refine dwp_exit ?_
      refine zaf ?_
      refine zac ?_
      refine zab rfl rfl rfl (zad (.inl rfl) (ev1 rfl)) ?_
      refine zab rfl rfl rfl (zad (.inr rfl) (ev1 rfl)) ?_
      refine zae ?_
      refine dwp_ret ?_
      refine kend [4] (rs1 rfl (rv_t rfl)) rfl rfl ?_ ⟨?_, trivial⟩
      rfl
      exact (by rw [show gathR l ((g.ks.mergeSort leI).take i) = normS l by rw [take_all (by omega)]; exact gathR_norm hv hsr.1 hkey]; rfl)
end Go.Proofs.YtfnhckildfbikaaGreat
