/- The keys of a map, sorted; what types are; sizes; colours; tiles, and canvases as they show; canvases shown, and new; what the document puts, and what differs; dots painted; canvases with dots; canvases with dots, as they show; canvases compared, point by point; where canvases differ; colours laid over colours. No condition. -/
import Derived.Test.YtjgnalfnginjbaaGreatDoorS3
import Derived.Test.YtjgnalfnginjbaaGreatDoorRows
import Derived.Shelf.SlIterI.Sorted
namespace Go.Proofs.YtjgnalfnginjbaaGreatDoor
set_option linter.unusedVariables false
set_option linter.unusedSimpArgs false
open Go.RowKit
/-- the number of a key -/
def intOf' : Value → Int
  | .int _ a => a
  | _ => 0
/-- whatever an element is, it reads as one thing -/
def anyR (v : Value) : Option (DataW Unit × List MemPlace) := some (.lit (.bool true), [])
theorem entsI_keys : ∀ (ks : List Int) (vs : List Value) (o : Nat), vs.length = ks.length → (entsI o ks vs).map (·.key) = ks.map (Value.int .i64)
  | [], [], o, _ => rfl
  | [], _ :: _, o, h => by simp at h
  | _ :: _, [], o, h => by simp at h
  | a :: ks, b :: vs, o, h => by rw [entsI, List.map_cons, List.map_cons, entsI_keys ks vs (o + 1) (by simpa using h)]
theorem entsI_born_lt : ∀ (ks : List Int) (vs : List Value) (o : Nat) (e : MapEntry), e ∈ entsI o ks vs → e.born < o + ks.length := fun ks vs o e h => by
  obtain ⟨p, k, v, h1, h2, rfl⟩ := entsI_mem ks vs o e h
  have := (List.getElem?_eq_some_iff.1 h1).1
  show o + p < _
  omega
theorem owns_keys {P : Program} {K : TypeId} (hK : P.underlying K = some (.int .i64)) {w : World} {b : Nat} {ks : List Int} {vs : List Value} (hl : vs.length = ks.length) (hn : ks.Nodup) (hmax : ks.length ≤ maxLen) (hr : ∀ k ∈ ks, (Lit.int .i64 k).wf = true) (h : w.heap[b]? = some (.map (entsI 0 ks vs).toArray ks.length)) :
    ∃ D0 : DataW Unit, w.ownsMap P K anyR b ks.length D0 ∧ (intKeys D0).Perm ks ∧ Maps.size D0 = ks.length := by
  have hlen : (entsI 0 ks vs).length = ks.length := by have := congrArg List.length (entsI_keys ks vs 0 hl); simpa using this
  have hrd : ∀ x ∈ entsI 0 ks vs, Go.WideElems.rd P K anyR x = some (.int .i64 (intOf' x.key), .lit (.bool true)) := fun x hx => by
    obtain ⟨p, k, v, h1, h2, rfl⟩ := entsI_mem ks vs 0 x hx
    have hk : keyOf P K (.int .i64 k) = some (.int .i64 k) := Maps.keyOf_int_mk hK (hr k (List.mem_of_getElem? h1))
    unfold Go.WideElems.rd
    rw [hk]
    rfl
  refine ⟨_, ⟨_, _, h, ⟨by simpa [hlen] using hmax, ⟨fun x hx => ?_, (entsI_born ks vs 0).2, ?_⟩, fun x hx => ⟨_, hrd x (by simpa using hx)⟩⟩, by simp [hlen], rfl⟩, ?_, ?_⟩
  · have := entsI_born_lt ks vs 0 x (by simpa using hx)
    omega
  · show ((entsI 0 ks vs).map (·.key)).Nodup
    rw [entsI_keys ks vs 0 hl]
    exact List.pairwise_map.2 (hn.imp fun hne e => hne (by simpa using e))
  · show ((((entsI 0 ks vs).toArray.toList.map (Go.WideElems.rg P K anyR)).foldr DataW.insert []).map fun p => Go.intOf p.1).Perm ks
    refine ((Go.WideShapes.sorted_perm _).map _).trans ?_
    rw [List.map_map]
    refine List.Perm.of_eq ?_
    have e1 : ∀ x ∈ entsI 0 ks vs, Go.intOf (Go.WideElems.rg P K anyR x).1 = intOf' x.key := fun x hx => by rw [Go.WideElems.rg, hrd x hx]; rfl
    show List.map _ (entsI 0 ks vs) = ks
    rw [List.map_congr_left (g := fun x => intOf' x.key) e1]
    have e2 := congrArg (List.map intOf') (entsI_keys ks vs 0 hl)
    rw [List.map_map, List.map_map] at e2
    refine e2.trans ?_
    show ks.map (fun k => k) = ks
    simp
  · show (((entsI 0 ks vs).toArray.toList.map (Go.WideElems.rg P K anyR)).foldr DataW.insert []).length = _
    rw [(Go.WideShapes.sorted_perm _).length_eq]
    simp [hlen]
/-- slices.Sorted of maps.Keys of a map -/
theorem sortedKeys_d {P : Program} {f g : FuncId} {Tm T : TypeId} {ks : List Int} {l : List D} (B : Blk) (hcb : callB P f = true)
    (hS : ∀ (Bm b : Nat) (vs : List Value) (w : World), w.cell? ⟨Bm, 0, none⟩ = some (.map (some b)) → Bm < w.heap.size → vs.length = ks.length → w.heap[b]? = some (.map (entsI 0 ks vs).toArray ks.length) → Calls P f #[.func (.func g) #[] #[.pointer (some ⟨Bm, 0, none⟩)]] w fun e w' =>
      ∃ (v : Value) (ss : List Int), e = .returned v ∧ ss.Perm ks ∧ w'.ownsRow w.heap.size T 1 v ss.length ((ss.mergeSort leI).map encZ) ∧ Below w.heap.size w w') :
    DFun P f [.fn (.func g) [] [.loc 0 0]] [.mix Tm [.hnd 1], .mpd ks l, B] (.arr 3) [.mix Tm [.hnd 1], .mpd ks l, B, .arr T 1 ks.length ((ks.mergeSort leI).map encZ)] := by
  refine ⟨hcb, fun s vs hok hM hr => ?_⟩
  have hM0 : s.M[0]? = some (.mix Tm [.hnd 1]) := by rw [hM]; rfl
  have hM1 : s.M[1]? = some (.mpd ks l) := by rw [hM]; rfl
  obtain ⟨hvl, hr⟩ := hr
  match vs, hvl, hr with
  | [v0], _, hr =>
    have r0 := hr 0 _ v0 rfl rfl
    cases r0 with
    | @fn _ _ _ fs us e1 e2 e3 e4 =>
      have z1 : fs = [] := List.eq_nil_of_length_eq_zero (by simpa using e1)
      subst z1
      match us, e2, e4 with
      | [u], _, e4 =>
        have ru := e4 0 _ u rfl rfl
        cases ru with
        | @loc _ _ Bm hβ =>
          obtain ⟨b', us, q1, q2, q3, q4⟩ := hok.blk 0 _ _ hM0 hβ
          cases q1
          match us, q3, q4 with
          | [m], _, q4 =>
            have rm := q4 0 _ m rfl rfl
            obtain ⟨b, vs, rfl, hβ1, hob, hl, _⟩ := mpd_at hok hM1 rm
            have hlv : Live s Bm := live_of hM0 rfl hβ rfl
            refine (hS Bm b vs s.w (by simp [World.cell?, q2]) (hok.lt Bm hlv).1 (by omega) hob).mono ?_
            rintro e w' ⟨v, ss, rfl, hp, hrow, hbel⟩
            have t1 := step_hole hok
            obtain ⟨s1, hs1⟩ : ∃ s1 : St, s1 = ⟨s.β ++ [.nilFunc], s.I, s.M ++ [.hole], s.w⟩ := ⟨_, rfl⟩
            rw [← hs1] at t1
            have m1 : s1.M = [.mix Tm [.hnd 1], .mpd ks l, B, .hole] := by rw [hs1, hM]; rfl
            have hlb : s.β.length = 3 := by rw [hok.len, hM]; rfl
            have b2 : s1.β[3]? = some .nilFunc := by rw [hs1]; show (s.β ++ [_])[3]? = _; rw [List.getElem?_append_right (by omega), hlb]; rfl
            have w1 : s1.w = s.w := by rw [hs1]
            have hms : (ss.mergeSort leI) = ks.mergeSort leI := mergeSort_of_perm_i hp
            have hln : ss.length = ks.length := hp.length_eq
            rw [hms, hln] at hrow
            have hvn : v ≠ .nilFunc := by rcases hrow.2 with ⟨rfl, _⟩ | ⟨g, cap, cur, rfl, _⟩ <;> simp
            have hvb : ∀ c, owns (.arr T 1 ks.length ((ks.mergeSort leI).map encZ)) v c → s.w.heap.size ≤ c ∧ c < w'.heap.size := fun c hc => by
              have hc : hb v = some c := hc
              rcases hrow.2 with ⟨rfl, _⟩ | ⟨g, cap, cur, rfl, h2, h3, _⟩
              · cases hc
              · cases hc; exact ⟨h2, (Array.getElem?_eq_some_iff.1 h3).1⟩
            have t2 := step_set t1.ok 3 s1.M v (.arr T 1 ks.length ((ks.mergeSort leI).map encZ)) w' rfl (fun _ _ h => .inl h) (by rw [m1]; exact Nat.lt_succ_self 3) (.inl b2) hvn
              (by
                show w'.ownsRow 0 T 1 v ks.length _
                refine ⟨hrow.1, hrow.2.imp id ?_⟩
                rintro ⟨g, cap, cur, h1, h2, h3⟩
                exact ⟨g, cap, cur, h1, Nat.zero_le _, h3⟩)
              (fun c hc i k h hne h1 h2 h3 h4 => by
                have hlt := (t1.ok.lt c (live_of h1 h2 h3 h4)).1
                rw [w1] at hlt
                exact absurd (hvb c hc).1 (Nat.not_le.2 hlt))
              (fun c hc => .inl (by rw [w1]; exact (hvb c hc).1)) (fun c hc => (hvb c hc).2) (fun _ => False) (fun _ h => h.elim)
              (fun c hc _ _ => by rw [w1] at hc ⊢; exact hbel.block c hc) (by rw [w1]; exact hbel.os) (by rw [w1]; exact hbel.tape) (by rw [w1]; exact hbel.output) (by rw [w1]; exact hbel.size)
            refine ⟨_, rfl, t1.trans t2, .inl ⟨_, v, rfl, ?_, rfl, by show s1.M.set 3 _ = _; rw [m1]; rfl⟩⟩
            rcases hrow.2 with ⟨rfl, h0⟩ | ⟨g, cap, cur, rfl, _⟩
            · exact .arr (a := none) (n := 0) (c := 0) (by show (s1.β.set 3 _)[3]? = _; rw [List.getElem?_set_self (by rw [hs1]; simp [hlb])])
            · exact .arr (by show (s1.β.set 3 _)[3]? = _; rw [List.getElem?_set_self (by rw [hs1]; simp [hlb])])
end Go.Proofs.YtjgnalfnginjbaaGreatDoor
namespace Go.Proofs.YtjgnalfnginjbaaGreatDoor
set_option maxRecDepth 4000
set_option linter.unusedVariables false
set_option linter.unusedSimpArgs false
open Go.RowKit
theorem mixed : Tryz.prog.follows .mixedOrders = true := by kernel_rfl
structure C4 where
  r : Int
  g : Int
  b : Int
  a : Int
deriving DecidableEq
def c4 (c : C4) : List Value := [.int .u8 c.r, .int .u8 c.g, .int .u8 c.b, .int .u8 c.a]
def zC4 : C4 := ⟨0, 0, 0, 0⟩
structure P2 where
  x : Int
  y : Int
deriving DecidableEq
def p2 (p : P2) : List Value := [.int .i64 p.x, .int .i64 p.y]
def zP2 : P2 := ⟨0, 0⟩
structure TL where
  l : List C4
  h : l.length = 64
theorem TL.ext {t u : TL} (h : t.l = u.l) : t = u := by cases t; cases u; cases h; rfl
instance : DecidableEq TL := fun t u => if h : t.l = u.l then isTrue (TL.ext h) else isFalse fun e => h (by rw [e])
abbrev tc (t : TL) : List Value := t.l.flatMap c4
abbrev tD (t : TL) : D := .val (.agg (tc t).toArray)
theorem c4_len (c : C4) : (c4 c).length = 4 := rfl
theorem tc_len (t : TL) : (tc t).length = 256 := by rw [flat_len c4_len, t.h]
theorem tc_oc (t : TL) : (tc t).all (·.oneCell') = true := flat_oc (fun _ => rfl) t.l
def nT (c : C4) : TL := ⟨List.replicate 64 c, by simp⟩
def zT : TL := nT zC4
def TL.get (t : TL) (i : Nat) : C4 := t.l.getD i zC4
def TL.set (t : TL) (i : Nat) (c : C4) : TL := ⟨t.l.set i c, by rw [List.length_set, t.h]⟩
def errOr (b : Bool) (n : Int) : Int := match b with | true => 0 | false => n
theorem eqA_row {α : Type} {f : List Value → List Value → Option Bool} {en : α → List Value} {sz : Nat} [DecidableEq α] (hen : ∀ a, (en a).length = sz) (hf : ∀ a b, f (en a) (en b) = some (decide (a = b))) :
    ∀ (l r : List α), l.length = r.length → eqA f sz l.length (l.flatMap en) (r.flatMap en) = some (decide (l = r))
  | [], [], _ => by simp [eqA]
  | a :: l, b :: r, h => by
    have e1 : ((a :: l).flatMap en).take sz = en a := by rw [List.flatMap_cons, ← hen a, List.take_left]
    have e2 : ((b :: r).flatMap en).take sz = en b := by rw [List.flatMap_cons, ← hen b, List.take_left]
    have e3 : ((a :: l).flatMap en).drop sz = l.flatMap en := by rw [List.flatMap_cons, ← hen a, List.drop_left]
    have e4 : ((b :: r).flatMap en).drop sz = r.flatMap en := by rw [List.flatMap_cons, ← hen b, List.drop_left]
    rw [List.length_cons, eqA, e1, e2, e3, e4, hf, eqA_row hen hf l r (by simpa using h)]
    simp only [Option.some.injEq]
    rw [Bool.eq_iff_iff]
    simp
  | [], _ :: _, h => by simp at h
  | _ :: _, [], h => by simp at h
def eqC (a b : C4) : Bool := (a.r == b.r) && ((a.g == b.g) && ((a.b == b.b) && ((a.a == b.a) && true)))
theorem eqC_iff {u v : C4} : eqC u v = decide (u = v) := by
  obtain ⟨r, g, b, a⟩ := u
  obtain ⟨r', g', b', a'⟩ := v
  rw [Bool.eq_iff_iff]
  simp [eqC]
def newT (c : C4) : Nat → TL
  | 0 => zT
  | k + 1 => (newT c k).set k c
theorem newT_succ (c : C4) (k : Nat) : newT c (k + 1) = (newT c k).set k c := rfl
theorem nT_at (c : C4) {i : Nat} (h : i < 64) : (nT c).l[i]? = some c := by
  show (List.replicate 64 c)[i]? = _
  rw [List.getElem?_replicate, if_pos h]
theorem newT_at (c : C4) : ∀ (k i : Nat), i < 64 → (newT c k).l[i]? = some (if i < k then c else zC4)
  | 0, i, h => by rw [newT, zT, nT_at _ h]; simp
  | k + 1, i, h => by
    rw [newT]
    show ((newT c k).l.set k c)[i]? = _
    rw [List.getElem?_set]
    by_cases e : k = i
    · subst e; simp [(newT c k).h, h]
    · rw [if_neg e, newT_at c k i h]
      by_cases g : i < k
      · rw [if_pos g, if_pos (by omega)]
      · rw [if_neg g, if_neg (by omega)]
theorem newT_end (c : C4) : newT c 64 = nT c := by
  apply TL.ext
  apply List.ext_getElem?
  intro i
  by_cases h : i < 64
  · rw [newT_at c 64 i h, if_pos h, nT_at c h]
  · rw [List.getElem?_eq_none (by rw [(newT c 64).h]; omega), List.getElem?_eq_none (by rw [(nT c).h]; omega)]
theorem bn_t {b : Bool} (h : (!b) = true) : b = false := by cases b <;> simp_all
theorem bn_f {b : Bool} (h : (!b) = false) : b = true := by cases b <;> simp_all
structure Dt where
  x : Int
  y : Int
  c : C4
deriving DecidableEq
def dtC (d : Dt) : List Value := [.int .i64 d.x, .int .i64 d.y, .int .u8 d.c.r, .int .u8 d.c.g, .int .u8 d.c.b, .int .u8 d.c.a]
def mayS (w h : Int) : Bool := decide (1 ≤ w) && decide (w ≤ 4) && decide (1 ≤ h) && decide (h ≤ 4)
theorem mayS_b {w h : Int} (hm : mayS w h = true) : (1 ≤ w ∧ w ≤ 4) ∧ (1 ≤ h ∧ h ≤ 4) := by
  unfold mayS at hm
  simp at hm
  omega
def onS (w h x y : Int) : Bool := decide (0 ≤ x) && decide (x < w * 8) && decide (0 ≤ y) && decide (y < h * 8)
theorem onS_iff {w h x y : Int} : onS w h x y = true ↔ (0 ≤ x ∧ x < w * 8) ∧ (0 ≤ y ∧ y < h * 8) := by
  simp [onS]
  omega
/-- which tile has the pixel, and which one it is there -/
def plN (w x y : Int) : Nat := (y / 8 * w + x / 8).toNat
def pxN (x y : Int) : Nat := (y % 8 * 8 + x % 8).toNat
theorem on_pl {w h x y : Int} (hm : mayS w h = true) (ho : onS w h x y = true) : y / 8 * w + x / 8 = (plN w x y : Int) ∧ (plN w x y : Int) < w * h ∧ y % 8 * 8 + x % 8 = (pxN x y : Int) ∧ pxN x y < 64 := by
  have hb := mayS_b hm
  have hx := onS_iff.1 ho
  have hq1 : 0 ≤ y / 8 ∧ y / 8 ≤ h - 1 := by omega
  have hq2 : 0 ≤ y / 8 * w := Int.mul_nonneg hq1.1 (by omega)
  have hq3 : y / 8 * w ≤ (h - 1) * w := Int.mul_le_mul_of_nonneg_right hq1.2 (by omega)
  have e : (h - 1) * w = w * h - w := by rw [Int.sub_mul, Int.mul_comm h w]; omega
  unfold plN pxN
  omega
def getC (w : Int) (ts : List TL) (x y : Int) : C4 := (ts.getD (plN w x y) zT).get (pxN x y)
def putC (w h : Int) (ts : List TL) (d : Dt) : List TL := if onS w h d.x d.y = true then ts.set (plN w d.x d.y) ((ts.getD (plN w d.x d.y) zT).set (pxN d.x d.y) d.c) else ts
def putsC (w h : Int) (ts : List TL) (l : List Dt) : List TL := l.foldl (putC w h) ts
theorem putC_len (w h : Int) (ts : List TL) (d : Dt) : (putC w h ts d).length = ts.length := by unfold putC; split <;> simp
theorem putsC_len (w h : Int) (l : List Dt) (ts : List TL) : (putsC w h ts l).length = ts.length := by
  induction l generalizing ts with
  | nil => rfl
  | cons d l ih => rw [putsC, List.foldl_cons]; exact (ih _).trans (putC_len ..)
theorem putsC_take {w h : Int} {ts : List TL} {l : List Dt} {k : Nat} (hk : k < l.length) : putsC w h ts (l.take (k + 1)) = putC w h (putsC w h ts (l.take k)) l[k] := by
  rw [List.take_succ_eq_append_getElem hk, putsC, List.foldl_append]; rfl
/-- a canvas as data: its sizes, and a row of pointers to its tiles -/
abbrev cvD (w h : Int) (ds : List D) : D := .dpm [.val (.int .i64 w), .val (.int .i64 h), .slm 1 ds.length ds]
/-- what a canvas shows -/
abbrev shD (w h : Int) (ts : List TL) : D := .agg [.val (.int .i64 w), .val (.int .i64 h), .slf 256 ts.length (ts.flatMap tc)]
structure RowOk (ds : List D) (ts : List TL) : Prop where
  len : ds.length = ts.length
  nl : D.nlL ds = true
  oc : ds.all D.oc2 = true
  wk : ∀ (q : Nat) d t, ds[q]? = some d → ts[q]? = some t → Wk d (.dpf (tc t))
structure CvOk (w h : Int) (ts : List TL) : Prop where
  may : mayS w h = true
  len : (ts.length : Int) = w * h
theorem CvOk.le {w h : Int} {ts : List TL} (hc : CvOk w h ts) : ts.length ≤ 16 ∧ 1 ≤ ts.length := by
  have hb := mayS_b hc.may
  have h1 : w * h ≤ 4 * 4 := Int.mul_le_mul hb.1.2 hb.2.2 (by omega) (by omega)
  have h2 : 1 * 1 ≤ w * h := Int.mul_le_mul hb.1.1 hb.2.1 (by omega) (by omega)
  have := hc.len
  omega
theorem CvOk.pl {w h x y : Int} {ts : List TL} (hc : CvOk w h ts) (ho : onS w h x y = true) : plN w x y < ts.length := by
  have := on_pl hc.may ho
  have := hc.len
  omega
/-- the row of pointers into memory that stays -/
abbrev dpR (ts : List TL) : List D := ts.map fun t => .dpf (tc t)
theorem dpR_ok (ts : List TL) : RowOk (dpR ts) ts := by
  refine ⟨by simp, ?_, by simp [D.oc2], fun q d t h1 h2 => ?_⟩
  · induction ts with
    | nil => rfl
    | cons t ts ih => rw [dpR, List.map_cons, D.nlL]; exact ih
  · rw [List.getElem?_map, h2] at h1
    cases h1
    exact Wk.refl _
theorem RowOk.at {ds : List D} {ts : List TL} (h : RowOk ds ts) {q : Nat} (hq : q < ts.length) : ∃ d, ds[q]? = some d ∧ d ∈ ds ∧ d.nl = true ∧ d.oc2 = true ∧ Wk d (.dpf (tc (ts.getD q zT))) := by
  have hq2 : q < ds.length := by rw [h.len]; exact hq
  refine ⟨ds[q], List.getElem?_eq_getElem hq2, List.getElem_mem hq2, nlL_mem h.nl (List.getElem?_eq_getElem hq2), List.all_eq_true.1 h.oc _ (List.getElem_mem hq2), ?_⟩
  refine h.wk q _ _ (List.getElem?_eq_getElem hq2) ?_
  rw [List.getD_eq_getElem?_getD, List.getElem?_eq_getElem hq]
  rfl
theorem RowOk.wkd {ds : List D} {ts : List TL} (h : RowOk ds ts) (w hh : Int) : Wk (cvD w hh ds) (cvD w hh (dpR ts)) := by
  have hl : WkL ds (dpR ts) := ⟨by simp [h.len], fun j d d' h1 h2 => by
    rw [List.getElem?_map] at h2
    cases e : ts[j]? with
    | none => rw [e] at h2; cases h2
    | some t => rw [e] at h2; cases h2; exact h.wk j d t h1 e⟩
  have hn : D.nlL (dpR ts) = true := (dpR_ok ts).nl
  have e : (dpR ts).length = ds.length := by simp [h.len]
  rw [cvD, cvD, e]
  exact Wk.dpm (.cons (.refl _) (.cons (.refl _) (.cons (Wk.slm hl hn) .nil))) (by simp [D.nlL, D.nl])
/-- may a canvas be? -/
def rightB (w h : Int) (ts : List TL) : Bool := mayS w h && decide ((ts.length : Int) = w * h)
theorem rightB_ok {w h : Int} {ts : List TL} (e : rightB w h ts = true) : CvOk w h ts := by
  unfold rightB at e
  simp only [Bool.and_eq_true, decide_eq_true_eq] at e
  exact ⟨e.1, e.2⟩
theorem CvOk.right {w h : Int} {ts : List TL} (hc : CvOk w h ts) : rightB w h ts = true := by
  unfold rightB
  rw [hc.may, decide_eq_true hc.len]
  rfl
theorem mul_in {w h : Int} (hm : mayS w h = true) : 1 ≤ w * h ∧ w * h ≤ 16 := by
  have hb := mayS_b hm
  have h1 : w * h ≤ 4 * 4 := Int.mul_le_mul hb.1.2 hb.2.2 (by omega) (by omega)
  have h2 : 1 * 1 ≤ w * h := Int.mul_le_mul hb.1.1 hb.2.1 (by omega) (by omega)
  omega
theorem tl_at {l : List TL} {k : Nat} (h : k < l.length) : l.getD k zT = l[k] := by rw [List.getD_eq_getElem?_getD, List.getElem?_eq_getElem h]; rfl
theorem setL_tile {ts : List TL} {j q : Nat} {c : C4} (hj : j < ts.length) (hq : q < 64) : setL (ts.flatMap tc) (j * 256 + q * 4) (c4 c) = (ts.set j ((ts.getD j zT).set q c)).flatMap tc := by
  refine flat_set_part tc_len hj (by show q * 4 + 4 ≤ 256; omega) ?_
  rw [tl_at hj]
  exact flat_set c4_len (by rw [TL.h]; exact hq) c
/-- the points of a row of pixels at which both have other colours -/
def difR (w : Int) (ts us : List TL) (y n : Nat) : List P2 := ((List.range n).filter fun (x : Nat) => decide (getC w ts (x : Int) (y : Int) ≠ getC w us (x : Int) (y : Int))).map fun (x : Nat) => ⟨(x : Int), (y : Int)⟩
/-- .. of the first rows -/
def difU (w : Int) (ts us : List TL) (W n : Nat) : List P2 := (List.range n).flatMap fun y => difR w ts us y W
def difC (w h : Int) (ts us : List TL) : List P2 := difU w ts us (w * 8).toNat (h * 8).toNat
theorem difR_0 (w : Int) (ts us : List TL) (y : Nat) : difR w ts us y 0 = [] := rfl
theorem difR_yes {w : Int} {ts us : List TL} {y n : Nat} (h : getC w ts (n : Int) (y : Int) ≠ getC w us (n : Int) (y : Int)) : difR w ts us y (n + 1) = difR w ts us y n ++ [⟨(n : Int), (y : Int)⟩] := by
  unfold difR
  rw [List.range_succ, List.filter_append, List.filter_cons, if_pos (by simpa using h), List.map_append]
  rfl
theorem difR_no {w : Int} {ts us : List TL} {y n : Nat} (h : getC w ts (n : Int) (y : Int) = getC w us (n : Int) (y : Int)) : difR w ts us y (n + 1) = difR w ts us y n := by
  unfold difR
  rw [List.range_succ, List.filter_append, List.filter_cons, if_neg (by simpa using h)]
  simp
theorem difR_len (w : Int) (ts us : List TL) (y n : Nat) : (difR w ts us y n).length ≤ n := by
  unfold difR
  rw [List.length_map]
  refine Nat.le_trans (List.length_filter_le _ _) ?_
  simp
theorem difU_succ (w : Int) (ts us : List TL) (W n : Nat) : difU w ts us W (n + 1) = difU w ts us W n ++ difR w ts us n W := by
  unfold difU
  rw [List.range_succ, List.flatMap_append, List.flatMap_cons]
  simp
theorem difU_len (w : Int) (ts us : List TL) (W : Nat) : ∀ n, (difU w ts us W n).length ≤ n * W
  | 0 => by simp [difU]
  | n + 1 => by
    rw [difU_succ, List.length_append, Nat.succ_mul]
    have := difU_len w ts us W n
    have := difR_len w ts us n W
    omega
theorem setL_tile2 {ts : List TL} {j q : Nat} {z : Int} {c : C4} (hj : j < ts.length) (hz : z = (q : Int)) (hq : q < 64) : setL (ts.flatMap tc) (j * 256 + z.toNat * 4) (c4 c) = (ts.set j ((ts.getD j zT).set q c)).flatMap tc := by
  subst hz
  rw [Int.toNat_natCast]
  exact setL_tile hj hq
theorem fit_tile {ts : List TL} {j q : Nat} {z : Int} (hj : j < ts.length) (hz : z = (q : Int)) (hq : q < 64) : j * 256 + z.toNat * 4 + 4 ≤ (ts.flatMap tc).length := by
  subst hz
  rw [Int.toNat_natCast, flat_len tc_len]
  have : (j + 1) * 256 ≤ ts.length * 256 := Nat.mul_le_mul_right _ hj
  rw [Nat.succ_mul] at this
  omega
theorem CvOk.put {w h : Int} {ts : List TL} (hc : CvOk w h ts) (d : Dt) : CvOk w h (putC w h ts d) := ⟨hc.may, by rw [putC_len]; exact hc.len⟩
theorem CvOk.puts {w h : Int} {ts : List TL} (hc : CvOk w h ts) (l : List Dt) : CvOk w h (putsC w h ts l) := ⟨hc.may, by rw [putsC_len]; exact hc.len⟩
end Go.Proofs.YtjgnalfnginjbaaGreatDoor
namespace Go.Proofs.YtjgnalfnginjbaaGreatDoor
set_option maxRecDepth 4000
set_option linter.unusedVariables false
set_option linter.unusedSimpArgs false
open Go.RowKit
theorem fo76_0 : fdO Tryz.prog 76 0 = some 0 := by kernel_rfl
theorem fo76_1 : fdO Tryz.prog 76 1 = some 1 := by kernel_rfl
theorem tb3 : tyB Tryz.prog 3 = some (false, 1) := by kernel_rfl
theorem tb76 : tyB Tryz.prog 76 = some (true, 2) := by kernel_rfl
theorem zr3 : zrC Tryz.prog 3 = some [.int .i64 0] := by kernel_rfl
set_option maxRecDepth 4000 in
set_option maxHeartbeats 1000000 in
theorem smay_d (w h : Int) : DFun Tryz.prog 81 [.val (.agg #[.int .i64 w, .int .i64 h])] [] (.val (.bool (mayS w h))) [] := by
  refine zal (N := 21) 0 (by kernel_rfl) Tryz.func81 rfl rfl rfl (by simp only [fr0, Nat.zero_add, Nat.reduceAdd]; exact rfl) rfl fun s0 hs0 => ?_
  refine zaf ?_
  refine zah 1 (by simp only [holes, List.cons_append, List.nil_append]; exact rfl) ?_
  refine zad ?_
  refine zaj rfl rfl rfl (op_boxa 0 rfl (ev1 rfl) rfl) (by simp only [upd, zaa, za]; exact rfl) ?_
  refine zab rfl rfl rfl (zac (.inr rfl) (ev1 rfl)) ?_
  refine zae ?_
  refine zaf ?_
  refine zad ?_
  refine zab rfl rfl rfl (op_fa rfl fo76_0 (ev1 rfl)) ?_
  refine zab rfl rfl rfl (op_ldo rfl tb3 (ev1 rfl) rfl rfl) ?_
  refine zab rfl rfl rfl (op_geq rfl (ev1 rfl) (ev1 rfl)) ?_
  refine zab rfl rfl rfl (zac (.inl rfl) (ev1 rfl)) ?_
  refine zak (gd_t rfl rfl rfl) rfl rfl rfl (op_fa rfl fo76_0 (ev1 rfl)) ?_
  refine zak (gd_t rfl rfl rfl) rfl rfl rfl (op_ldo rfl tb3 (ev2 rfl) rfl rfl) ?_
  refine zak (gd_t rfl rfl rfl) rfl rfl rfl (op_leq rfl (ev2 rfl) (ev1 rfl)) ?_
  refine zab rfl rfl rfl (op_and rfl (ev1 rfl) (ev3 rfl id)) ?_
  refine zab rfl rfl rfl (zac (.inl rfl) (ev1 rfl)) ?_
  refine zak (gd_t rfl rfl rfl) rfl rfl rfl (op_fa rfl fo76_1 (ev1 rfl)) ?_
  refine zak (gd_t rfl rfl rfl) rfl rfl rfl (op_ldo rfl tb3 (ev2 rfl) rfl rfl) ?_
  refine zak (gd_t rfl rfl rfl) rfl rfl rfl (op_geq rfl (ev2 rfl) (ev1 rfl)) ?_
  refine zab rfl rfl rfl (op_and rfl (ev1 rfl) (ev3 rfl id)) ?_
  refine zab rfl rfl rfl (zac (.inl rfl) (ev1 rfl)) ?_
  refine zak (gd_t rfl rfl rfl) rfl rfl rfl (op_fa rfl fo76_1 (ev1 rfl)) ?_
  refine zak (gd_t rfl rfl rfl) rfl rfl rfl (op_ldo rfl tb3 (ev2 rfl) rfl rfl) ?_
  refine zak (gd_t rfl rfl rfl) rfl rfl rfl (op_leq rfl (ev2 rfl) (ev1 rfl)) ?_
  refine zab rfl rfl rfl (op_and rfl (ev1 rfl) (ev3 rfl id)) ?_
  refine zab rfl rfl rfl (zac (.inr rfl) (ev1 rfl)) ?_
  refine zae ?_
  refine dwp_ret ?_
  refine kend0 (rs1 rfl (rv_t rfl)) rfl ?_
  unfold mayS
  simp [Bool.and_assoc]
set_option maxRecDepth 4000 in
set_option maxHeartbeats 1000000 in
theorem spix_d (w h : Int) (hm : mayS w h = true) : DFun Tryz.prog 100 [.val (.agg #[.int .i64 w, .int .i64 h])] [] (.tup [.val (.int .i64 (w * 8)), .val (.int .i64 (h * 8))]) [] := by
  refine zal (N := 10) 0 (by kernel_rfl) Tryz.func100 rfl rfl rfl (by simp only [fr0, Nat.zero_add, Nat.reduceAdd]; exact rfl) rfl fun s0 hs0 => ?_
  refine zaf ?_
  refine zah 1 (by simp only [holes, List.cons_append, List.nil_append]; exact rfl) ?_
  refine zad ?_
  refine zaj rfl rfl rfl (op_boxa 0 rfl (ev1 rfl) rfl) (by simp only [upd, zaa, za]; exact rfl) ?_
  refine zab rfl rfl rfl (zac (.inr rfl) (ev1 rfl)) ?_
  refine zab rfl rfl rfl (zac (.inr rfl) (ev1 rfl)) ?_
  refine zae ?_
  refine zaf ?_
  have hb := mayS_b hm
  refine dwp_draw [([], []), ([0], []), ([], []), ([], []), ([0], []), ([], []), ([], []), ([], [])] mixed (by kernel_rfl) ?_
  refine zag rfl rfl (op_fa rfl fo76_0 (ev1 rfl)) ?_
  refine zag rfl rfl (op_ldo rfl tb3 (ev1 rfl) rfl rfl) ?_
  refine zag rfl rfl (op_mul' rfl (ev1 rfl) (ev1 rfl) (fun _ => IntWalk.i64_in _ (by omega))) ?_
  refine zag rfl rfl (op_fa rfl fo76_1 (ev1 rfl)) ?_
  refine zag rfl rfl (op_ldo rfl tb3 (ev1 rfl) rfl rfl) ?_
  refine zag rfl rfl (op_mul' rfl (ev1 rfl) (ev1 rfl) (fun _ => IntWalk.i64_in _ (by omega))) ?_
  refine zag rfl rfl (zac (.inr rfl) (ev1 rfl)) ?_
  refine zag rfl rfl (zac (.inr rfl) (ev1 rfl)) ?_
  refine lex_nil ?_
  refine dwp_ret ?_
  refine kend0 (rs2 rfl (rv_t rfl) (rv_t rfl)) rfl ?_
  rfl
set_option maxRecDepth 4000 in
set_option maxHeartbeats 1000000 in
theorem sask1_d (x y w h : Int) : DFun Tryz.prog 126 [.val (.int .i64 x), .val (.int .i64 y), .loc 0 0, .loc 1 0] [.flat 3 [.int .i64 (w * 8)], .flat 3 [.int .i64 (h * 8)]] (.val (.bool (onS w h x y))) [.flat 3 [.int .i64 (w * 8)], .flat 3 [.int .i64 (h * 8)]] := by
  refine zal (N := 23) 2 (by kernel_rfl) Tryz.func126 rfl rfl rfl (by simp only [fr0, Nat.zero_add, Nat.reduceAdd]; exact rfl) rfl fun s0 hs0 => ?_
  refine zaf ?_
  refine zad ?_
  refine zab rfl rfl rfl (zac (.inr rfl) (ev1 rfl)) ?_
  refine zae ?_
  refine zaf ?_
  refine zad ?_
  refine zab rfl rfl rfl (zac (.inl rfl) (ev1 rfl)) ?_
  refine zab rfl rfl rfl (op_geq rfl (ev1 rfl) (ev1 rfl)) ?_
  refine zab rfl rfl rfl (zac (.inl rfl) (ev1 rfl)) ?_
  refine zak (gd_t rfl rfl rfl) rfl rfl rfl (zac (.inl rfl) (ev1 rfl)) ?_
  refine zak (gd_t rfl rfl rfl) rfl rfl rfl (op_ldo rfl tb3 (ev1 rfl) rfl rfl) ?_
  refine zak (gd_t rfl rfl rfl) rfl rfl rfl (op_lss rfl (ev2 rfl) (ev2 rfl)) ?_
  refine zab rfl rfl rfl (op_and rfl (ev1 rfl) (ev3 rfl id)) ?_
  refine zab rfl rfl rfl (zac (.inl rfl) (ev1 rfl)) ?_
  refine zak (gd_t rfl rfl rfl) rfl rfl rfl (zac (.inl rfl) (ev1 rfl)) ?_
  refine zak (gd_t rfl rfl rfl) rfl rfl rfl (op_geq rfl (ev2 rfl) (ev1 rfl)) ?_
  refine zab rfl rfl rfl (op_and rfl (ev1 rfl) (ev3 rfl id)) ?_
  refine zab rfl rfl rfl (zac (.inl rfl) (ev1 rfl)) ?_
  refine zak (gd_t rfl rfl rfl) rfl rfl rfl (zac (.inl rfl) (ev1 rfl)) ?_
  refine zak (gd_t rfl rfl rfl) rfl rfl rfl (op_ldo rfl tb3 (ev1 rfl) rfl rfl) ?_
  refine zak (gd_t rfl rfl rfl) rfl rfl rfl (op_lss rfl (ev2 rfl) (ev2 rfl)) ?_
  refine zab rfl rfl rfl (op_and rfl (ev1 rfl) (ev3 rfl id)) ?_
  refine zab rfl rfl rfl (zac (.inr rfl) (ev1 rfl)) ?_
  refine zae ?_
  refine dwp_ret ?_
  refine kend [0, 1] (rs1 rfl (rv_t rfl)) rfl rfl ?_ ⟨rfl, rfl, trivial⟩
  simp [onS, Bool.and_assoc]
set_option maxRecDepth 4000 in
set_option maxHeartbeats 1000000 in
theorem splace_d (w h x y : Int) (hm : mayS w h = true) (ho : onS w h x y = true) : DFun Tryz.prog 102 [.val (.agg #[.int .i64 w, .int .i64 h]), .val (.int .i64 x), .val (.int .i64 y)] [] (.tup [.val (.int .i64 (plN w x y : Int)), .val (.int .i64 (pxN x y : Int))]) [] := by
  refine zal (N := 22) 0 (by kernel_rfl) Tryz.func102 rfl rfl rfl (by simp only [fr0, Nat.zero_add, Nat.reduceAdd]; exact rfl) rfl fun s0 hs0 => ?_
  refine zaf ?_
  refine zah 1 (by simp only [holes, List.cons_append, List.nil_append]; exact rfl) ?_
  refine zad ?_
  refine zaj rfl rfl rfl (op_boxa 0 rfl (ev1 rfl) rfl) (by simp only [upd, zaa, za]; exact rfl) ?_
  refine zab rfl rfl rfl (zac (.inr rfl) (ev1 rfl)) ?_
  refine zab rfl rfl rfl (zac (.inr rfl) (ev1 rfl)) ?_
  refine zae ?_
  refine zaf ?_
  have hb := mayS_b hm
  have hxy := onS_iff.1 ho
  have hpl := on_pl hm ho
  have hq1 : 0 ≤ y / 8 ∧ y / 8 ≤ 3 := by omega
  have hq2 : 0 ≤ y / 8 * w := Int.mul_nonneg hq1.1 (by omega)
  have hq3 : y / 8 * w ≤ 3 * 4 := Int.mul_le_mul hq1.2 hb.1.2 (by omega) (by omega)
  refine zad ?_
  refine zab rfl rfl rfl (zac (.inl rfl) (ev1 rfl)) ?_
  refine zab rfl rfl rfl (op_quo' rfl (ev1 rfl) (ev1 rfl) (fun _ => ⟨by omega, by omega, IntWalk.i64_in _ (by omega)⟩)) ?_
  refine zab rfl rfl rfl (op_fa rfl fo76_0 (ev1 rfl)) ?_
  refine zab rfl rfl rfl (op_ldo rfl tb3 (ev1 rfl) rfl rfl) ?_
  refine zab rfl rfl rfl (op_mul' rfl (ev1 rfl) (ev1 rfl) (fun _ => IntWalk.i64_in _ (by omega))) ?_
  refine zab rfl rfl rfl (zac (.inl rfl) (ev1 rfl)) ?_
  refine zab rfl rfl rfl (op_quo' rfl (ev1 rfl) (ev1 rfl) (fun _ => ⟨by omega, by omega, IntWalk.i64_in _ (by omega)⟩)) ?_
  refine zab rfl rfl rfl (op_add' rfl (ev1 rfl) (ev1 rfl) (fun _ => IntWalk.i64_in _ (by omega))) ?_
  refine zab rfl rfl rfl (zac (.inl rfl) (ev1 rfl)) ?_
  refine zab rfl rfl rfl (op_rem' rfl (ev1 rfl) (ev1 rfl) (fun _ => ⟨by omega, by omega⟩)) ?_
  refine zab rfl rfl rfl (op_mul' rfl (ev1 rfl) (ev1 rfl) (fun _ => IntWalk.i64_in _ (by omega))) ?_
  refine zab rfl rfl rfl (zac (.inl rfl) (ev1 rfl)) ?_
  refine zab rfl rfl rfl (op_rem' rfl (ev1 rfl) (ev1 rfl) (fun _ => ⟨by omega, by omega⟩)) ?_
  refine zab rfl rfl rfl (op_add' rfl (ev1 rfl) (ev1 rfl) (fun _ => IntWalk.i64_in _ (by omega))) ?_
  refine zab rfl rfl rfl (zac (.inr rfl) (ev1 rfl)) ?_
  refine zab rfl rfl rfl (zac (.inr rfl) (ev1 rfl)) ?_
  refine zae ?_
  refine dwp_ret ?_
  rw [← hpl.1, ← hpl.2.2.1]
  refine kend0 (rs2 rfl (rv_t rfl) (rv_t rfl)) rfl ?_
  rfl
set_option maxRecDepth 4000 in
set_option maxHeartbeats 1000000 in
theorem sasks_d (w h : Int) (hm : mayS w h = true) : DFun Tryz.prog 109 [.val (.agg #[.int .i64 w, .int .i64 h])] [] (.fn (.func 126) [] [.loc 0 0, .loc 1 0]) [.flat 3 [.int .i64 (w * 8)], .flat 3 [.int .i64 (h * 8)]] := by
  refine zal (N := 11) 0 (by kernel_rfl) Tryz.func109 rfl rfl rfl (by simp only [fr0, Nat.zero_add, Nat.reduceAdd]; exact rfl) rfl fun s0 hs0 => ?_
  refine zaf ?_
  refine zah 1 (by simp only [holes, List.cons_append, List.nil_append]; exact rfl) ?_
  refine zad ?_
  refine zaj rfl rfl rfl (op_boxa 0 rfl (ev1 rfl) rfl) (by simp only [upd, zaa, za]; exact rfl) ?_
  refine zab rfl rfl rfl (zac (.inr rfl) (ev1 rfl)) ?_
  refine zae ?_
  refine zaf ?_
  refine zah 2 (by simp only [holes, List.cons_append, List.nil_append]; exact rfl) ?_
  refine zad ?_
  refine zab rfl rfl rfl (op_ldw rfl tb76 (ev1 rfl) rfl rfl) ?_
  refine zab rfl rfl rfl (zai [] [] [] rfl (ev1 rfl) (ec (ev1 rfl) en) rfl rfl (spix_d w h hm) rfl rfl rfl rfl rfl rfl) ?_
  refine zab rfl rfl rfl (zac (.inl rfl) (ev1 rfl)) ?_
  refine zab rfl rfl rfl (op_ext rfl (ev1 rfl) rfl) ?_
  refine zab rfl rfl rfl (op_ext rfl (ev1 rfl) rfl) ?_
  refine zaj rfl rfl rfl (op_alloc 1 rfl zr3 rfl) (by simp only [upd, zaa, za]; exact rfl) ?_
  refine zaj rfl rfl rfl (op_alloc 2 rfl zr3 rfl) (by simp only [upd, zaa, za]; exact rfl) ?_
  refine walk_s rfl rfl (op_stwi rfl tb3 (ev1 rfl) (ev1 rfl) rfl) (by simp only [upd, zaa, za]; exact rfl) ?_
  refine walk_s rfl rfl (op_stwi rfl tb3 (ev1 rfl) (ev1 rfl) rfl) (by simp only [upd, zaa, za]; exact rfl) ?_
  refine zae ?_
  refine zaf ?_
  refine zad ?_
  refine zab rfl rfl rfl (op_mkf rfl en (ec (ev1 rfl) (ec (ev1 rfl) en))) ?_
  refine zab rfl rfl rfl (zac (.inr rfl) (ev1 rfl)) ?_
  refine zae ?_
  refine dwp_ret ?_
  refine kend [1, 2] (rs1 rfl (rv_t rfl)) rfl rfl ?_ ⟨rfl, rfl, trivial⟩
  rfl
end Go.Proofs.YtjgnalfnginjbaaGreatDoor
namespace Go.Proofs.YtjgnalfnginjbaaGreatDoor
set_option maxRecDepth 4000
set_option linter.unusedVariables false
set_option linter.unusedSimpArgs false
open Go.RowKit
theorem ar73 : arE Tryz.prog 73 = some (64, 4) := by kernel_rfl
theorem fl27 : fdL Tryz.prog 27 = some [(0, 1), (1, 1), (2, 1), (3, 1)] := by kernel_rfl
theorem fl51 : fdL Tryz.prog 51 = some [(0, 1), (1, 1)] := by kernel_rfl
theorem fo51_0 : fdO Tryz.prog 51 0 = some 0 := by kernel_rfl
theorem fo51_1 : fdO Tryz.prog 51 1 = some 1 := by kernel_rfl
theorem fo82_0 : fdO Tryz.prog 82 0 = some 0 := by kernel_rfl
theorem fo82_1 : fdO Tryz.prog 82 1 = some 2 := by kernel_rfl
theorem pt33 : ptT Tryz.prog 33 = some 82 := by kernel_rfl
theorem sl77 : slE Tryz.prog 77 = some (79, 1, 8) := by kernel_rfl
theorem tb27 : tyB Tryz.prog 27 = some (true, 4) := by kernel_rfl
theorem tb77 : tyB Tryz.prog 77 = some (false, 1) := by kernel_rfl
theorem tb79 : tyB Tryz.prog 79 = some (false, 1) := by kernel_rfl
theorem zr27 : zrC Tryz.prog 27 = some [.int .u8 0, .int .u8 0, .int .u8 0, .int .u8 0] := by kernel_rfl
theorem zr51 : zrC Tryz.prog 51 = some [.int .i64 0, .int .i64 0] := by kernel_rfl
set_option maxRecDepth 4000 in
set_option maxHeartbeats 1000000 in
theorem size_d (w h : Int) (ds : List D) (ts : List TL) (hr : RowOk ds ts) (hc : CvOk w h ts)  : DFun Tryz.prog 104 [cvD w h ds] [] (.tup [.val (.int .i64 (w * 8)), .val (.int .i64 (h * 8))]) [] := by
  refine zal (N := 13) 0 (by kernel_rfl) Tryz.func104 rfl rfl rfl (by simp only [fr0, Nat.zero_add, Nat.reduceAdd]; exact rfl) rfl fun s0 hs0 => ?_
  refine zaf ?_
  refine zad ?_
  refine zab rfl rfl rfl (zac (.inr rfl) (ev1 rfl)) ?_
  refine zab rfl rfl rfl (zac (.inr rfl) (ev1 rfl)) ?_
  refine zae ?_
  refine zaf ?_
  refine zaf ?_
  refine zad ?_
  refine zab rfl rfl rfl (zac (.inl rfl) (ev1 rfl)) ?_
  refine zab rfl rfl rfl (op_pnilm rfl pt33 (ev1 rfl)) ?_
  refine zae ?_
  refine dwp_if_f rfl (rfl) ?_
  refine dwp_skip ?_
  refine zaf ?_
  refine zad ?_
  refine zab rfl rfl rfl (zac (.inl rfl) (ev1 rfl)) ?_
  refine zab rfl rfl rfl (op_nc rfl (ev1 rfl) (fun s v h => by cases h; exact ⟨_, rfl⟩)) ?_
  refine zab rfl rfl rfl (op_fadm rfl fo82_0 (ev1 rfl)) ?_
  refine zab rfl rfl rfl (op_lddv [_, _] rfl tb76 (ev1 rfl) rfl rfl) ?_
  refine zab rfl rfl rfl (zai [] [] [] rfl (ev1 rfl) (ec (ev1 rfl) en) rfl rfl (spix_d w h hc.may) rfl rfl rfl rfl rfl rfl) ?_
  refine zab rfl rfl rfl (op_ext rfl (ev1 rfl) rfl) ?_
  refine zab rfl rfl rfl (op_ext rfl (ev1 rfl) rfl) ?_
  refine zab rfl rfl rfl (zac (.inr rfl) (ev1 rfl)) ?_
  refine zab rfl rfl rfl (zac (.inr rfl) (ev1 rfl)) ?_
  refine zae ?_
  refine dwp_ret ?_
  refine kend0 (rs2 rfl (rv_t rfl) (rv_t rfl)) rfl ?_
  rfl
set_option maxRecDepth 4000 in
set_option maxHeartbeats 1000000 in
theorem color_d (w h : Int) (ds : List D) (ts : List TL) (hr : RowOk ds ts) (hc : CvOk w h ts) (x y : Int) (ho : onS w h x y = true) : DFun Tryz.prog 79 [cvD w h ds, .val (.agg #[.int .i64 x, .int .i64 y])] [] (.val (.agg (c4 (getC w ts x y)).toArray)) [] := by
  refine zal (N := 30) 0 (by kernel_rfl) Tryz.func79 rfl rfl rfl (by simp only [fr0, Nat.zero_add, Nat.reduceAdd]; exact rfl) rfl fun s0 hs0 => ?_
  refine zaf ?_
  refine zah 2 (by simp only [holes, List.cons_append, List.nil_append]; exact rfl) ?_
  refine zad ?_
  refine zaj rfl rfl rfl (op_boxa 0 rfl (ev1 rfl) rfl) (by simp only [upd, zaa, za]; exact rfl) ?_
  refine zaj rfl rfl rfl (op_alloc 1 rfl zr27 rfl) (by simp only [upd, zaa, za]; exact rfl) ?_
  refine zae ?_
  refine zaf ?_
  refine dwp_draw [([], []), ([], []), ([], []), ([], []), ([], []), ([0], []), ([], []), ([0], []), ([], []), ([], []), ([], []), ([], []), ([], []), ([], [])] mixed (by kernel_rfl) ?_
  refine zag rfl rfl (zac (.inl rfl) (ev1 rfl)) ?_
  refine zag rfl rfl (op_nc rfl (ev1 rfl) (fun s v h => by cases h; exact ⟨_, rfl⟩)) ?_
  refine zag rfl rfl (op_fadm rfl fo82_0 (ev1 rfl)) ?_
  refine zag rfl rfl (op_lddv [_, _] rfl tb76 (ev1 rfl) rfl rfl) ?_
  refine zag rfl rfl (op_fa rfl fo51_0 (ev1 rfl)) ?_
  refine zag rfl rfl (op_ldo rfl tb3 (ev1 rfl) rfl rfl) ?_
  refine zag rfl rfl (op_fa rfl fo51_1 (ev1 rfl)) ?_
  refine zag rfl rfl (op_ldo rfl tb3 (ev1 rfl) rfl rfl) ?_
  refine zag rfl rfl (zai [] [] [] rfl (ev1 rfl) (ec (ev1 rfl) (ec (ev1 rfl) (ec (ev1 rfl) en))) rfl rfl (splace_d w h x y hc.may ho) rfl rfl rfl rfl rfl rfl) ?_
  refine zag rfl rfl (zac (.inl rfl) (ev1 rfl)) ?_
  refine zag rfl rfl (op_ext rfl (ev1 rfl) rfl) ?_
  refine zag rfl rfl (op_ext rfl (ev1 rfl) rfl) ?_
  refine zag rfl rfl (zac (.inr rfl) (ev1 rfl)) ?_
  refine zag rfl rfl (zac (.inr rfl) (ev1 rfl)) ?_
  refine lex_nil ?_
  refine zaf ?_
  obtain ⟨d, hd, _, _, _, hw⟩ := hr.at (hc.pl ho)
  have hpx := (on_pl hc.may ho).2.2.2
  refine zad ?_
  refine zab rfl rfl rfl (zac (.inl rfl) (ev1 rfl)) ?_
  refine zab rfl rfl rfl (op_nc rfl (ev1 rfl) (fun s v h => by cases h; exact ⟨_, rfl⟩)) ?_
  refine zab rfl rfl rfl (op_fadm rfl fo82_1 (ev1 rfl)) ?_
  refine zab rfl rfl rfl (op_lddm rfl tb77 (ev1 rfl) rfl) ?_
  refine zab rfl rfl rfl (zac (.inl rfl) (ev1 rfl)) ?_
  refine zab rfl rfl rfl (op_ixm (plN w x y) rfl sl77 (ev1 rfl) (ev1 rfl) (fun _ => rfl) (hd)) ?_
  refine zab rfl rfl rfl ((op_lddm rfl tb79 (ev1 rfl) rfl).wk (hw)) ?_
  refine zab rfl rfl rfl (zac (.inl rfl) (ev1 rfl)) ?_
  refine zab rfl rfl rfl (op_nc rfl (ev1 rfl) (fun s v h => by cases h; exact ⟨_, rfl⟩)) ?_
  refine zab rfl rfl rfl (op_ixdr (j := pxN x y) (zC4) rfl ar73 (ev1 rfl) (ev1 rfl) (fun _ => by omega) (fun _ => by omega) ((TL.h _)) (fun _ => rfl)) ?_
  refine zab rfl rfl rfl (op_ldwd rfl tb27 (ev1 rfl) rfl) ?_
  refine walk_s rfl rfl (op_stwa rfl tb27 (ev1 rfl) (ev1 rfl) rfl rfl rfl rfl) (by simp only [upd, zaa, za]; exact rfl) ?_
  refine zae ?_
  refine dwp_ret ?_
  refine kend0 (rs1 rfl (rv_w tb27 rfl rfl rfl)) rfl ?_
  rfl
set_option maxRecDepth 4000 in
set_option maxHeartbeats 1000000 in
theorem at_d (w h : Int) (ds : List D) (ts : List TL) (hr : RowOk ds ts) (hc : CvOk w h ts) (x y : Int) : DFun Tryz.prog 108 [cvD w h ds, .val (.int .i64 x), .val (.int .i64 y)] [] (.tup [.val (.agg (c4 (if onS w h x y = true then getC w ts x y else zC4)).toArray), .val (.bool (onS w h x y))]) [] := by
  refine zal (N := 28) 0 (by kernel_rfl) Tryz.func108 rfl rfl rfl (by simp only [fr0, Nat.zero_add, Nat.reduceAdd]; exact rfl) rfl fun s0 hs0 => ?_
  refine zaf ?_
  refine zah 1 (by simp only [holes, List.cons_append, List.nil_append]; exact rfl) ?_
  refine zad ?_
  refine zaj rfl rfl rfl (op_alloc 0 rfl zr27 rfl) (by simp only [upd, zaa, za]; exact rfl) ?_
  refine zab rfl rfl rfl (zac (.inr rfl) (ev1 rfl)) ?_
  refine zae ?_
  refine zaf ?_
  refine zaf ?_
  refine zad ?_
  refine zab rfl rfl rfl (zac (.inl rfl) (ev1 rfl)) ?_
  refine zab rfl rfl rfl (op_pnilm rfl pt33 (ev1 rfl)) ?_
  refine zae ?_
  refine dwp_if_f rfl (rfl) ?_
  refine dwp_skip ?_
  refine zaf ?_
  refine zaf ?_
  refine zah 2 (by simp only [holes, List.cons_append, List.nil_append]; exact rfl) ?_
  refine zad ?_
  refine zab rfl rfl rfl (zac (.inl rfl) (ev1 rfl)) ?_
  refine zab rfl rfl rfl (op_nc rfl (ev1 rfl) (fun s v h => by cases h; exact ⟨_, rfl⟩)) ?_
  refine zab rfl rfl rfl (op_fadm rfl fo82_0 (ev1 rfl)) ?_
  refine zab rfl rfl rfl (op_lddv [_, _] rfl tb76 (ev1 rfl) rfl rfl) ?_
  refine zaj rfl rfl rfl (zai [] [] [1, 2] rfl (ev1 rfl) (ec (ev1 rfl) en) rfl rfl (sasks_d w h hc.may) rfl rfl rfl rfl rfl rfl) (by simp only [upd, zaa, za]; exact rfl) ?_
  refine zab rfl rfl rfl (zac (.inr rfl) (ev1 rfl)) ?_
  refine zae ?_
  refine zaf ?_
  refine zad ?_
  refine zab rfl rfl rfl (zac (.inl rfl) (ev1 rfl)) ?_
  refine zab rfl rfl rfl (zac (.inl rfl) (ev1 rfl)) ?_
  refine zab rfl rfl rfl (zac (.inl rfl) (ev1 rfl)) ?_
  refine zaj rfl rfl rfl (zai [1, 2] [] [] rfl (ev1 rfl) (ec (ev1 rfl) (ec (ev1 rfl) en)) rfl rfl (sask1_d x y w h) rfl rfl rfl rfl rfl rfl) (by simp only [upd, zaa, za]; exact rfl) ?_
  refine zab rfl rfl rfl (op_not rfl (ev1 rfl)) ?_
  refine zae ?_
  refine dwp_cond rfl (fun c2 => ?_) (fun c2 => ?_)
  · have ho : onS w h x y = false := bn_t c2
    refine zaf ?_
    refine zad ?_
    refine zab rfl rfl rfl (op_build0 rfl fl27 zr27) ?_
    refine walk_s rfl rfl (op_stwa rfl tb27 (ev1 rfl) (ev1 rfl) rfl rfl rfl rfl) (by simp only [upd, zaa, za]; exact rfl) ?_
    refine zab rfl rfl rfl (zac (.inr rfl) (ev1 rfl)) ?_
    refine zae ?_
    refine dwp_ret ?_
    refine kend0 (rs2 rfl (rv_w tb27 rfl rfl rfl) (rv_t rfl)) rfl ?_
    rw [ho]
    rfl
  · have ho : onS w h x y = true := bn_f c2
    refine dwp_skip ?_
    refine zaf ?_
    refine zad ?_
    refine zab rfl rfl rfl (zac (.inl rfl) (ev1 rfl)) ?_
    refine zab rfl rfl rfl (zac (.inl rfl) (ev1 rfl)) ?_
    refine zab rfl rfl rfl (zac (.inl rfl) (ev1 rfl)) ?_
    refine zab rfl rfl rfl (op_build (ps := [(0, .tmp 24), (1, .tmp 25)]) rfl fl51 zr51 (vc (ev1 rfl) (vc (ev1 rfl) vn)) rfl rfl) ?_
    refine zab rfl rfl rfl (zai [] [] [] rfl (ev1 rfl) (ec (ev1 rfl) (ec (ev1 rfl) en)) rfl rfl (color_d w h ds ts hr hc x y ho) rfl rfl rfl rfl rfl rfl) ?_
    refine walk_s rfl rfl (op_stwa rfl tb27 (ev1 rfl) (ev1 rfl) rfl rfl rfl rfl) (by simp only [upd, zaa, za]; exact rfl) ?_
    refine zab rfl rfl rfl (zac (.inr rfl) (ev1 rfl)) ?_
    refine zae ?_
    refine dwp_ret ?_
    refine kend0 (rs2 rfl (rv_w tb27 rfl rfl rfl) (rv_t rfl)) rfl ?_
    rw [ho]
    rfl
end Go.Proofs.YtjgnalfnginjbaaGreatDoor
namespace Go.Proofs.YtjgnalfnginjbaaGreatDoor
set_option maxRecDepth 4000
set_option linter.unusedVariables false
set_option linter.unusedSimpArgs false
open Go.RowKit
theorem eq51 {a b : P2} : eqT Tryz.prog 9 51 (p2 a) (p2 b) = some (decide (a = b)) := by
  have h : ((a.x == b.x) && ((a.y == b.y) && true)) = decide (a = b) := by
    obtain ⟨x, y⟩ := a
    obtain ⟨x', y'⟩ := b
    rw [Bool.eq_iff_iff]
    simp
  rw [← h]
  exact (show eqT Tryz.prog 9 51 [.int .i64 a.x, .int .i64 a.y] [.int .i64 b.x, .int .i64 b.y] = some ((a.x == b.x) && ((a.y == b.y) && true)) by kernel_rfl)
theorem eq73 {t u : TL} : eqT Tryz.prog 9 73 (tc t) (tc u) = some (decide (t = u)) := by
  have h : ∀ a b : C4, eqT Tryz.prog 8 27 (c4 a) (c4 b) = some (decide (a = b)) := fun a b => by
    rw [← eqC_iff]
    exact (show eqT Tryz.prog 8 27 [.int .u8 a.r, .int .u8 a.g, .int .u8 a.b, .int .u8 a.a] [.int .u8 b.r, .int .u8 b.g, .int .u8 b.b, .int .u8 b.a] = some (eqC a b) by kernel_rfl)
  have h2 := eqA_row (en := c4) c4_len h t.l u.l (by rw [t.h, u.h])
  rw [t.h] at h2
  have h3 : eqT Tryz.prog 9 73 (tc t) (tc u) = eqA (eqT Tryz.prog 8 27) 4 64 (tc t) (tc u) := by
    have e1 : Tryz.prog.underlying 73 = some (.array 64 27) := by kernel_rfl
    obtain ⟨_, i, _, e3, _, e4⟩ := tyB_spec (show tyB Tryz.prog 27 = some (true, 4) by kernel_rfl)
    unfold eqT
    simp only [e1, e3, e4]
  refine h3.trans (h2.trans ?_)
  congr 1
  rw [Bool.eq_iff_iff]
  simp only [decide_eq_true_eq]
  exact ⟨TL.ext, fun e => by rw [e]⟩
theorem fl76 : fdL Tryz.prog 76 = some [(0, 1), (1, 1)] := by kernel_rfl
theorem fo24_0 : fdO Tryz.prog 24 0 = some 0 := by kernel_rfl
theorem fo24_1 : fdO Tryz.prog 24 1 = some 1 := by kernel_rfl
theorem fo24_2 : fdO Tryz.prog 24 2 = some 2 := by kernel_rfl
theorem gd51 : Tryz.prog.eqGuardType Tryz.prog.depth 51 = false := by kernel_rfl
theorem gd73 : Tryz.prog.eqGuardType Tryz.prog.depth 73 = false := by kernel_rfl
theorem sl22 : slE Tryz.prog 22 = some (73, 256, 256) := by kernel_rfl
theorem sl48 : slE Tryz.prog 48 = some (51, 2, 16) := by kernel_rfl
theorem tb22 : tyB Tryz.prog 22 = some (false, 1) := by kernel_rfl
theorem tb51 : tyB Tryz.prog 51 = some (true, 2) := by kernel_rfl
theorem tb73 : tyB Tryz.prog 73 = some (true, 256) := by kernel_rfl
theorem zr73 : zrC Tryz.prog 73 = some (tc zT) := by kernel_rfl
theorem zr76 : zrC Tryz.prog 76 = some [.int .i64 0, .int .i64 0] := by kernel_rfl
set_option maxRecDepth 4000 in
set_option maxHeartbeats 1000000 in
theorem cloneT (l : List TL) (h : l.length ≤ 5000) : DFun Tryz.prog 42 [.slf 256 l.length (l.flatMap tc)] [] (.arr 0) [.arr 73 256 l.length (l.flatMap tc)] := by
  refine zal (N := 8) 0 (by kernel_rfl) Tryz.func42 rfl rfl rfl (by simp only [fr0, Nat.zero_add, Nat.reduceAdd]; exact rfl) rfl fun s0 hs0 => ?_
  refine dwp_len (t := 0) rfl fun hl0 hL0 => ?_
  refine zaf ?_
  refine zad ?_
  refine zab rfl rfl rfl (zac (.inr rfl) (ev1 rfl)) ?_
  refine zae ?_
  refine zaf ?_
  refine zaf ?_
  refine zad ?_
  refine zab rfl rfl rfl (zac (.inl rfl) (ev1 rfl)) ?_
  refine walk_nil? rfl rfl rfl rfl sl22 (ev1 rfl) fun nb4 hnb4 => ?_
  refine zae ?_
  refine dwp_cond rfl (fun c1 => ?_) (fun c1 => ?_)
  · try simp only [decide_eq_true_eq, decide_eq_false_iff_not, beq_iff_eq, bne_iff_ne, beq_eq_false_iff_ne, bne_eq_false_iff_eq, Bool.not_eq_true', Bool.not_eq_false', Bool.and_eq_true, Bool.or_eq_true, Bool.or_eq_false_iff, ne_eq, Decidable.not_not, Int.not_lt, Int.not_le] at c1
    refine zaf ?_
    refine zad ?_
    refine zab rfl rfl rfl (zac (.inr rfl) (ev1 rfl)) ?_
    refine zae ?_
    refine dwp_adopt 2 73 256 rfl rfl rfl ?_
    refine dwp_ret ?_
    refine kend [0] (rs1 rfl (rv_t rfl)) rfl rfl ?_ ⟨?_, trivial⟩
    rfl
    exact (by obtain ⟨h1, h2⟩ := hnb4 c1; simp_all [MFits, vwB])
  · try simp only [decide_eq_true_eq, decide_eq_false_iff_not, beq_iff_eq, bne_iff_ne, beq_eq_false_iff_ne, bne_eq_false_iff_eq, Bool.not_eq_true', Bool.not_eq_false', Bool.and_eq_true, Bool.or_eq_true, Bool.or_eq_false_iff, ne_eq, Decidable.not_not, Int.not_lt, Int.not_le] at c1
    refine dwp_skip ?_
    refine zaf ?_
    refine zah 2 (by simp only [holes, List.cons_append, List.nil_append]; exact rfl) ?_
    refine zad ?_
    refine zaj rfl rfl rfl (op_bsa (ps := []) 0 rfl sl22 zr73 rfl vn rfl (by decide) (by decide) rfl) (by simp only [upd, zaa, za]; exact rfl) ?_
    refine zab rfl rfl rfl (zac (.inl rfl) (ev1 rfl)) ?_
    refine zaj rfl rfl rfl (op_app (j := 1) rfl sl22 zr73 rfl (ev1 rfl) (ev1 rfl) src_slf rfl rfl (fun _ => flat_oc (fun t => flat_oc (fun _ => rfl) t.l) l) (fun _ => ⟨by omega, by omega⟩)) (by simp only [upd, zaa, za]; exact rfl) ?_
    refine zab rfl rfl rfl (zac (.inr rfl) (ev1 rfl)) ?_
    refine zae ?_
    refine dwp_ret ?_
    refine kend [1] (rs1 rfl (rv_t rfl)) rfl rfl ?_ ⟨?_, trivial⟩
    rfl
    simp [vwB]
theorem cloneT_f (l : List TL) (h : l.length ≤ 5000) : DFun Tryz.prog 42 [.slf 256 l.length (l.flatMap tc)] [] (.slf 256 l.length (l.flatMap tc)) [] := freeze (cloneT l h) rfl
set_option maxRecDepth 4000 in
set_option maxHeartbeats 1000000 in
theorem ccheck_d (w h : Int) (ts : List TL) : DFun Tryz.prog 43 [shD w h ts] [] (.val (.int .i64 (errOr (rightB w h ts) 150))) [] := by
  refine zal (N := 23) 0 (by kernel_rfl) Tryz.func43 rfl rfl rfl (by simp only [fr0, Nat.zero_add, Nat.reduceAdd]; exact rfl) rfl fun s0 hs0 => ?_
  refine zaf ?_
  refine zah 1 (by simp only [holes, List.cons_append, List.nil_append]; exact rfl) ?_
  refine zad ?_
  refine zaj rfl rfl rfl (op_boxam 0 rfl (ev1 rfl) rfl) (by simp only [upd, zaa, za]; exact rfl) ?_
  refine zab rfl rfl rfl (zac (.inr rfl) (ev1 rfl)) ?_
  refine zae ?_
  refine zaf ?_
  refine zaf ?_
  refine zah 1 (by simp only [holes, List.cons_append, List.nil_append]; exact rfl) ?_
  refine zad ?_
  refine zab rfl rfl rfl (op_fa rfl fo24_0 (ev1 rfl)) ?_
  refine zab rfl rfl rfl (op_ldm rfl tb3 (ev1 rfl) rfl rfl) ?_
  refine zab rfl rfl rfl (op_fa rfl fo24_1 (ev1 rfl)) ?_
  refine zab rfl rfl rfl (op_ldm rfl tb3 (ev1 rfl) rfl rfl) ?_
  refine zab rfl rfl rfl (op_build (ps := [(0, .tmp 5), (1, .tmp 7)]) rfl fl76 zr76 (vc (ev1 rfl) (vc (ev1 rfl) vn)) rfl rfl) ?_
  refine zaj rfl rfl rfl (op_alloc 1 rfl zr76 rfl) (by simp only [upd, zaa, za]; exact rfl) ?_
  refine walk_s rfl rfl (op_stwa rfl tb76 (ev1 rfl) (ev1 rfl) rfl rfl rfl rfl) (by simp only [upd, zaa, za]; exact rfl) ?_
  refine zae ?_
  refine zaf ?_
  refine zad ?_
  refine zab rfl rfl rfl (op_ldw rfl tb76 (ev1 rfl) rfl rfl) ?_
  refine zab rfl rfl rfl (zai [] [] [] rfl (ev1 rfl) (ec (ev1 rfl) en) rfl rfl (smay_d _ _) rfl rfl rfl rfl rfl rfl) ?_
  refine zab rfl rfl rfl (op_not rfl (ev1 rfl)) ?_
  refine zab rfl rfl rfl (zac (.inl rfl) (ev1 rfl)) ?_
  refine zak (gd_f rfl rfl rfl) rfl rfl rfl (op_fa rfl fo24_2 (ev1 rfl)) ?_
  refine zak (gd_f rfl rfl rfl) rfl rfl rfl (op_ldm rfl tb22 (ev2 rfl) rfl rfl) ?_
  refine zak (gd_f rfl rfl rfl) rfl rfl rfl (op_len rfl sl22 (ev2 rfl)) ?_
  refine zak (gd_f rfl rfl rfl) rfl rfl rfl (op_fa rfl fo76_0 (ev1 rfl)) ?_
  refine zak (gd_f rfl rfl rfl) rfl rfl rfl (op_ldo rfl tb3 (ev2 rfl) rfl rfl) ?_
  refine zak (gd_f rfl rfl rfl) rfl rfl rfl (op_fa rfl fo76_1 (ev1 rfl)) ?_
  refine zak (gd_f rfl rfl rfl) rfl rfl rfl (op_ldo rfl tb3 (ev2 rfl) rfl rfl) ?_
  refine zak (gd_f rfl rfl rfl) rfl rfl rfl (op_mul rfl (ev2 rfl) (ev2 rfl)) ?_
  refine zak (gd_f rfl rfl rfl) rfl rfl rfl (op_neq rfl (ev2 rfl) (ev2 rfl)) ?_
  refine zab rfl rfl rfl (op_or rfl (ev1 rfl) (ev3 rfl id)) ?_
  refine zae ?_
  refine dwp_cond rfl (fun c1 => ?_) (fun c1 => ?_)
  · have hr : rightB w h ts = false := by
      cases hm : mayS w h with
      | false => unfold rightB; rw [hm]; rfl
      | true =>
        have hb := mul_in hm
        rw [hm, IntWalk.i64_in _ (by omega)] at c1
        simp at c1
        unfold rightB
        rw [decide_eq_false (by omega)]
        exact Bool.and_false _
    refine zaf ?_
    refine zad ?_
    refine zab rfl rfl rfl (zac (.inr rfl) (ev1 rfl)) ?_
    refine zae ?_
    refine dwp_ret ?_
    refine kend0 (rs1 rfl (rv_t rfl)) rfl ?_
    rw [hr]
    rfl
  · have hr : rightB w h ts = true := by
      cases hm : mayS w h with
      | false => rw [hm] at c1; simp at c1
      | true =>
        have hb := mul_in hm
        rw [hm, IntWalk.i64_in _ (by omega)] at c1
        simp at c1
        unfold rightB
        rw [hm, decide_eq_true (by omega)]
        rfl
    refine dwp_skip ?_
    refine zaf ?_
    refine zad ?_
    refine zab rfl rfl rfl (zac (.inr rfl) (ev1 rfl)) ?_
    refine zae ?_
    refine dwp_ret ?_
    refine kend0 (rs1 rfl (rv_t rfl)) rfl ?_
    rw [hr]
    rfl
set_option maxRecDepth 4000 in
set_option maxHeartbeats 1000000 in
theorem rsizes_d (w h : Int) : DFun Tryz.prog 53 [.val (.int .i64 w), .val (.int .i64 h)] [] (.val (.bool (mayS w h))) [] := by
  refine zal (N := 19) 0 (by kernel_rfl) Tryz.func53 rfl rfl rfl (by simp only [fr0, Nat.zero_add, Nat.reduceAdd]; exact rfl) rfl fun s0 hs0 => ?_
  refine zaf ?_
  refine zad ?_
  refine zab rfl rfl rfl (zac (.inr rfl) (ev1 rfl)) ?_
  refine zae ?_
  refine zaf ?_
  refine zad ?_
  refine zab rfl rfl rfl (zac (.inl rfl) (ev1 rfl)) ?_
  refine zab rfl rfl rfl (op_geq rfl (ev1 rfl) (ev1 rfl)) ?_
  refine zab rfl rfl rfl (zac (.inl rfl) (ev1 rfl)) ?_
  refine zak (gd_t rfl rfl rfl) rfl rfl rfl (zac (.inl rfl) (ev1 rfl)) ?_
  refine zak (gd_t rfl rfl rfl) rfl rfl rfl (op_leq rfl (ev2 rfl) (ev1 rfl)) ?_
  refine zab rfl rfl rfl (op_and rfl (ev1 rfl) (ev3 rfl id)) ?_
  refine zab rfl rfl rfl (zac (.inl rfl) (ev1 rfl)) ?_
  refine zak (gd_t rfl rfl rfl) rfl rfl rfl (zac (.inl rfl) (ev1 rfl)) ?_
  refine zak (gd_t rfl rfl rfl) rfl rfl rfl (op_geq rfl (ev2 rfl) (ev1 rfl)) ?_
  refine zab rfl rfl rfl (op_and rfl (ev1 rfl) (ev3 rfl id)) ?_
  refine zab rfl rfl rfl (zac (.inl rfl) (ev1 rfl)) ?_
  refine zak (gd_t rfl rfl rfl) rfl rfl rfl (zac (.inl rfl) (ev1 rfl)) ?_
  refine zak (gd_t rfl rfl rfl) rfl rfl rfl (op_leq rfl (ev2 rfl) (ev1 rfl)) ?_
  refine zab rfl rfl rfl (op_and rfl (ev1 rfl) (ev3 rfl id)) ?_
  refine zab rfl rfl rfl (zac (.inr rfl) (ev1 rfl)) ?_
  refine zae ?_
  refine dwp_ret ?_
  refine kend0 (rs1 rfl (rv_t rfl)) rfl ?_
  unfold mayS
  simp [Bool.and_assoc]
set_option maxRecDepth 4000 in
set_option maxHeartbeats 1000000 in
theorem right_d (w h : Int) (ts : List TL) : DFun Tryz.prog 15 [shD w h ts] [] (.val (.bool (rightB w h ts))) [] := by
  refine zal (N := 19) 0 (by kernel_rfl) Tryz.func15 rfl rfl rfl (by simp only [fr0, Nat.zero_add, Nat.reduceAdd]; exact rfl) rfl fun s0 hs0 => ?_
  refine zaf ?_
  refine zah 1 (by simp only [holes, List.cons_append, List.nil_append]; exact rfl) ?_
  refine zad ?_
  refine zaj rfl rfl rfl (op_boxam 0 rfl (ev1 rfl) rfl) (by simp only [upd, zaa, za]; exact rfl) ?_
  refine zab rfl rfl rfl (zac (.inr rfl) (ev1 rfl)) ?_
  refine zae ?_
  refine zaf ?_
  refine zad ?_
  refine zab rfl rfl rfl (op_fa rfl fo24_0 (ev1 rfl)) ?_
  refine zab rfl rfl rfl (op_ldm rfl tb3 (ev1 rfl) rfl rfl) ?_
  refine zab rfl rfl rfl (op_fa rfl fo24_1 (ev1 rfl)) ?_
  refine zab rfl rfl rfl (op_ldm rfl tb3 (ev1 rfl) rfl rfl) ?_
  refine zab rfl rfl rfl (zai [] [] [] rfl (ev1 rfl) (ec (ev1 rfl) (ec (ev1 rfl) en)) rfl rfl (rsizes_d _ _) rfl rfl rfl rfl rfl rfl) ?_
  refine zab rfl rfl rfl (zac (.inl rfl) (ev1 rfl)) ?_
  refine zak (gd_t rfl rfl rfl) rfl rfl rfl (op_fa rfl fo24_2 (ev1 rfl)) ?_
  refine zak (gd_t rfl rfl rfl) rfl rfl rfl (op_ldm rfl tb22 (ev2 rfl) rfl rfl) ?_
  refine zak (gd_t rfl rfl rfl) rfl rfl rfl (op_len rfl sl22 (ev2 rfl)) ?_
  refine zak (gd_t rfl rfl rfl) rfl rfl rfl (op_fa rfl fo24_0 (ev1 rfl)) ?_
  refine zak (gd_t rfl rfl rfl) rfl rfl rfl (op_ldm rfl tb3 (ev2 rfl) rfl rfl) ?_
  refine zak (gd_t rfl rfl rfl) rfl rfl rfl (op_fa rfl fo24_1 (ev1 rfl)) ?_
  refine zak (gd_t rfl rfl rfl) rfl rfl rfl (op_ldm rfl tb3 (ev2 rfl) rfl rfl) ?_
  refine zak (gd_t rfl rfl rfl) rfl rfl rfl (op_mul rfl (ev2 rfl) (ev2 rfl)) ?_
  refine zak (gd_t rfl rfl rfl) rfl rfl rfl (op_eql rfl (ev2 rfl) (ev2 rfl)) ?_
  refine zab rfl rfl rfl (op_and rfl (ev1 rfl) (ev3 rfl id)) ?_
  refine zab rfl rfl rfl (zac (.inr rfl) (ev1 rfl)) ?_
  refine zae ?_
  refine dwp_ret ?_
  refine kend0 (rs1 rfl (rv_t rfl)) rfl ?_
  rw [D.val.injEq, Value.bool.injEq]
  cases hm : mayS w h with
  | false => unfold rightB; rw [hm]; rfl
  | true =>
    have hb := mul_in hm
    rw [IntWalk.i64_in _ (by omega)]
    unfold rightB
    rw [hm, Bool.eq_iff_iff]
    simp
set_option maxRecDepth 4000 in
set_option maxHeartbeats 1000000 in
theorem same_d (w h w2 h2 : Int) (ts us : List TL) (hn : ts.length ≤ 5000) : DFun Tryz.prog 19 [shD w h ts, shD w2 h2 us] [] (.val (.bool (decide (w = w2 ∧ h = h2 ∧ ts = us)))) [] := by
  refine zal (N := 44) 0 (by kernel_rfl) Tryz.func19 rfl rfl rfl (by simp only [fr0, Nat.zero_add, Nat.reduceAdd]; exact rfl) rfl fun s0 hs0 => ?_
  refine zaf ?_
  refine zah 2 (by simp only [holes, List.cons_append, List.nil_append]; exact rfl) ?_
  refine zad ?_
  refine zaj rfl rfl rfl (op_boxam 0 rfl (ev1 rfl) rfl) (by simp only [upd, zaa, za]; exact rfl) ?_
  refine zaj rfl rfl rfl (op_boxam 1 rfl (ev1 rfl) rfl) (by simp only [upd, zaa, za]; exact rfl) ?_
  refine zab rfl rfl rfl (zac (.inr rfl) (ev1 rfl)) ?_
  refine zae ?_
  refine zaf ?_
  refine zaf ?_
  refine zad ?_
  refine zab rfl rfl rfl (op_fa rfl fo24_0 (ev1 rfl)) ?_
  refine zab rfl rfl rfl (op_ldm rfl tb3 (ev1 rfl) rfl rfl) ?_
  refine zab rfl rfl rfl (op_fa rfl fo24_0 (ev1 rfl)) ?_
  refine zab rfl rfl rfl (op_ldm rfl tb3 (ev1 rfl) rfl rfl) ?_
  refine zab rfl rfl rfl (op_neq rfl (ev1 rfl) (ev1 rfl)) ?_
  refine zab rfl rfl rfl (zac (.inl rfl) (ev1 rfl)) ?_
  refine zak (gd_f rfl rfl rfl) rfl rfl rfl (op_fa rfl fo24_1 (ev1 rfl)) ?_
  refine zak (gd_f rfl rfl rfl) rfl rfl rfl (op_ldm rfl tb3 (ev2 rfl) rfl rfl) ?_
  refine zak (gd_f rfl rfl rfl) rfl rfl rfl (op_fa rfl fo24_1 (ev1 rfl)) ?_
  refine zak (gd_f rfl rfl rfl) rfl rfl rfl (op_ldm rfl tb3 (ev2 rfl) rfl rfl) ?_
  refine zak (gd_f rfl rfl rfl) rfl rfl rfl (op_neq rfl (ev2 rfl) (ev2 rfl)) ?_
  refine zab rfl rfl rfl (op_or rfl (ev1 rfl) (ev3 rfl id)) ?_
  refine zab rfl rfl rfl (zac (.inl rfl) (ev1 rfl)) ?_
  refine zak (gd_f rfl rfl rfl) rfl rfl rfl (op_fa rfl fo24_2 (ev1 rfl)) ?_
  refine zak (gd_f rfl rfl rfl) rfl rfl rfl (op_ldm rfl tb22 (ev2 rfl) rfl rfl) ?_
  refine zak (gd_f rfl rfl rfl) rfl rfl rfl (op_len rfl sl22 (ev2 rfl)) ?_
  refine zak (gd_f rfl rfl rfl) rfl rfl rfl (op_fa rfl fo24_2 (ev1 rfl)) ?_
  refine zak (gd_f rfl rfl rfl) rfl rfl rfl (op_ldm rfl tb22 (ev2 rfl) rfl rfl) ?_
  refine zak (gd_f rfl rfl rfl) rfl rfl rfl (op_len rfl sl22 (ev2 rfl)) ?_
  refine zak (gd_f rfl rfl rfl) rfl rfl rfl (op_neq rfl (ev2 rfl) (ev2 rfl)) ?_
  refine zab rfl rfl rfl (op_or rfl (ev1 rfl) (ev3 rfl id)) ?_
  refine zae ?_
  refine dwp_cond rfl (fun c1 => ?_) (fun c1 => ?_)
  · have hne : ¬ (w = w2 ∧ h = h2 ∧ ts = us) := by
      rintro ⟨rfl, rfl, rfl⟩
      simp at c1
    refine zaf ?_
    refine zad ?_
    refine zab rfl rfl rfl (zac (.inr rfl) (ev1 rfl)) ?_
    refine zae ?_
    refine dwp_ret ?_
    refine kend0 (rs1 rfl (rv_t rfl)) rfl ?_
    rw [decide_eq_false hne]
  · obtain ⟨rfl, rfl, hlen⟩ : w = w2 ∧ h = h2 ∧ ts.length = us.length := by
      simp at c1
      omega
    refine dwp_skip ?_
    refine zaf ?_
    refine zaf ?_
    refine zad ?_
    refine zab rfl rfl rfl (op_fa rfl fo24_2 (ev1 rfl)) ?_
    refine zab rfl rfl rfl (op_ldm rfl tb22 (ev1 rfl) rfl rfl) ?_
    refine zab rfl rfl rfl (op_len rfl sl22 (ev1 rfl)) ?_
    refine zab rfl rfl rfl (zac (.inl rfl) (ev1 rfl)) ?_
    refine zae ?_
    refine dwp_block ?_
    refine dwp_loopS ⟨hs0, rfl⟩ (α := Nat) (fun k => [(31, .val (.int .i64 (k : Int)))]) [(3, _), (29, _), (30, _)] (fun k => []) [_, _] (fun k => k ≤ ts.length ∧ ts.take k = us.take k) (fun k => ts.length - k) 0 [0, 1] (by simp) rfl ⟨rfl, rfl, rfl, trivial⟩ ⟨rfl, trivial⟩ ⟨rfl, rfl, trivial⟩ ?_
    intro k hx
    simp only [upd, zaa, za, List.cons_append, List.nil_append]
    obtain ⟨hk, he⟩ := hx
    refine zaf ?_
    refine zad ?_
    refine zab rfl rfl rfl (op_lss rfl (ev1 rfl) (ev1 rfl)) ?_
    refine zae ?_
    refine zaf ?_
    refine dwp_cond rfl (fun c2 => ?_) (fun c2 => ?_)
    · try simp only [decide_eq_true_eq, decide_eq_false_iff_not, beq_iff_eq, bne_iff_ne, beq_eq_false_iff_ne, bne_eq_false_iff_eq, Bool.not_eq_true', Bool.not_eq_false', Bool.and_eq_true, Bool.or_eq_true, Bool.or_eq_false_iff, ne_eq, Decidable.not_not, Int.not_lt, Int.not_le] at c2
      refine dwp_skip ?_
      refine zaf ?_
      refine dwp_block ?_
      refine zaf ?_
      refine zah 1 (by simp only [holes, List.cons_append, List.nil_append]; exact rfl) ?_
      refine zad ?_
      refine zab rfl rfl rfl (zac (.inl rfl) (ev1 rfl)) ?_
      refine zab rfl rfl rfl (op_ixsr (j := k) rfl sl22 (ev1 rfl) (ev1 rfl) tc_len (by decide) (by omega) (by omega)) ?_
      refine zab rfl rfl rfl (op_ldwd rfl tb73 (ev1 rfl) (tc_len _)) ?_
      refine zaj rfl rfl rfl (op_alloc 2 rfl zr73 rfl) (by simp only [upd, zaa, za]; exact rfl) ?_
      refine zab rfl rfl rfl (zac (.inr rfl) (ev1 rfl)) ?_
      refine walk_s rfl rfl (op_stwa rfl tb73 (ev1 rfl) (ev1 rfl) rfl (tc_len _) (tc_oc _) ((tc_len _).trans (tc_len _).symm)) (by simp only [upd, zaa, za]; exact rfl) ?_
      refine zae ?_
      refine zaf ?_
      refine dwp_draw [([2], []), ([], []), ([1], []), ([], []), ([], []), ([], []), ([], [])] mixed (by kernel_rfl) ?_
      refine zag rfl rfl (op_ldw rfl tb73 (ev1 rfl) rfl (tc_len _)) ?_
      refine zag rfl rfl (op_fa rfl fo24_2 (ev1 rfl)) ?_
      refine zag rfl rfl (op_ldm rfl tb22 (ev1 rfl) rfl rfl) ?_
      refine zag rfl rfl (zac (.inl rfl) (ev1 rfl)) ?_
      refine zag rfl rfl (op_ixsr (j := k) rfl sl22 (ev1 rfl) (ev1 rfl) tc_len (by decide) (by omega) (by omega)) ?_
      refine zag rfl rfl (op_ldwd rfl tb73 (ev1 rfl) (tc_len _)) ?_
      refine zag rfl rfl (op_ner eq73 rfl gd73 tb73 (ev1 rfl) (ev1 rfl)) ?_
      refine lex_nil ?_
      refine dwp_cond rfl (fun c2 => ?_) (fun c2 => ?_)
      · have c3 : ts[k] ≠ us[k] := by simpa using c2
        refine zaf ?_
        refine zad ?_
        refine zab rfl rfl rfl (zac (.inr rfl) (ev1 rfl)) ?_
        refine zae ?_
        refine dwp_ret ?_
        refine kend0 (rs1 rfl (rv_t rfl)) rfl ?_
        have hne : ¬ (w = w ∧ h = h ∧ ts = us) := by
          rintro ⟨_, _, rfl⟩
          exact c3 rfl
        have hne : ts ≠ us := fun e => hne ⟨rfl, rfl, e⟩
        simp [hne]
      · have c3 : ts[k] = us[k] := by simpa using c2
        refine dwp_skip ?_
        refine zad ?_
        refine zab rfl rfl rfl (op_add' rfl (ev1 rfl) (ev1 rfl) (fun _ => IntWalk.i64_in _ (by omega))) ?_
        refine zab rfl rfl rfl (zac (.inl rfl) (ev1 rfl)) ?_
        refine zae ?_
        refine ⟨k + 1, [0, 1], ⟨by omega, by rw [List.take_succ_eq_append_getElem (by omega), List.take_succ_eq_append_getElem (by omega), he, c3]⟩, by simp only []; omega, rfl, ⟨rfl, rfl, rfl, rfl, trivial⟩, ⟨rfl, rfl, trivial⟩⟩
    · try simp only [decide_eq_true_eq, decide_eq_false_iff_not, beq_iff_eq, bne_iff_ne, beq_eq_false_iff_ne, bne_eq_false_iff_eq, Bool.not_eq_true', Bool.not_eq_false', Bool.and_eq_true, Bool.or_eq_true, Bool.or_eq_false_iff, ne_eq, Decidable.not_not, Int.not_lt, Int.not_le] at c2
      refine dwp_exit ?_
      refine zaf ?_
      refine zad ?_
      refine zab rfl rfl rfl (zac (.inr rfl) (ev1 rfl)) ?_
      refine zae ?_
      refine dwp_ret ?_
      refine kend0 (rs1 rfl (rv_t rfl)) rfl ?_
      have e : ts = us := by
        have h := he
        rw [List.take_of_length_le (by omega), List.take_of_length_le (by omega)] at h
        exact h
      simp [e]
set_option maxRecDepth 4000 in
set_option maxHeartbeats 1000000 in
theorem on_d (w h : Int) (ts : List TL) (x y : Int) (hc : CvOk w h ts) : DFun Tryz.prog 91 [shD w h ts, .val (.int .i64 x), .val (.int .i64 y)] [] (.val (.bool (onS w h x y))) [] := by
  have hb := mayS_b hc.may
  refine zal (N := 27) 0 (by kernel_rfl) Tryz.func91 rfl rfl rfl (by simp only [fr0, Nat.zero_add, Nat.reduceAdd]; exact rfl) rfl fun s0 hs0 => ?_
  refine zaf ?_
  refine zah 1 (by simp only [holes, List.cons_append, List.nil_append]; exact rfl) ?_
  refine zad ?_
  refine zaj rfl rfl rfl (op_boxam 0 rfl (ev1 rfl) rfl) (by simp only [upd, zaa, za]; exact rfl) ?_
  refine zab rfl rfl rfl (zac (.inr rfl) (ev1 rfl)) ?_
  refine zae ?_
  refine zaf ?_
  refine zad ?_
  refine zab rfl rfl rfl (zac (.inl rfl) (ev1 rfl)) ?_
  refine zab rfl rfl rfl (op_geq rfl (ev1 rfl) (ev1 rfl)) ?_
  refine zab rfl rfl rfl (zac (.inl rfl) (ev1 rfl)) ?_
  refine zak (gd_t rfl rfl rfl) rfl rfl rfl (zac (.inl rfl) (ev1 rfl)) ?_
  refine zak (gd_t rfl rfl rfl) rfl rfl rfl (op_fa rfl fo24_0 (ev1 rfl)) ?_
  refine zak (gd_t rfl rfl rfl) rfl rfl rfl (op_ldm rfl tb3 (ev2 rfl) rfl rfl) ?_
  refine zak (gd_t rfl rfl rfl) rfl rfl rfl (op_mul' rfl (ev1 rfl) (ev2 rfl) (fun hp => IntWalk.i64_in _ (by first | omega | (simp at hp; omega)))) ?_
  refine zak (gd_t rfl rfl rfl) rfl rfl rfl (op_lss rfl (ev2 rfl) (ev2 rfl)) ?_
  refine zab rfl rfl rfl (op_and rfl (ev1 rfl) (ev3 rfl id)) ?_
  refine zab rfl rfl rfl (zac (.inl rfl) (ev1 rfl)) ?_
  refine zak (gd_t rfl rfl rfl) rfl rfl rfl (zac (.inl rfl) (ev1 rfl)) ?_
  refine zak (gd_t rfl rfl rfl) rfl rfl rfl (op_geq rfl (ev2 rfl) (ev1 rfl)) ?_
  refine zab rfl rfl rfl (op_and rfl (ev1 rfl) (ev3 rfl id)) ?_
  refine zab rfl rfl rfl (zac (.inl rfl) (ev1 rfl)) ?_
  refine zak (gd_t rfl rfl rfl) rfl rfl rfl (zac (.inl rfl) (ev1 rfl)) ?_
  refine zak (gd_t rfl rfl rfl) rfl rfl rfl (op_fa rfl fo24_1 (ev1 rfl)) ?_
  refine zak (gd_t rfl rfl rfl) rfl rfl rfl (op_ldm rfl tb3 (ev2 rfl) rfl rfl) ?_
  refine zak (gd_t rfl rfl rfl) rfl rfl rfl (op_mul' rfl (ev1 rfl) (ev2 rfl) (fun hp => IntWalk.i64_in _ (by first | omega | (simp at hp; omega)))) ?_
  refine zak (gd_t rfl rfl rfl) rfl rfl rfl (op_lss rfl (ev2 rfl) (ev2 rfl)) ?_
  refine zab rfl rfl rfl (op_and rfl (ev1 rfl) (ev3 rfl id)) ?_
  refine zab rfl rfl rfl (zac (.inr rfl) (ev1 rfl)) ?_
  refine zae ?_
  refine dwp_ret ?_
  refine kend0 (rs1 rfl (rv_t rfl)) rfl ?_
  rw [D.val.injEq, Value.bool.injEq, Bool.eq_iff_iff, onS_iff]
  simp
  omega
set_option maxRecDepth 4000 in
set_option maxHeartbeats 1000000 in
theorem rat_d (w h : Int) (ts : List TL) (x y : Int) (hc : CvOk w h ts) (ho : onS w h x y = true) : DFun Tryz.prog 57 [shD w h ts, .val (.int .i64 x), .val (.int .i64 y)] [] (.val (.agg (c4 (getC w ts x y)).toArray)) [] := by
  have hb := mayS_b hc.may
  have hxy := onS_iff.1 ho
  have hpl := on_pl hc.may ho
  have hpt := hc.pl ho
  have hq1 : 0 ≤ y / 8 ∧ y / 8 ≤ 3 := by omega
  have hq2 : 0 ≤ y / 8 * w := Int.mul_nonneg hq1.1 (by omega)
  have hq3 : y / 8 * w ≤ 3 * 4 := Int.mul_le_mul hq1.2 hb.1.2 (by omega) (by omega)
  refine zal (N := 26) 0 (by kernel_rfl) Tryz.func57 rfl rfl rfl (by simp only [fr0, Nat.zero_add, Nat.reduceAdd]; exact rfl) rfl fun s0 hs0 => ?_
  refine zaf ?_
  refine zah 2 (by simp only [holes, List.cons_append, List.nil_append]; exact rfl) ?_
  refine zad ?_
  refine zaj rfl rfl rfl (op_boxam 0 rfl (ev1 rfl) rfl) (by simp only [upd, zaa, za]; exact rfl) ?_
  refine zaj rfl rfl rfl (op_alloc 1 rfl zr27 rfl) (by simp only [upd, zaa, za]; exact rfl) ?_
  refine zae ?_
  refine zaf ?_
  refine zad ?_
  refine zab rfl rfl rfl (op_fa rfl fo24_2 (ev1 rfl)) ?_
  refine zab rfl rfl rfl (op_ldm rfl tb22 (ev1 rfl) rfl rfl) ?_
  refine zab rfl rfl rfl (zac (.inl rfl) (ev1 rfl)) ?_
  refine zab rfl rfl rfl (op_quo' rfl (ev1 rfl) (ev1 rfl) (fun _ => ⟨by omega, by omega, IntWalk.i64_in _ (by omega)⟩)) ?_
  refine zab rfl rfl rfl (op_fa rfl fo24_0 (ev1 rfl)) ?_
  refine zab rfl rfl rfl (op_ldm rfl tb3 (ev1 rfl) rfl rfl) ?_
  refine zab rfl rfl rfl (op_mul' rfl (ev1 rfl) (ev1 rfl) (fun _ => IntWalk.i64_in _ (by omega))) ?_
  refine zab rfl rfl rfl (zac (.inl rfl) (ev1 rfl)) ?_
  refine zab rfl rfl rfl (op_quo' rfl (ev1 rfl) (ev1 rfl) (fun _ => ⟨by omega, by omega, IntWalk.i64_in _ (by omega)⟩)) ?_
  refine zab rfl rfl rfl (op_add' rfl (ev1 rfl) (ev1 rfl) (fun _ => IntWalk.i64_in _ (by omega))) ?_
  refine zab rfl rfl rfl (zac (.inl rfl) (ev1 rfl)) ?_
  refine zab rfl rfl rfl (op_rem' rfl (ev1 rfl) (ev1 rfl) (fun _ => ⟨by omega, by omega⟩)) ?_
  refine zab rfl rfl rfl (op_mul' rfl (ev1 rfl) (ev1 rfl) (fun _ => IntWalk.i64_in _ (by omega))) ?_
  refine zab rfl rfl rfl (zac (.inl rfl) (ev1 rfl)) ?_
  refine zab rfl rfl rfl (op_rem' rfl (ev1 rfl) (ev1 rfl) (fun _ => ⟨by omega, by omega⟩)) ?_
  refine zab rfl rfl rfl (op_add' rfl (ev1 rfl) (ev1 rfl) (fun _ => IntWalk.i64_in _ (by omega))) ?_
  refine zab rfl rfl rfl (op_ixsr (j := plN w x y) rfl sl22 (ev1 rfl) (ev1 rfl) tc_len (by decide) (hpl.1) (by omega)) ?_
  refine zab rfl rfl rfl (op_ixdr (j := pxN x y) (zC4) rfl ar73 (ev1 rfl) (ev1 rfl) (fun _ => hpl.2.2.1) (fun _ => by omega) ((TL.h _)) (fun _ => rfl)) ?_
  refine zab rfl rfl rfl (op_ldwd rfl tb27 (ev1 rfl) rfl) ?_
  refine walk_s rfl rfl (op_stwa rfl tb27 (ev1 rfl) (ev1 rfl) rfl rfl rfl rfl) (by simp only [upd, zaa, za]; exact rfl) ?_
  refine zae ?_
  refine dwp_ret ?_
  refine kend0 (rs1 rfl (rv_w tb27 rfl rfl rfl)) rfl ?_
  rw [getC, tl_at hpt]; rfl
end Go.Proofs.YtjgnalfnginjbaaGreatDoor
namespace Go.Proofs.YtjgnalfnginjbaaGreatDoor
set_option maxRecDepth 4000
set_option linter.unusedVariables false
set_option linter.unusedSimpArgs false
open Go.RowKit
theorem fl24 : fdL Tryz.prog 24 = some [(0, 1), (1, 1), (2, 1)] := by kernel_rfl
theorem fl82 : fdL Tryz.prog 82 = some [(0, 2), (2, 1)] := by kernel_rfl
theorem tb24 : tyB Tryz.prog 24 = some (true, 3) := by kernel_rfl
theorem zr24 : zrC Tryz.prog 24 = some [.int .i64 0, .int .i64 0, .slice none 0 0] := by kernel_rfl
theorem zr79 : zrC Tryz.prog 79 = some [.pointer none] := by kernel_rfl
theorem zr82 : zrC Tryz.prog 82 = some [.int .i64 0, .int .i64 0, .slice none 0 0] := by kernel_rfl
theorem tc_sz (t : TL) : ([Value.agg (tc t).toArray].all fun v => v.cells.size == 256) = true := by
  show ((tc t).toArray.size == 256 && true) = true
  rw [List.size_toArray, tc_len]; rfl
theorem tc_fl (t : TL) : ([Value.agg (tc t).toArray].flatMap fun v => v.cells.toList) = tc t := by rw [List.flatMap_cons]; exact List.append_nil _
theorem tc_oc1 (t : TL) : ([Value.agg (tc t).toArray].flatMap fun v => v.cells.toList).all (·.oneCell') = true := by rw [tc_fl]; exact tc_oc t
theorem tk_add {ts : List TL} {k : Nat} (h : k < ts.length) : (ts.take k).flatMap tc ++ ([Value.agg (tc (ts.getD k zT)).toArray].flatMap fun v => v.cells.toList) = (ts.take (k + 1)).flatMap tc := by
  rw [tc_fl, List.take_succ_eq_append_getElem h, List.flatMap_append, tl_at h]
  congr 1
  exact (List.append_nil _).symm
set_option maxRecDepth 4000 in
set_option maxHeartbeats 1000000 in
theorem show1_d (t : TL) : DFun Tryz.prog 60 [.dpf (tc t)] [] (tD t) [] := by
  refine zal (N := 6) 0 (by kernel_rfl) Tryz.func60 rfl rfl rfl (by simp only [fr0, Nat.zero_add, Nat.reduceAdd]; exact rfl) rfl fun s0 hs0 => ?_
  refine zaf ?_
  refine zah 1 (by simp only [holes, List.cons_append, List.nil_append]; exact rfl) ?_
  refine zad ?_
  refine zaj rfl rfl rfl (op_alloc 0 rfl zr73 rfl) (by simp only [upd, zaa, za]; exact rfl) ?_
  refine zae ?_
  refine zaf ?_
  refine zad ?_
  refine zab rfl rfl rfl (zac (.inl rfl) (ev1 rfl)) ?_
  refine zab rfl rfl rfl (op_nc rfl (ev1 rfl) (fun s v h => by cases h; exact ⟨_, rfl⟩)) ?_
  refine zab rfl rfl rfl (op_ldwd rfl tb73 (ev1 rfl) (tc_len _)) ?_
  refine walk_s rfl rfl (op_stwa rfl tb73 (ev1 rfl) (ev1 rfl) rfl (tc_len _) (tc_oc _) ((tc_len _).trans (tc_len _).symm)) (by simp only [upd, zaa, za]; exact rfl) ?_
  refine zae ?_
  refine dwp_ret ?_
  refine kend0 (rs1 rfl (rv_w tb73 rfl rfl (tc_len _))) rfl ?_
  rfl
set_option maxRecDepth 4000 in
set_option maxHeartbeats 1000000 in
theorem each2_d (ds : List D) (ts : List TL) (hr : RowOk ds ts) (hn : ts.length ≤ 5000) : DFun Tryz.prog 59 [.slm 1 ds.length ds, .fn (.func 60) [] []] [] (.slf 256 ts.length (ts.flatMap tc)) [] := by
  have hlen := hr.len
  refine zal (N := 25) 0 (by kernel_rfl) Tryz.func59 rfl rfl rfl (by simp only [fr0, Nat.zero_add, Nat.reduceAdd]; exact rfl) rfl fun s0 hs0 => ?_
  refine dwp_lenm (t := 0) rfl fun hl0 hL0 => ?_
  refine zaf ?_
  refine zad ?_
  refine zab rfl rfl rfl (zac (.inr rfl) (ev1 rfl)) ?_
  refine zae ?_
  refine zaf ?_
  refine zah 1 (by simp only [holes, List.cons_append, List.nil_append]; exact rfl) ?_
  refine zad ?_
  refine zab rfl rfl rfl (zac (.inl rfl) (ev1 rfl)) ?_
  refine zab rfl rfl rfl (op_lenm rfl sl77 (ev1 rfl)) ?_
  refine zaj rfl rfl rfl (op_mk0 0 (ds.length) rfl sl22 zr73 (ev1 rfl) (ev1 rfl) (fun _ => rfl) (fun _ => by omega) rfl (fun _ => ⟨by omega, by omega⟩)) (by simp only [upd, zaa, za]; exact rfl) ?_
  refine zab rfl rfl rfl (zac (.inr rfl) (ev1 rfl)) ?_
  refine zae ?_
  refine zaf ?_
  refine zaf ?_
  refine zad ?_
  refine zab rfl rfl rfl (zac (.inl rfl) (ev1 rfl)) ?_
  refine zab rfl rfl rfl (op_lenm rfl sl77 (ev1 rfl)) ?_
  refine zab rfl rfl rfl (zac (.inl rfl) (ev1 rfl)) ?_
  refine zae ?_
  refine dwp_block ?_
  refine dwp_loopS ⟨hs0, rfl⟩ (α := Nat) (fun k => [(13, .val (.int .i64 (k : Int)))]) [(1, _), (5, _), (11, _), (12, _)] (fun k => [(0, .arr 73 256 (ts.take k).length ((ts.take k).flatMap tc))]) [.hole] (fun k => k ≤ ts.length) (fun k => ts.length - k) 0 [0] (Nat.zero_le _) rfl ⟨rfl, rfl, rfl, rfl, trivial⟩ ⟨rfl, trivial⟩ ⟨rfl, trivial⟩ ?_
  intro k hx
  simp only [upd, zaa, za, List.cons_append, List.nil_append]
  have hk := hx
  have htl : (ts.take k).length = k := by rw [List.length_take]; omega
  refine zaf ?_
  refine zad ?_
  refine zab rfl rfl rfl (op_lss rfl (ev1 rfl) (ev1 rfl)) ?_
  refine zae ?_
  refine zaf ?_
  refine dwp_cond rfl (fun c1 => ?_) (fun c1 => ?_)
  · try simp only [decide_eq_true_eq, decide_eq_false_iff_not, beq_iff_eq, bne_iff_ne, beq_eq_false_iff_ne, bne_eq_false_iff_eq, Bool.not_eq_true', Bool.not_eq_false', Bool.and_eq_true, Bool.or_eq_true, Bool.or_eq_false_iff, ne_eq, Decidable.not_not, Int.not_lt, Int.not_le] at c1
    refine dwp_skip ?_
    refine zaf ?_
    refine dwp_block ?_
    refine zaf ?_
    obtain ⟨d, hd, _, hnl, _, hw⟩ := hr.at (q := k) (by omega)
    refine zad ?_
    refine zab rfl rfl rfl (op_ixm (k) rfl sl77 (ev1 rfl) (ev1 rfl) (fun _ => rfl) (hd)) ?_
    refine zab rfl rfl rfl ((op_lddm rfl tb79 (ev1 rfl) rfl).wk (hw)) ?_
    refine zab rfl rfl rfl (zac (.inr rfl) (ev1 rfl)) ?_
    refine zae ?_
    refine zah 2 (by simp only [holes, List.cons_append, List.nil_append]; exact rfl) ?_
    refine zad ?_
    refine zab rfl rfl rfl (zac (.inl rfl) (ev1 rfl)) ?_
    refine zab rfl rfl rfl (zac (.inl rfl) (ev1 rfl)) ?_
    refine zab rfl rfl rfl (zac (.inl rfl) (ev1 rfl)) ?_
    refine zab rfl rfl rfl (zai [] [] [] rfl (ev1 rfl) (ec (ev1 rfl) en) rfl rfl (show1_d _) rfl rfl rfl rfl rfl rfl) ?_
    refine zaj rfl rfl rfl (op_bsa (ps := [(0, .tmp 20)]) 1 rfl sl22 zr73 rfl (vc (ev1 rfl) vn) (tc_sz _) (by decide) (by decide) rfl) (by simp only [upd, zaa, za]; exact rfl) ?_
    refine zaj rfl rfl rfl (op_app (j := 2) rfl sl22 zr73 rfl (ev1 rfl) (ev1 rfl) (src_arr rfl) rfl rfl (fun _ => tc_oc1 _) (fun _ => ⟨by omega, by omega⟩)) (by simp only [upd, zaa, za]; exact rfl) ?_
    refine zab rfl rfl rfl (zac (.inr rfl) (ev1 rfl)) ?_
    refine zae ?_
    refine zad ?_
    refine zab rfl rfl rfl (op_add' rfl (ev1 rfl) (ev1 rfl) (fun _ => IntWalk.i64_in _ (by omega))) ?_
    refine zab rfl rfl rfl (zac (.inl rfl) (ev1 rfl)) ?_
    refine zae ?_
    refine ⟨k + 1, [2], by omega, by simp only []; omega, rfl, ⟨rfl, rfl, rfl, rfl, rfl, trivial⟩, ⟨arr_eq (by simp; omega) (tk_add (by omega)), trivial⟩⟩
  · try simp only [decide_eq_true_eq, decide_eq_false_iff_not, beq_iff_eq, bne_iff_ne, beq_eq_false_iff_ne, bne_eq_false_iff_eq, Bool.not_eq_true', Bool.not_eq_false', Bool.and_eq_true, Bool.or_eq_true, Bool.or_eq_false_iff, ne_eq, Decidable.not_not, Int.not_lt, Int.not_le] at c1
    refine dwp_exit ?_
    refine zaf ?_
    refine dwp_giveA 5 rfl rfl (by simp only [zaa, za]; exact rfl) ?_
    refine zad ?_
    refine zab rfl rfl rfl (zac (.inl rfl) (ev1 rfl)) ?_
    refine zab rfl rfl rfl (zac (.inr rfl) (ev1 rfl)) ?_
    refine zae ?_
    refine dwp_ret ?_
    rw [List.take_of_length_le (by omega)]
    refine kend0 (rs1 rfl (rv_t rfl)) rfl ?_
    rfl
set_option maxRecDepth 4000 in
set_option maxHeartbeats 1000000 in
theorem show_d (w h : Int) (ds : List D) (ts : List TL) (hr : RowOk ds ts) (hc : CvOk w h ts)  : DFun Tryz.prog 20 [cvD w h ds] [] (shD w h ts) [] := by
  have hle := hc.le
  refine zal (N := 22) 0 (by kernel_rfl) Tryz.func20 rfl rfl rfl (by simp only [fr0, Nat.zero_add, Nat.reduceAdd]; exact rfl) rfl fun s0 hs0 => ?_
  refine zaf ?_
  refine zah 1 (by simp only [holes, List.cons_append, List.nil_append]; exact rfl) ?_
  refine zad ?_
  refine zaj rfl rfl rfl (op_alloc 0 rfl zr24 rfl) (by simp only [upd, zaa, za]; exact rfl) ?_
  refine zae ?_
  refine zaf ?_
  refine zaf ?_
  refine zad ?_
  refine zab rfl rfl rfl (zac (.inl rfl) (ev1 rfl)) ?_
  refine zab rfl rfl rfl (op_pnilm rfl pt33 (ev1 rfl)) ?_
  refine zae ?_
  refine dwp_if_f rfl (rfl) ?_
  refine dwp_skip ?_
  refine zaf ?_
  refine dwp_draw [([], []), ([], []), ([], []), ([], []), ([], []), ([], []), ([], []), ([], []), ([], []), ([], []), ([], []), ([], []), ([], []), ([], []), ([], []), ([], []), ([0], [0])] mixed (by kernel_rfl) ?_
  refine zag rfl rfl (zac (.inl rfl) (ev1 rfl)) ?_
  refine zag rfl rfl (op_nc rfl (ev1 rfl) (fun s v h => by cases h; exact ⟨_, rfl⟩)) ?_
  refine zag rfl rfl (op_fadm rfl fo82_0 (ev1 rfl)) ?_
  refine zag rfl rfl (op_fadm rfl fo76_0 (ev1 rfl)) ?_
  refine zag rfl rfl (op_lddm rfl tb3 (ev1 rfl) rfl) ?_
  refine zag rfl rfl (zac (.inl rfl) (ev1 rfl)) ?_
  refine zag rfl rfl (op_nc rfl (ev1 rfl) (fun s v h => by cases h; exact ⟨_, rfl⟩)) ?_
  refine zag rfl rfl (op_fadm rfl fo82_0 (ev1 rfl)) ?_
  refine zag rfl rfl (op_fadm rfl fo76_1 (ev1 rfl)) ?_
  refine zag rfl rfl (op_lddm rfl tb3 (ev1 rfl) rfl) ?_
  refine zag rfl rfl (zac (.inl rfl) (ev1 rfl)) ?_
  refine zag rfl rfl (op_nc rfl (ev1 rfl) (fun s v h => by cases h; exact ⟨_, rfl⟩)) ?_
  refine zag rfl rfl (op_fadm rfl fo82_1 (ev1 rfl)) ?_
  refine zag rfl rfl (op_lddm rfl tb77 (ev1 rfl) rfl) ?_
  refine zag rfl rfl (zai [] [] [] rfl (ev1 rfl) (ec (ev1 rfl) (ec (ev1 rfl) en)) rfl rfl (each2_d ds ts hr (by omega)) rfl rfl rfl rfl rfl rfl) ?_
  refine zag rfl rfl (op_bldD (ps := [(0, .tmp 10), (1, .tmp 15), (2, .tmp 20)]) rfl fl24 zr24 (ec (ev1 rfl) (ec (ev1 rfl) (ec (ev1 rfl) en))) rfl rfl rfl) ?_
  refine lex_s rfl rfl (op_stam rfl tb24 (ev1 rfl) (ev1 rfl) rfl rfl rfl rfl) rfl (by simp only [upd, zaa, za]; exact rfl) ?_
  refine lex_nil ?_
  refine dwp_ret ?_
  refine kend0 (rs1 rfl (rv_mw tb24 rfl rfl rfl)) rfl ?_
  rfl
set_option maxRecDepth 4000 in
set_option maxHeartbeats 1000000 in
theorem new_d (c : C4) : DFun Tryz.prog 82 [.val (.agg (c4 c).toArray)] [] (tD (nT c)) [] := by
  refine zal (N := 13) 0 (by kernel_rfl) Tryz.func82 rfl rfl rfl (by simp only [fr0, Nat.zero_add, Nat.reduceAdd]; exact rfl) rfl fun s0 hs0 => ?_
  refine zaf ?_
  refine zah 2 (by simp only [holes, List.cons_append, List.nil_append]; exact rfl) ?_
  refine zad ?_
  refine zaj rfl rfl rfl (op_boxa 0 rfl (ev1 rfl) rfl) (by simp only [upd, zaa, za]; exact rfl) ?_
  refine zaj rfl rfl rfl (op_alloc 1 rfl zr73 rfl) (by simp only [upd, zaa, za]; exact rfl) ?_
  refine zae ?_
  refine zaf ?_
  refine zah 1 (by simp only [holes, List.cons_append, List.nil_append]; exact rfl) ?_
  refine zad ?_
  refine zaj rfl rfl rfl (op_alloc 2 rfl zr73 rfl) (by simp only [upd, zaa, za]; exact rfl) ?_
  refine zae ?_
  refine zaf ?_
  refine zaf ?_
  refine zad ?_
  refine zab rfl rfl rfl (zac (.inl rfl) (ev1 rfl)) ?_
  refine zae ?_
  refine dwp_block ?_
  refine dwp_loopS ⟨hs0, rfl⟩ (α := Nat) (fun k => [(5, .val (.int .i64 (k : Int)))]) [(1, _), (2, _), (3, _)] (fun k => [(2, .flat 73 (tc (newT c k)))]) [_, _, .hole] (fun k => k ≤ 64) (fun k => 64 - k) 0 [0, 1, 2] (by simp) rfl ⟨rfl, rfl, rfl, trivial⟩ ⟨rfl, trivial⟩ ⟨rfl, rfl, rfl, trivial⟩ ?_
  intro k hx
  simp only [upd, zaa, za, List.cons_append, List.nil_append]
  have hk := hx
  refine zaf ?_
  refine zad ?_
  refine zab rfl rfl rfl (op_lss rfl (ev1 rfl) (ev1 rfl)) ?_
  refine zae ?_
  refine zaf ?_
  refine dwp_cond rfl (fun c1 => ?_) (fun c1 => ?_)
  · try simp only [decide_eq_true_eq, decide_eq_false_iff_not, beq_iff_eq, bne_iff_ne, beq_eq_false_iff_ne, bne_eq_false_iff_eq, Bool.not_eq_true', Bool.not_eq_false', Bool.and_eq_true, Bool.or_eq_true, Bool.or_eq_false_iff, ne_eq, Decidable.not_not, Int.not_lt, Int.not_le] at c1
    refine dwp_skip ?_
    refine zaf ?_
    refine dwp_block ?_
    refine zaf ?_
    refine zad ?_
    refine zab rfl rfl rfl (zac (.inl rfl) (ev1 rfl)) ?_
    refine zab rfl rfl rfl (zac (.inr rfl) (ev1 rfl)) ?_
    refine zae ?_
    refine zad ?_
    refine zab rfl rfl rfl (zac (.inl rfl) (ev1 rfl)) ?_
    refine zab rfl rfl rfl (op_ldw rfl tb27 (ev1 rfl) rfl rfl) ?_
    refine zab rfl rfl rfl (op_ixfr (j := k) rfl ar73 (ev1 rfl) (ev1 rfl) (fun _ => by omega) (fun _ => by omega)) ?_
    refine walk_s rfl rfl (op_stfr (q := c) rfl tb27 (ev1 rfl) (ev1 rfl) rfl rfl rfl (fun _ => rfl) (fun _ => by rw [TL.h]; omega)) (by simp only [upd, zaa, za]; exact rfl) ?_
    refine zae ?_
    refine zad ?_
    refine zab rfl rfl rfl (op_add' rfl (ev1 rfl) (ev1 rfl) (fun _ => IntWalk.i64_in _ (by omega))) ?_
    refine zab rfl rfl rfl (zac (.inl rfl) (ev1 rfl)) ?_
    refine zae ?_
    refine ⟨k + 1, [0, 1, 2], by omega, by simp only []; omega, rfl, ⟨rfl, rfl, rfl, rfl, trivial⟩, ⟨rfl, rfl, by rw [newT_succ]; rfl, trivial⟩⟩
  · try simp only [decide_eq_true_eq, decide_eq_false_iff_not, beq_iff_eq, bne_iff_ne, beq_eq_false_iff_ne, bne_eq_false_iff_eq, Bool.not_eq_true', Bool.not_eq_false', Bool.and_eq_true, Bool.or_eq_true, Bool.or_eq_false_iff, ne_eq, Decidable.not_not, Int.not_lt, Int.not_le] at c1
    refine dwp_exit ?_
    refine zaf ?_
    refine zad ?_
    refine zab rfl rfl rfl (op_ldw rfl tb73 (ev1 rfl) rfl (tc_len _)) ?_
    refine walk_s rfl rfl (op_stwa rfl tb73 (ev1 rfl) (ev1 rfl) rfl (tc_len _) (tc_oc _) ((tc_len _).trans (tc_len _).symm)) (by simp only [upd, zaa, za]; exact rfl) ?_
    refine zae ?_
    refine dwp_ret ?_
    refine kend0 (rs1 rfl (rv_w tb73 rfl rfl (tc_len _))) rfl ?_
    rw [show k = 64 by omega, newT_end]
def pinsR (A : List Nat) (ts : List TL) : List D := (A.zip ts).map fun p => .pin p.1 (tc p.2)
theorem pinsR_len {A : List Nat} {ts : List TL} (h : A.length = ts.length) : (pinsR A ts).length = ts.length := by simp [pinsR, h]
theorem pinsR_at {A : List Nat} {ts : List TL} {q : Nat} {d : D} (hd : (pinsR A ts)[q]? = some d) : ∃ b t, A[q]? = some b ∧ ts[q]? = some t ∧ d = .pin b (tc t) := by
  unfold pinsR at hd
  rw [List.getElem?_map] at hd
  cases e : (A.zip ts)[q]? with
  | none => rw [e] at hd; cases hd
  | some p =>
    rw [e] at hd
    obtain ⟨h1, h2⟩ := List.getElem?_zip_eq_some.1 e
    cases hd
    exact ⟨p.1, p.2, h1, h2, rfl⟩
theorem nlL_all {l : List D} (h : ∀ d ∈ l, d.nl = true) : D.nlL l = true := by
  induction l with
  | nil => rfl
  | cons d l ih => rw [D.nlL, h d (by simp), ih fun e he => h e (by simp [he])]; rfl
theorem pinsR_ok {A : List Nat} {ts : List TL} (h : A.length = ts.length) : RowOk (pinsR A ts) ts := by
  have hm : ∀ d ∈ pinsR A ts, ∃ b t, d = .pin b (tc t) := fun d hd => by
    obtain ⟨q, hq⟩ := List.getElem?_of_mem hd
    obtain ⟨b, t, _, _, e⟩ := pinsR_at hq
    exact ⟨b, t, e⟩
  refine ⟨pinsR_len h, nlL_all fun d hd => ?_, List.all_eq_true.2 fun d hd => ?_, fun q d t h1 h2 => ?_⟩
  · obtain ⟨b, t, rfl⟩ := hm d hd; rfl
  · obtain ⟨b, t, rfl⟩ := hm d hd; rfl
  · obtain ⟨b, u, h3, h4, rfl⟩ := pinsR_at h1
    rw [h2] at h4
    cases h4
    exact Wk.pin _ _
theorem pinsR_add {A : List Nat} {ts : List TL} (h : A.length = ts.length) (b : Nat) (t : TL) : pinsR (A ++ [b]) (ts ++ [t]) = pinsR A ts ++ [.pin b (tc t)] := by
  unfold pinsR
  rw [List.zip_append h, List.map_append]
  rfl
theorem pinsR_rep (A : List Nat) (b : Nat) (t : TL) : pinsR A (List.replicate A.length t) ++ List.flatMap D.cs [.pin b (tc t)] = pinsR (A ++ [b]) (List.replicate (A ++ [b]).length t) := by
  rw [List.length_append, show A.length + [b].length = A.length + 1 from rfl, List.replicate_succ', pinsR_add (by simp)]
  rfl
def NewCv (I : Nat → Prop) (w h : Int) (ts : List TL) (d : D) : Prop := ∃ A : List Nat, A.length = ts.length ∧ (∀ b ∈ A, ¬ I b) ∧ d = cvD w h (pinsR A ts)
def Okd (Q : D → Prop) (d : D) : Prop := ∃ e, Q e ∧ d = .tup [e, .val (.int .i64 0)]
set_option maxRecDepth 4000 in
set_option maxHeartbeats 1000000 in
theorem cnew_i (w h : Int) (n : Nat) (hm : mayS w h = true) (hn : w * h = (n : Int)) : DFunI Tryz.prog 41 [.val (.int .i64 w), .val (.int .i64 h)] [] (fun I => Okd (NewCv I w h (List.replicate n (nT zC4)))) [] := by
  have hb := mul_in hm
  refine dcallsI_go (N := 36) 0 (by kernel_rfl) Tryz.func41 rfl rfl rfl (by simp only [fr0, Nat.zero_add, Nat.reduceAdd]; exact rfl) rfl fun s0 hs0 => ?_
  refine zaf ?_
  refine zad ?_
  refine zab rfl rfl rfl (zac (.inr rfl) (ev1 rfl)) ?_
  refine zab rfl rfl rfl (zac (.inr rfl) (ev1 rfl)) ?_
  refine zae ?_
  refine zaf ?_
  refine zah 1 (by simp only [holes, List.cons_append, List.nil_append]; exact rfl) ?_
  refine zad ?_
  refine zab rfl rfl rfl (zac (.inl rfl) (ev1 rfl)) ?_
  refine zab rfl rfl rfl (zac (.inl rfl) (ev1 rfl)) ?_
  refine zab rfl rfl rfl (op_build (ps := [(0, .tmp 9), (1, .tmp 10)]) rfl fl76 zr76 (vc (ev1 rfl) (vc (ev1 rfl) vn)) rfl rfl) ?_
  refine zaj rfl rfl rfl (op_alloc 0 rfl zr76 rfl) (by simp only [upd, zaa, za]; exact rfl) ?_
  refine walk_s rfl rfl (op_stwa rfl tb76 (ev1 rfl) (ev1 rfl) rfl rfl rfl rfl) (by simp only [upd, zaa, za]; exact rfl) ?_
  refine zae ?_
  refine zaf ?_
  refine zaf ?_
  refine zad ?_
  refine zab rfl rfl rfl (op_ldw rfl tb76 (ev1 rfl) rfl rfl) ?_
  refine zab rfl rfl rfl (zai [] [] [] rfl (ev1 rfl) (ec (ev1 rfl) en) rfl rfl (smay_d _ _) rfl rfl rfl rfl rfl rfl) ?_
  refine zab rfl rfl rfl (op_not rfl (ev1 rfl)) ?_
  refine zae ?_
  refine dwp_if_f rfl (by rw [hm]; rfl) ?_
  refine dwp_skip ?_
  refine zaf ?_
  refine zah 1 (by simp only [holes, List.cons_append, List.nil_append]; exact rfl) ?_
  refine zad ?_
  refine zab rfl rfl rfl (op_ldw rfl tb76 (ev1 rfl) rfl rfl) ?_
  refine zab rfl rfl rfl (op_build (ps := [(0, .tmp 15)]) rfl fl82 zr82 (vc (ev1 rfl) vn) rfl rfl) ?_
  refine zaj rfl rfl rfl (op_boxa 1 rfl (ev1 rfl) rfl) (by simp only [upd, zaa, za]; exact rfl) ?_
  refine zab rfl rfl rfl (zac (.inr rfl) (ev1 rfl)) ?_
  refine zae ?_
  refine zaf ?_
  refine zaf ?_
  refine dwp_reb 1 reb_mix rfl rfl (by simp only [List.cons_append, List.nil_append, zaa, za, List.map]; exact rfl) ?_
  refine dwp_adoptc (l' := [.val (.int .i64 w), .val (.int .i64 h), .arr 2]) 1 2 79 1 rfl rfl rfl rfl (by simp only [List.cons_append, List.nil_append, zaa, za]; exact rfl) ?_
  refine zad ?_
  refine zab rfl rfl rfl (zac (.inl rfl) (ev1 rfl)) ?_
  refine zab rfl rfl rfl (zac (.inl rfl) (ev1 rfl)) ?_
  refine zab rfl rfl rfl (op_mul' rfl (ev1 rfl) (ev1 rfl) (fun _ => IntWalk.i64_in _ (by omega))) ?_
  refine zab rfl rfl rfl (zac (.inl rfl) (ev1 rfl)) ?_
  refine zae ?_
  refine dwp_block ?_
  refine dwp_loopS ⟨hs0, rfl⟩ (α := List Nat) (fun A => [(21, .val (.int .i64 (A.length : Int)))]) [(7, _), (20, _)] (fun A => [(2, .arx 79 1 A.length (pinsR A (List.replicate A.length (nT zC4))))]) [_, _, .hole] (fun A => A.length ≤ n ∧ ∀ b ∈ A, ¬ s0.I b) (fun A => n - A.length) [] [0, 1, 2] (⟨Nat.zero_le _, fun b hb => by simp at hb⟩) rfl ⟨rfl, rfl, trivial⟩ ⟨rfl, trivial⟩ ⟨rfl, rfl, rfl, trivial⟩ ?_
  intro A hx
  simp only [upd, zaa, za, List.cons_append, List.nil_append]
  obtain ⟨hA, hAI⟩ := hx
  refine zaf ?_
  refine zad ?_
  refine zab rfl rfl rfl (op_lss rfl (ev1 rfl) (ev1 rfl)) ?_
  refine zae ?_
  refine zaf ?_
  refine dwp_cond rfl (fun c2 => ?_) (fun c2 => ?_)
  · try simp only [decide_eq_true_eq, decide_eq_false_iff_not, beq_iff_eq, bne_iff_ne, beq_eq_false_iff_ne, bne_eq_false_iff_eq, Bool.not_eq_true', Bool.not_eq_false', Bool.and_eq_true, Bool.or_eq_true, Bool.or_eq_false_iff, ne_eq, Decidable.not_not, Int.not_lt, Int.not_le] at c2
    refine dwp_skip ?_
    refine zaf ?_
    refine dwp_block ?_
    refine zaf ?_
    refine zah 1 (by simp only [holes, List.cons_append, List.nil_append]; exact rfl) ?_
    refine zad ?_
    refine zab rfl rfl rfl (op_build0 rfl fl27 zr27) ?_
    refine zab rfl rfl rfl (zai [] [] [] rfl (ev1 rfl) (ec (ev1 rfl) en) rfl rfl (new_d zC4) rfl rfl rfl rfl rfl rfl) ?_
    refine zaj rfl rfl rfl (op_alloc 3 rfl zr73 rfl) (by simp only [upd, zaa, za]; exact rfl) ?_
    refine walk_s rfl rfl (op_stwa rfl tb73 (ev1 rfl) (ev1 rfl) rfl (tc_len _) (tc_oc _) ((tc_len _).trans (tc_len _).symm)) (by simp only [upd, zaa, za]; exact rfl) ?_
    refine zae ?_
    refine dwp_pin 8 rfl rfl (by simp only [zaa, za]; exact rfl) fun b hb => ?_
    refine zah 1 (by simp only [holes, List.cons_append, List.nil_append]; exact rfl) ?_
    refine zad ?_
    refine zab rfl rfl rfl (zac (.inl rfl) (ev1 rfl)) ?_
    refine zab rfl rfl rfl (zac (.inl rfl) (ev1 rfl)) ?_
    refine zab rfl rfl rfl (op_nc rfl (ev1 rfl) (fun s v h => by cases h; exact ⟨_, rfl⟩)) ?_
    refine zab rfl rfl rfl (op_fa rfl fo82_1 (ev1 rfl)) ?_
    refine zab rfl rfl rfl (op_ldm rfl tb77 (ev1 rfl) rfl rfl) ?_
    refine zab rfl rfl rfl (op_bsr (ps := [(0, .tmp 8)]) rfl sl77 zr79 rfl (ec (ev1 rfl) en) rfl rfl rfl (by rfl) rfl (by decide) (by decide)) ?_
    refine zaj rfl rfl rfl (op_appr (j := 4) rfl sl77 zr79 rfl (ev1 rfl) (ev1 rfl) rfl rfl (rfl) (fun _ => ⟨by omega, by omega⟩)) (by simp only [upd, zaa, za]; exact rfl) ?_
    refine zab rfl rfl rfl (op_nc rfl (ev1 rfl) (fun s v h => by cases h; exact ⟨_, rfl⟩)) ?_
    refine zab rfl rfl rfl (op_fa rfl fo82_1 (ev1 rfl)) ?_
    refine walk_s rfl rfl (op_stm rfl tb77 (ev1 rfl) (ev1 rfl) (fun s v h => by cases h <;> exact ⟨rfl, rfl⟩) rfl (by first | decide | exact Nat.le_of_ble_eq_true rfl | simp)) (by simp only [upd, zaa, za]; exact rfl) ?_
    refine zae ?_
    refine zad ?_
    refine zab rfl rfl rfl (op_add' rfl (ev1 rfl) (ev1 rfl) (fun _ => IntWalk.i64_in _ (by omega))) ?_
    refine zab rfl rfl rfl (zac (.inl rfl) (ev1 rfl)) ?_
    refine zae ?_
    refine ⟨A ++ [b], [0, 1, 4], ⟨by simp; omega, fun c hc => by
    rcases List.mem_append.1 hc with hc | hc
    · exact hAI c hc
    · simp at hc; subst hc; exact hb⟩, by simp; omega, rfl, ⟨by rw [List.length_append]; rfl, rfl, rfl, trivial⟩, ⟨rfl, rfl, arxn_fits (by rw [pinsR_rep]; exact (pinsR_ok (by simp)).nl) (by simp) (pinsR_rep _ _ _), trivial⟩⟩
  · try simp only [decide_eq_true_eq, decide_eq_false_iff_not, beq_iff_eq, bne_iff_ne, beq_eq_false_iff_ne, bne_eq_false_iff_eq, Bool.not_eq_true', Bool.not_eq_false', Bool.and_eq_true, Bool.or_eq_true, Bool.or_eq_false_iff, ne_eq, Decidable.not_not, Int.not_lt, Int.not_le] at c2
    refine dwp_exit ?_
    refine zaf ?_
    refine zad ?_
    refine zab rfl rfl rfl (zac (.inl rfl) (ev1 rfl)) ?_
    refine zab rfl rfl rfl (zac (.inr rfl) (ev1 rfl)) ?_
    refine zab rfl rfl rfl (zac (.inr rfl) (ev1 rfl)) ?_
    refine zae ?_
    refine dwp_givem 1 2 ((pinsR_ok (by simp)).nl) rfl rfl rfl (by simp only [zaa, za]; exact rfl) ?_
    refine dwp_ret ?_
    refine kendI (post := fun I => Okd (NewCv I w h (List.replicate n (nT zC4)))) (I := s0.I) (Mo := []) [] (rs2 rfl (rv_t rfl) (rv_t rfl)) rfl rfl ?_ trivial
    obtain rfl : A.length = n := by omega
    exact ⟨_, ⟨A, by simp, hAI, rfl⟩, by rw [cvD, pinsR_len (by simp), List.length_replicate]; rfl⟩
set_option maxRecDepth 4000 in
set_option maxHeartbeats 1000000 in
theorem of1_d (t : TL) : DFun Tryz.prog 45 [tD t] [] (.loc 0 0) [.flat 73 (tc t)] := by
  refine zal (N := 3) 0 (by kernel_rfl) Tryz.func45 rfl rfl rfl (by simp only [fr0, Nat.zero_add, Nat.reduceAdd]; exact rfl) rfl fun s0 hs0 => ?_
  refine zaf ?_
  refine zah 1 (by simp only [holes, List.cons_append, List.nil_append]; exact rfl) ?_
  refine zad ?_
  refine zaj rfl rfl rfl (op_boxa 0 rfl (ev1 rfl) rfl) (by simp only [upd, zaa, za]; exact rfl) ?_
  refine zab rfl rfl rfl (zac (.inr rfl) (ev1 rfl)) ?_
  refine zae ?_
  refine zaf ?_
  refine zad ?_
  refine zab rfl rfl rfl (zac (.inr rfl) (ev1 rfl)) ?_
  refine zae ?_
  refine dwp_ret ?_
  refine kend [0] (rs1 rfl (rv_t rfl)) rfl rfl ?_ ⟨rfl, trivial⟩
  rfl
abbrev tlM (l : List TL) : List Mem := l.map fun t => .flat 73 (tc t)
abbrev ptN (f n : Nat) : List D := (List.range n).map fun k => .floc f k 0
theorem ptN_fits {σ : List Nat} {V : Nat → Bool} {M : List Blk} {T : TypeId} {f g n : Nat} {l l' : List D} (hl : l = ptN f n) (hl' : l' = ptN g n) (hp : pos σ f = some g) : (vwL σ V M l).map (Blk.arx T 1 n) = some (Blk.arx T 1 n l') := by
  subst hl hl'
  have h : ∀ r : List Nat, vwL σ V M (r.map fun k => D.floc f k 0) = some (r.map fun k => D.floc g k 0) := fun r => by
    induction r with
    | nil => rfl
    | cons a r ih =>
      rw [List.map_cons, vwL, ih]
      have : vw σ V M (.floc f a 0) = some (.floc g a 0) := by unfold vw; rw [hp]
      rw [this]; rfl
  rw [h]; rfl
theorem sb_ptN {τ : List Nat} {T : TypeId} {f g n m : Nat} (hp : τ[f]? = some g) : sbB τ (.arx T 1 m (ptN f n)) = some (.arx T 1 m (ptN g n)) := by
  have h : ∀ r : List Nat, sbL τ (r.map fun k => D.floc f k 0) = some (r.map fun k => D.floc g k 0) := fun r => by
    induction r with
    | nil => rfl
    | cons a r ih =>
      rw [List.map_cons, sbL, ih]
      have : sb τ (.floc f a 0) = some (.floc g a 0) := by unfold sb; rw [hp]; rfl
      rw [this]; rfl
  show (sbL τ _).map _ = _
  rw [h]; rfl
theorem ptN_add (f n : Nat) : ptN f n ++ [.floc f n 0] = ptN f (n + 1) := by rw [ptN, ptN, List.range_succ, List.map_append]; rfl
theorem tlM_add {ts : List TL} {k : Nat} (h : k < ts.length) : tlM (ts.take k) ++ [.flat 73 (tc ts[k])] = tlM (ts.take (k + 1)) := by
  rw [List.take_succ_eq_append_getElem h, tlM, tlM, List.map_append]; rfl
theorem tlM_flat {l : List TL} : ∀ (k : Nat) B, (tlM l)[k]? = some B → ∃ T L, B = Mem.flat T L := fun k B h => by
  rw [List.getElem?_map] at h
  cases e : l[k]? with
  | none => rw [e] at h; cases h
  | some t => rw [e] at h; cases h; exact ⟨_, _, rfl⟩
theorem ptN_frz (f : Nat) (ad : Nat → Nat) (l : List TL) : (ptN f l.length).map (frz f ad (tlM l)) = pinsR ((List.range l.length).map ad) l := by
  apply List.ext_getElem?
  intro q
  unfold pinsR
  rw [List.getElem?_map, List.getElem?_map, List.getElem?_map]
  by_cases hq : q < l.length
  · have e2 : ((List.range l.length).map ad).zip l = (List.range l.length).zipWith (fun k t => (ad k, t)) l := by rw [List.zip, List.zipWith_map_left]
    rw [e2, List.getElem?_zipWith, List.getElem?_range hq, List.getElem?_eq_getElem hq]
    simp only [Option.map_some, frz, if_pos, List.getElem?_map, List.getElem?_eq_getElem hq]
  · rw [List.getElem?_eq_none (by simpa using hq), List.getElem?_eq_none (by simp; omega)]; rfl
set_option maxRecDepth 4000 in
set_option maxHeartbeats 1000000 in
theorem each1_d (ts : List TL) (hn : ts.length ≤ 5000) : DFun Tryz.prog 44 [.slf 256 ts.length (ts.flatMap tc), .fn (.func 45) [] []] [] (.arr 0) [.arx 79 1 ts.length (ptN 1 ts.length), .fam (tlM ts)] := by
  refine zal (N := 25) 0 (by kernel_rfl) Tryz.func44 rfl rfl rfl (by simp only [fr0, Nat.zero_add, Nat.reduceAdd]; exact rfl) rfl fun s0 hs0 => ?_
  refine dwp_len (t := 0) rfl fun hl0 hL0 => ?_
  refine zaf ?_
  refine zad ?_
  refine zab rfl rfl rfl (zac (.inr rfl) (ev1 rfl)) ?_
  refine zae ?_
  refine zaf ?_
  refine zah 1 (by simp only [holes, List.cons_append, List.nil_append]; exact rfl) ?_
  refine zad ?_
  refine zab rfl rfl rfl (zac (.inl rfl) (ev1 rfl)) ?_
  refine zab rfl rfl rfl (op_len rfl sl22 (ev1 rfl)) ?_
  refine zaj rfl rfl rfl (op_mk0x 0 (ts.length) rfl sl77 zr79 (ev1 rfl) (ev1 rfl) (fun _ => rfl) (fun _ => by omega) rfl (fun _ => ⟨by omega, by omega⟩)) (by simp only [upd, zaa, za]; exact rfl) ?_
  refine zab rfl rfl rfl (zac (.inr rfl) (ev1 rfl)) ?_
  refine zae ?_
  refine zaf ?_
  refine zaf ?_
  refine dwp_hole ?_
  refine dwp_fam 1 rfl (by simp only [List.cons_append, List.nil_append, zaa, za]; exact rfl) ?_
  refine zad ?_
  refine zab rfl rfl rfl (zac (.inl rfl) (ev1 rfl)) ?_
  refine zab rfl rfl rfl (op_len rfl sl22 (ev1 rfl)) ?_
  refine zab rfl rfl rfl (zac (.inl rfl) (ev1 rfl)) ?_
  refine zae ?_
  refine dwp_block ?_
  refine dwp_loopS ⟨hs0, rfl⟩ (α := Nat) (fun k => [(13, .val (.int .i64 (k : Int)))]) [(1, _), (5, _), (11, _), (12, _)] (fun k => [(0, .arx 79 1 k (ptN 1 k)), (1, .fam (tlM (ts.take k)))]) [.hole, .hole] (fun k => k ≤ ts.length) (fun k => ts.length - k) 0 [0, 1] (Nat.zero_le _) rfl ⟨rfl, rfl, rfl, rfl, trivial⟩ ⟨rfl, trivial⟩ ⟨rfl, rfl, trivial⟩ ?_
  intro k hx
  simp only [upd, zaa, za, List.cons_append, List.nil_append]
  have hk := hx
  have htl : (tlM (ts.take k)).length = k := by simp; omega
  refine zaf ?_
  refine zad ?_
  refine zab rfl rfl rfl (op_lss rfl (ev1 rfl) (ev1 rfl)) ?_
  refine zae ?_
  refine zaf ?_
  refine dwp_cond rfl (fun c1 => ?_) (fun c1 => ?_)
  · try simp only [decide_eq_true_eq, decide_eq_false_iff_not, beq_iff_eq, bne_iff_ne, beq_eq_false_iff_ne, bne_eq_false_iff_eq, Bool.not_eq_true', Bool.not_eq_false', Bool.and_eq_true, Bool.or_eq_true, Bool.or_eq_false_iff, ne_eq, Decidable.not_not, Int.not_lt, Int.not_le] at c1
    refine dwp_skip ?_
    refine zaf ?_
    refine dwp_block ?_
    refine zaf ?_
    refine zah 1 (by simp only [holes, List.cons_append, List.nil_append]; exact rfl) ?_
    refine zad ?_
    refine zab rfl rfl rfl (op_ixsr (j := k) rfl sl22 (ev1 rfl) (ev1 rfl) tc_len (by decide) (by omega) (by omega)) ?_
    refine zab rfl rfl rfl (op_ldwd rfl tb73 (ev1 rfl) (tc_len _)) ?_
    refine zaj rfl rfl rfl (op_alloc 2 rfl zr73 rfl) (by simp only [upd, zaa, za]; exact rfl) ?_
    refine walk_s rfl rfl (op_stwa rfl tb73 (ev1 rfl) (ev1 rfl) rfl (tc_len _) (tc_oc _) ((tc_len _).trans (tc_len _).symm)) (by simp only [upd, zaa, za]; exact rfl) ?_
    refine zae ?_
    refine zah 3 (by simp only [holes, List.cons_append, List.nil_append]; exact rfl) ?_
    refine zad ?_
    refine zab rfl rfl rfl (zac (.inl rfl) (ev1 rfl)) ?_
    refine zab rfl rfl rfl (zac (.inl rfl) (ev1 rfl)) ?_
    refine zab rfl rfl rfl (op_ldw rfl tb73 (ev1 rfl) rfl (tc_len _)) ?_
    refine zaj rfl rfl rfl (zai [] [] [3] rfl (ev1 rfl) (ec (ev1 rfl) en) rfl rfl (of1_d ts[k]) rfl rfl rfl rfl rfl rfl) (by simp only [upd, zaa, za]; exact rfl) ?_
    refine walk_absl 20 1 rfl rfl rfl (by simp only [zaa, za]; exact rfl) ?_
    refine zaj rfl rfl rfl (op_bsx (ps := [(0, .tmp 20)]) 4 (fun s d v hd hr => by simp only [List.mem_cons, List.not_mem_nil, or_false] at hd; subst hd <;> first | exact rep_own_cells hr | (cases hr <;> rfl)) rfl sl77 zr79 rfl (ec (ev1 rfl) en) (by decide) rfl) (by simp only [upd, zaa, za]; exact rfl) ?_
    refine zaj rfl rfl rfl (op_appxx (j := 5) rfl sl77 zr79 rfl (ev1 rfl) (ev1 rfl) rfl rfl rfl rfl (fun _ => ⟨by omega, by omega⟩)) (by simp only [upd, zaa, za]; exact rfl) ?_
    refine zab rfl rfl rfl (zac (.inr rfl) (ev1 rfl)) ?_
    refine zae ?_
    refine zad ?_
    refine zab rfl rfl rfl (op_add' rfl (ev1 rfl) (ev1 rfl) (fun _ => IntWalk.i64_in _ (by omega))) ?_
    refine zab rfl rfl rfl (zac (.inl rfl) (ev1 rfl)) ?_
    refine zae ?_
    refine ⟨k + 1, [5, 1], by omega, by simp only []; omega, rfl, ⟨rfl, rfl, rfl, rfl, rfl, trivial⟩, ⟨ptN_fits (by rw [htl]; exact ptN_add 1 k) rfl rfl, by rw [← tlM_add (by omega)]; rfl, trivial⟩⟩
  · try simp only [decide_eq_true_eq, decide_eq_false_iff_not, beq_iff_eq, bne_iff_ne, beq_eq_false_iff_ne, bne_eq_false_iff_eq, Bool.not_eq_true', Bool.not_eq_false', Bool.and_eq_true, Bool.or_eq_true, Bool.or_eq_false_iff, ne_eq, Decidable.not_not, Int.not_lt, Int.not_le] at c1
    refine dwp_exit ?_
    refine zaf ?_
    refine zad ?_
    refine zab rfl rfl rfl (zac (.inl rfl) (ev1 rfl)) ?_
    refine zab rfl rfl rfl (zac (.inr rfl) (ev1 rfl)) ?_
    refine zae ?_
    refine dwp_ret ?_
    obtain rfl : k = ts.length := by omega
    refine kend [0, 1] (rs1 rfl (rv_t rfl)) rfl rfl ?_ ⟨?_, ?_, trivial⟩
    rfl
    exact ptN_fits rfl rfl rfl
    exact (by rw [List.take_length]; rfl)
set_option maxRecDepth 4000 in
set_option maxHeartbeats 1000000 in
theorem of_0 (w h : Int) (ts : List TL) (hr : rightB w h ts = false) : DFun Tryz.prog 12 [shD w h ts] [] (.tup [.val (.pointer none), .val (.int .i64 150)]) [] := by
  refine zal (N := 20) 0 (by kernel_rfl) Tryz.func12 rfl rfl rfl (by simp only [fr0, Nat.zero_add, Nat.reduceAdd]; exact rfl) rfl fun s0 hs0 => ?_
  refine zaf ?_
  refine zah 1 (by simp only [holes, List.cons_append, List.nil_append]; exact rfl) ?_
  refine zad ?_
  refine zaj rfl rfl rfl (op_boxam 0 rfl (ev1 rfl) rfl) (by simp only [upd, zaa, za]; exact rfl) ?_
  refine zab rfl rfl rfl (zac (.inr rfl) (ev1 rfl)) ?_
  refine zab rfl rfl rfl (zac (.inr rfl) (ev1 rfl)) ?_
  refine zae ?_
  refine zaf ?_
  refine zaf ?_
  refine zad ?_
  refine zab rfl rfl rfl (op_ldmw rfl tb24 (ev1 rfl) rfl rfl) ?_
  refine zab rfl rfl rfl (zai [] [] [] rfl (ev1 rfl) (ec (ev1 rfl) en) rfl rfl (ccheck_d _ _ _) rfl rfl rfl rfl rfl rfl) ?_
  refine zab rfl rfl rfl (zac (.inr rfl) (ev1 rfl)) ?_
  refine zae ?_
  refine zaf ?_
  refine zad ?_
  refine zab rfl rfl rfl (zac (.inl rfl) (ev1 rfl)) ?_
  refine zab rfl rfl rfl (op_neq rfl (ev1 rfl) (ev1 rfl)) ?_
  refine zae ?_
  refine dwp_if_t rfl (by rw [hr]; rfl) ?_
  refine zaf ?_
  refine zad ?_
  refine zab rfl rfl rfl (zac (.inl rfl) (ev1 rfl)) ?_
  refine zab rfl rfl rfl (zac (.inr rfl) (ev1 rfl)) ?_
  refine zab rfl rfl rfl (zac (.inr rfl) (ev1 rfl)) ?_
  refine zae ?_
  refine dwp_ret ?_
  refine kend0 (rs2 rfl (rv_t rfl) (rv_t rfl)) rfl ?_
  rw [hr]; rfl
set_option maxRecDepth 4000 in
set_option maxHeartbeats 1000000 in
theorem of_i (w h : Int) (ts : List TL) (hc : CvOk w h ts) : DFunI Tryz.prog 12 [shD w h ts] [] (fun I => Okd (NewCv I w h ts)) [] := by
  have hr := hc.right
  have hle := hc.le
  refine dcallsI_go (N := 20) 0 (by kernel_rfl) Tryz.func12 rfl rfl rfl (by simp only [fr0, Nat.zero_add, Nat.reduceAdd]; exact rfl) rfl fun s0 hs0 => ?_
  refine zaf ?_
  refine zah 1 (by simp only [holes, List.cons_append, List.nil_append]; exact rfl) ?_
  refine zad ?_
  refine zaj rfl rfl rfl (op_boxam 0 rfl (ev1 rfl) rfl) (by simp only [upd, zaa, za]; exact rfl) ?_
  refine zab rfl rfl rfl (zac (.inr rfl) (ev1 rfl)) ?_
  refine zab rfl rfl rfl (zac (.inr rfl) (ev1 rfl)) ?_
  refine zae ?_
  refine zaf ?_
  refine zaf ?_
  refine zad ?_
  refine zab rfl rfl rfl (op_ldmw rfl tb24 (ev1 rfl) rfl rfl) ?_
  refine zab rfl rfl rfl (zai [] [] [] rfl (ev1 rfl) (ec (ev1 rfl) en) rfl rfl (ccheck_d _ _ _) rfl rfl rfl rfl rfl rfl) ?_
  refine zab rfl rfl rfl (zac (.inr rfl) (ev1 rfl)) ?_
  refine zae ?_
  refine zaf ?_
  refine zad ?_
  refine zab rfl rfl rfl (zac (.inl rfl) (ev1 rfl)) ?_
  refine zab rfl rfl rfl (op_neq rfl (ev1 rfl) (ev1 rfl)) ?_
  refine zae ?_
  refine dwp_if_f rfl (by rw [hr]; rfl) ?_
  refine dwp_skip ?_
  refine zaf ?_
  refine zah 3 (by simp only [holes, List.cons_append, List.nil_append]; exact rfl) ?_
  refine dwp_draw [([], []), ([0], []), ([], []), ([0], []), ([], []), ([], []), ([0], []), ([1, 2], [1, 2]), ([], []), ([3], [3]), ([], []), ([], [])] mixed (by kernel_rfl) ?_
  refine zag rfl rfl (op_fa rfl fo24_0 (ev1 rfl)) ?_
  refine zag rfl rfl (op_ldm rfl tb3 (ev1 rfl) rfl rfl) ?_
  refine zag rfl rfl (op_fa rfl fo24_1 (ev1 rfl)) ?_
  refine zag rfl rfl (op_ldm rfl tb3 (ev1 rfl) rfl rfl) ?_
  refine zag rfl rfl (op_build (ps := [(0, .tmp 11), (1, .tmp 13)]) rfl fl76 zr76 (vc (ev1 rfl) (vc (ev1 rfl) vn)) rfl rfl) ?_
  refine zag rfl rfl (op_fa rfl fo24_2 (ev1 rfl)) ?_
  refine zag rfl rfl (op_ldm rfl tb22 (ev1 rfl) rfl rfl) ?_
  refine lex_w rfl rfl (zai [] [] [1, 2] rfl (ev1 rfl) (ec (ev1 rfl) (ec (ev1 rfl) en)) rfl rfl (each1_d ts (by omega)) rfl rfl rfl (by exact (wrc (sb_ptN rfl) (wrc rfl rfl))) rfl rfl) rfl (by simp only [upd, zaa, za]; exact rfl) ?_
  refine zag rfl rfl (op_bldD (ps := [(0, .tmp 14), (1, .tmp 17)]) rfl fl82 zr82 (ec (ev1 rfl) (ec (ev1 rfl) en)) rfl rfl rfl) ?_
  refine lex_w rfl rfl (op_boxam 3 rfl (ev1 rfl) rfl) rfl (by simp only [upd, zaa, za]; exact rfl) ?_
  refine zag rfl rfl (zac (.inr rfl) (ev1 rfl)) ?_
  refine zag rfl rfl (zac (.inr rfl) (ev1 rfl)) ?_
  refine lex_nil ?_
  refine dwp_frz 2 1 rfl rfl (tlM_flat) fun ad had => ?_
  simp only [zaa, za]
  refine dwp_givem 3 2 ((by rw [ptN_frz]; exact (pinsR_ok (by simp)).nl)) rfl rfl rfl (by simp only [zaa, za]; exact rfl) ?_
  refine dwp_ret ?_
  refine kendI (post := fun I => Okd (NewCv I w h ts)) (I := s0.I) (Mo := []) [] (rs2 rfl (rv_t rfl) (rv_t rfl)) rfl rfl ?_ trivial
  rw [ptN_frz]
  exact ⟨_, ⟨(List.range ts.length).map ad, by simp, fun b hb => by
      obtain ⟨k, hk, rfl⟩ := List.mem_map.1 hb
      exact had k (by simpa using hk), rfl⟩, by rw [cvD, pinsR_len (by simp)]; rfl⟩
end Go.Proofs.YtjgnalfnginjbaaGreatDoor
namespace Go.Proofs.YtjgnalfnginjbaaGreatDoor
set_option maxRecDepth 4000
set_option linter.unusedVariables false
set_option linter.unusedSimpArgs false
open Go.RowKit
theorem fo96_0 : fdO Tryz.prog 96 0 = some 0 := by kernel_rfl
theorem fo96_1 : fdO Tryz.prog 96 1 = some 1 := by kernel_rfl
theorem fo96_2 : fdO Tryz.prog 96 2 = some 2 := by kernel_rfl
set_option maxRecDepth 4000 in
set_option maxHeartbeats 1000000 in
theorem put_d (w h : Int) (ts : List TL) (d : Dt) (hc : CvOk w h ts) : DFun Tryz.prog 58 [shD w h ts, .val (.agg (dtC d).toArray)] [] (shD w h (putC w h ts d)) [] := by
  refine zal (N := 43) 0 (by kernel_rfl) Tryz.func58 rfl rfl rfl (by simp only [fr0, Nat.zero_add, Nat.reduceAdd]; exact rfl) rfl fun s0 hs0 => ?_
  refine zaf ?_
  refine zah 3 (by simp only [holes, List.cons_append, List.nil_append]; exact rfl) ?_
  refine zad ?_
  refine zaj rfl rfl rfl (op_boxam 0 rfl (ev1 rfl) rfl) (by simp only [upd, zaa, za]; exact rfl) ?_
  refine zaj rfl rfl rfl (op_boxa 1 rfl (ev1 rfl) rfl) (by simp only [upd, zaa, za]; exact rfl) ?_
  refine zaj rfl rfl rfl (op_alloc 2 rfl zr24 rfl) (by simp only [upd, zaa, za]; exact rfl) ?_
  refine zae ?_
  refine zaf ?_
  refine zaf ?_
  refine zad ?_
  refine zab rfl rfl rfl (op_ldmw rfl tb24 (ev1 rfl) rfl rfl) ?_
  refine zab rfl rfl rfl (op_fa rfl fo96_0 (ev1 rfl)) ?_
  refine zab rfl rfl rfl (op_ldo rfl tb3 (ev1 rfl) rfl rfl) ?_
  refine zab rfl rfl rfl (op_fa rfl fo96_1 (ev1 rfl)) ?_
  refine zab rfl rfl rfl (op_ldo rfl tb3 (ev1 rfl) rfl rfl) ?_
  refine zab rfl rfl rfl (zai [] [] [] rfl (ev1 rfl) (ec (ev1 rfl) (ec (ev1 rfl) (ec (ev1 rfl) en))) rfl rfl (on_d w h ts d.x d.y hc) rfl rfl rfl rfl rfl rfl) ?_
  refine zab rfl rfl rfl (op_not rfl (ev1 rfl)) ?_
  refine zae ?_
  refine dwp_cond rfl (fun c1 => ?_) (fun c1 => ?_)
  · have ho : onS w h d.x d.y = false := bn_t c1
    refine zaf ?_
    refine zad ?_
    refine zab rfl rfl rfl (op_ldmw rfl tb24 (ev1 rfl) rfl rfl) ?_
    refine walk_s rfl rfl (op_stam rfl tb24 (ev1 rfl) (ev1 rfl) rfl rfl rfl rfl) (by simp only [upd, zaa, za]; exact rfl) ?_
    refine zae ?_
    refine dwp_ret ?_
    have e : putC w h ts d = ts := by rw [putC, if_neg (by rw [ho]; decide)]
    rw [e]
    refine kend0 (rs1 rfl (rv_mw tb24 rfl rfl rfl)) rfl ?_
    rfl
  · have ho : onS w h d.x d.y = true := bn_f c1
    have hb := mayS_b hc.may
    have hxy := onS_iff.1 ho
    have hpl := on_pl hc.may ho
    have hpt := hc.pl ho
    have hq1 : 0 ≤ d.y / 8 ∧ d.y / 8 ≤ 3 := by omega
    have hq2 : 0 ≤ d.y / 8 * w := Int.mul_nonneg hq1.1 (by omega)
    have hq3 : d.y / 8 * w ≤ 3 * 4 := Int.mul_le_mul hq1.2 hb.1.2 (by omega) (by omega)
    have hle := hc.le
    refine dwp_skip ?_
    refine zaf ?_
    refine zah 2 (by simp only [holes, List.cons_append, List.nil_append]; exact rfl) ?_
    refine zad ?_
    refine zaj rfl rfl rfl (op_bsa (ps := []) 3 rfl sl22 zr73 rfl vn rfl (by decide) (by decide) rfl) (by simp only [upd, zaa, za]; exact rfl) ?_
    refine zab rfl rfl rfl (op_fa rfl fo24_2 (ev1 rfl)) ?_
    refine zab rfl rfl rfl (op_ldm rfl tb22 (ev1 rfl) rfl rfl) ?_
    refine zaj rfl rfl rfl (op_app (j := 4) rfl sl22 zr73 rfl (ev1 rfl) (ev1 rfl) src_slf rfl rfl (fun _ => flat_oc (fun t => flat_oc (fun _ => rfl) t.l) ts) (fun _ => ⟨by omega, by omega⟩)) (by simp only [upd, zaa, za]; exact rfl) ?_
    refine zab rfl rfl rfl (op_fa rfl fo24_2 (ev1 rfl)) ?_
    refine walk_s rfl rfl (op_stm rfl tb22 (ev1 rfl) (ev1 rfl) (fun s v h => by cases h <;> exact ⟨rfl, rfl⟩) rfl (by first | decide | exact Nat.le_of_ble_eq_true rfl | simp)) (by simp only [upd, zaa, za]; exact rfl) ?_
    refine zae ?_
    refine zaf ?_
    refine dwp_draw [([], []), ([0], []), ([], []), ([1], []), ([], []), ([], []), ([0], []), ([], []), ([], []), ([1], []), ([], []), ([], []), ([], []), ([1], []), ([], []), ([], []), ([], []), ([1], []), ([], []), ([], []), ([], []), ([1], []), ([4], []), ([], []), ([4], [4])] mixed (by kernel_rfl) ?_
    refine zag rfl rfl (op_fa rfl fo24_2 (ev1 rfl)) ?_
    refine zag rfl rfl (op_ldm rfl tb22 (ev1 rfl) rfl rfl) ?_
    refine zag rfl rfl (op_fa rfl fo96_1 (ev1 rfl)) ?_
    refine zag rfl rfl (op_ldo rfl tb3 (ev1 rfl) rfl rfl) ?_
    refine zag rfl rfl (op_quo' rfl (ev1 rfl) (ev1 rfl) (fun _ => ⟨by omega, by omega, IntWalk.i64_in _ (by omega)⟩)) ?_
    refine zag rfl rfl (op_fa rfl fo24_0 (ev1 rfl)) ?_
    refine zag rfl rfl (op_ldm rfl tb3 (ev1 rfl) rfl rfl) ?_
    refine zag rfl rfl (op_mul' rfl (ev1 rfl) (ev1 rfl) (fun _ => IntWalk.i64_in _ (by omega))) ?_
    refine zag rfl rfl (op_fa rfl fo96_0 (ev1 rfl)) ?_
    refine zag rfl rfl (op_ldo rfl tb3 (ev1 rfl) rfl rfl) ?_
    refine zag rfl rfl (op_quo' rfl (ev1 rfl) (ev1 rfl) (fun _ => ⟨by omega, by omega, IntWalk.i64_in _ (by omega)⟩)) ?_
    refine zag rfl rfl (op_add' rfl (ev1 rfl) (ev1 rfl) (fun _ => IntWalk.i64_in _ (by omega))) ?_
    refine zag rfl rfl (op_fa rfl fo96_1 (ev1 rfl)) ?_
    refine zag rfl rfl (op_ldo rfl tb3 (ev1 rfl) rfl rfl) ?_
    refine zag rfl rfl (op_rem' rfl (ev1 rfl) (ev1 rfl) (fun _ => ⟨by omega, by omega⟩)) ?_
    refine zag rfl rfl (op_mul' rfl (ev1 rfl) (ev1 rfl) (fun _ => IntWalk.i64_in _ (by omega))) ?_
    refine zag rfl rfl (op_fa rfl fo96_0 (ev1 rfl)) ?_
    refine zag rfl rfl (op_ldo rfl tb3 (ev1 rfl) rfl rfl) ?_
    refine zag rfl rfl (op_rem' rfl (ev1 rfl) (ev1 rfl) (fun _ => ⟨by omega, by omega⟩)) ?_
    refine zag rfl rfl (op_add' rfl (ev1 rfl) (ev1 rfl) (fun _ => IntWalk.i64_in _ (by omega))) ?_
    refine zag rfl rfl (op_fa rfl fo96_2 (ev1 rfl)) ?_
    refine zag rfl rfl (op_ldr rfl tb27 (ev1 rfl) rfl rfl rfl) ?_
    refine zag rfl rfl (op_ixar (j := plN w d.x d.y) rfl sl22 (ev1 rfl) (ev1 rfl) rfl (fun _ => hpl.1) (fun _ => by omega)) ?_
    refine zag rfl rfl (op_ixal rfl ar73 (ev1 rfl) (ev1 rfl) (fun _ => by omega)) ?_
    refine lex_s rfl rfl (op_sta rfl tb27 (ev1 rfl) (ev1 rfl) rfl rfl rfl rfl (by exact fit_tile hpt hpl.2.2.1 hpl.2.2.2) (by exact setL_tile2 hpt hpl.2.2.1 hpl.2.2.2)) rfl (by simp only [upd, zaa, za]; exact rfl) ?_
    refine lex_nil ?_
    refine zaf ?_
    refine zad ?_
    refine zab rfl rfl rfl (op_ldmw rfl tb24 (ev1 rfl) rfl rfl) ?_
    refine walk_s rfl rfl (op_stam rfl tb24 (ev1 rfl) (ev1 rfl) rfl rfl rfl rfl) (by simp only [upd, zaa, za]; exact rfl) ?_
    refine zae ?_
    refine dwp_ret ?_
    have e : putC w h ts d = ts.set (plN w d.x d.y) ((ts.getD (plN w d.x d.y) zT).set (pxN d.x d.y) d.c) := by rw [putC, if_pos ho]
    rw [e, shD, List.length_set]
    refine kend0 (rs1 rfl (rv_mw tb24 rfl rfl rfl)) rfl ?_
    rw [Nat.zero_add]
end Go.Proofs.YtjgnalfnginjbaaGreatDoor
namespace Go.Proofs.YtjgnalfnginjbaaGreatDoor
set_option maxRecDepth 4000
set_option linter.unusedVariables false
set_option linter.unusedSimpArgs false
open Go.RowKit
theorem fo157_0 : fdO Tryz.prog 157 0 = some 0 := by kernel_rfl
theorem fo157_1 : fdO Tryz.prog 157 1 = some 2 := by kernel_rfl
theorem fo157_2 : fdO Tryz.prog 157 2 = some 3 := by kernel_rfl
theorem fo157_3 : fdO Tryz.prog 157 3 = some 4 := by kernel_rfl
theorem it3 : intT Tryz.prog 3 = some .i64 := by kernel_rfl
theorem mp155 : mpT Tryz.prog 155 = some (3, 79) := by kernel_rfl
theorem pt79 : ptT Tryz.prog 79 = some 73 := by kernel_rfl
theorem tb155 : tyB Tryz.prog 155 = some (false, 1) := by kernel_rfl
theorem tb90 : tyB Tryz.prog 90 = some (false, 1) := by kernel_rfl
theorem zv79 : zrV Tryz.prog 79 = some (.pointer none) := by kernel_rfl
def dotS (w h : Int) (ts : List TL) (s : List Nat × List TL) (d : Dt) : List Nat × List TL :=
  if onS w h d.x d.y = true then
    (if plN w d.x d.y ∈ s.1 then (s.1, s.2.set (s.1.idxOf (plN w d.x d.y)) ((s.2.getD (s.1.idxOf (plN w d.x d.y)) zT).set (pxN d.x d.y) d.c))
    else (s.1 ++ [plN w d.x d.y], s.2 ++ [(ts.getD (plN w d.x d.y) zT).set (pxN d.x d.y) d.c]))
  else s
theorem dotS_off {w h : Int} {ts : List TL} {s : List Nat × List TL} {d : Dt} (ho : onS w h d.x d.y = false) : dotS w h ts s d = s := by unfold dotS; rw [if_neg (by rw [ho]; decide)]
theorem dotS_in {w h : Int} {ts : List TL} {s : List Nat × List TL} {d : Dt} (ho : onS w h d.x d.y = true) (hi : plN w d.x d.y ∈ s.1) : dotS w h ts s d = (s.1, s.2.set (s.1.idxOf (plN w d.x d.y)) ((s.2.getD (s.1.idxOf (plN w d.x d.y)) zT).set (pxN d.x d.y) d.c)) := by unfold dotS; rw [if_pos ho, if_pos hi]
theorem dotS_new {w h : Int} {ts : List TL} {s : List Nat × List TL} {d : Dt} (ho : onS w h d.x d.y = true) (hi : plN w d.x d.y ∉ s.1) : dotS w h ts s d = (s.1 ++ [plN w d.x d.y], s.2 ++ [(ts.getD (plN w d.x d.y) zT).set (pxN d.x d.y) d.c]) := by unfold dotS; rw [if_pos ho, if_neg hi]
structure DotOk (ts us : List TL) (s : List Nat × List TL) : Prop where
  len : s.2.length = s.1.length
  nd : s.1.Nodup
  lt : ∀ p ∈ s.1, p < ts.length
  ul : us.length = ts.length
  val : ∀ (i p : Nat), s.1[i]? = some p → s.2[i]? = us[p]?
  oth : ∀ (p : Nat), p ∉ s.1 → us[p]? = ts[p]?
theorem dotOk_nil (ts : List TL) : DotOk ts ts ([], []) := ⟨rfl, List.nodup_nil, fun p hp => by simp at hp, rfl, fun i p h => by simp at h, fun p _ => rfl⟩
theorem idx_at {ks : List Nat} {p : Nat} (h : p ∈ ks) : ks[ks.idxOf p]? = some p ∧ ks.idxOf p < ks.length := by
  have h1 := List.idxOf_lt_length_of_mem h
  exact ⟨by rw [List.getElem?_eq_getElem h1, List.getElem_idxOf h1], h1⟩
theorem idx_of {ks : List Nat} (hn : ks.Nodup) {i p : Nat} (h : ks[i]? = some p) : ks.idxOf p = i := by
  have hm : p ∈ ks := List.mem_of_getElem? h
  obtain ⟨h1, h2⟩ := idx_at hm
  have hi := (List.getElem?_eq_some_iff.1 h).1
  exact ((List.getElem?_inj h2 hn).1 (h1.trans h.symm))
theorem DotOk.step {w h : Int} {ts us : List TL} {s : List Nat × List TL} (hc : CvOk w h ts) (hs : DotOk ts us s) (d : Dt) : DotOk ts (putC w h us d) (dotS w h ts s d) := by
  obtain ⟨ks, es⟩ := s
  obtain ⟨h1, h2, h3, h4, h5, h6⟩ := hs
  dsimp only at h1 h2 h3 h4 h5 h6
  cases ho : onS w h d.x d.y with
  | false =>
    rw [dotS_off ho, show putC w h us d = us by rw [putC, if_neg (by rw [ho]; decide)]]
    exact ⟨h1, h2, h3, h4, h5, h6⟩
  | true =>
    have hp := hc.pl ho
    rw [show putC w h us d = us.set (plN w d.x d.y) ((us.getD (plN w d.x d.y) zT).set (pxN d.x d.y) d.c) by rw [putC, if_pos ho]]
    by_cases hi : plN w d.x d.y ∈ ks
    · rw [dotS_in ho hi]
      dsimp only
      generalize plN w d.x d.y = p at hp hi ⊢
      obtain ⟨g1, g2⟩ := idx_at hi
      have e : es.getD (ks.idxOf p) zT = us.getD p zT := by rw [List.getD_eq_getElem?_getD, List.getD_eq_getElem?_getD, h5 _ p g1]
      rw [e]
      refine ⟨by simp [h1], h2, h3, by simp [h4], fun j r hj => ?_, fun r hr => ?_⟩
      · by_cases ej : ks.idxOf p = j
        · subst ej
          rw [g1] at hj
          cases hj
          rw [List.getElem?_set_self (by omega), List.getElem?_set_self (by omega)]
        · have er : p ≠ r := fun er => ej (by subst er; exact idx_of h2 hj)
          rw [List.getElem?_set_ne ej, List.getElem?_set_ne er]
          exact h5 j r hj
      · have er : p ≠ r := fun er => hr (by subst er; exact hi)
        rw [List.getElem?_set_ne er]
        exact h6 r hr
    · rw [dotS_new ho hi]
      dsimp only
      generalize plN w d.x d.y = p at hp hi ⊢
      have e : us.getD p zT = ts.getD p zT := by rw [List.getD_eq_getElem?_getD, List.getD_eq_getElem?_getD, h6 p hi]
      rw [e]
      refine ⟨by simp [h1], ?_, fun r hr => ?_, by simp [h4], fun j r hj => ?_, fun r hr => ?_⟩
      · rw [List.nodup_append]
        exact ⟨h2, by simp, fun a ha b hb => by simp at hb; subst hb; exact fun e => hi (e ▸ ha)⟩
      · rcases List.mem_append.1 hr with hr | hr
        · exact h3 r hr
        · simp at hr; subst hr; exact hp
      · by_cases hj2 : j < ks.length
        · rw [List.getElem?_append_left hj2] at hj
          rw [List.getElem?_append_left (by omega)]
          have er : p ≠ r := fun er => hi (by subst er; exact List.mem_of_getElem? hj)
          rw [List.getElem?_set_ne er]
          exact h5 j r hj
        · rw [List.getElem?_append_right (by omega)] at hj
          have hj3 : j - ks.length = 0 := by have := (List.getElem?_eq_some_iff.1 hj).1; simp at this; omega
          rw [hj3] at hj
          simp at hj
          subst hj
          rw [List.getElem?_append_right (by omega), h1, hj3, List.getElem?_set_self (by omega)]
          rfl
      · have er : p ≠ r := fun er => hr (by subst er; simp)
        rw [List.getElem?_set_ne er]
        exact h6 r fun hr2 => hr (by simp [hr2])
def dotsS (w h : Int) (ts : List TL) (l : List Dt) : List Nat × List TL := l.foldl (dotS w h ts) ([], [])
theorem dotsS_take {w h : Int} {ts : List TL} {l : List Dt} {k : Nat} (hk : k < l.length) : dotsS w h ts (l.take (k + 1)) = dotS w h ts (dotsS w h ts (l.take k)) l[k] := by
  rw [List.take_succ_eq_append_getElem hk, dotsS, List.foldl_append]; rfl
theorem dotsS_ok {w h : Int} {ts : List TL} (hc : CvOk w h ts) : ∀ (l : List Dt) (us : List TL) (s : List Nat × List TL), DotOk ts us s → DotOk ts (putsC w h us l) (l.foldl (dotS w h ts) s)
  | [], us, s, hs => hs
  | d :: l, us, s, hs => dotsS_ok hc l _ _ (hs.step hc d)
def rowS (f : Nat) (ts es : List TL) (ds : List D) (ks seen : List Nat) : List D := (List.range ds.length).map fun q => if q ∈ ks ∧ ks.idxOf q ∈ seen ∧ es[ks.idxOf q]? ≠ ts[q]? then .floc f (ks.idxOf q) 0 else ds.getD q .junk
theorem rowS_len (f : Nat) (ts es : List TL) (ds : List D) (ks seen : List Nat) : (rowS f ts es ds ks seen).length = ds.length := by simp [rowS]
theorem rowS_get {f : Nat} {ts es : List TL} {ds : List D} {ks seen : List Nat} {q : Nat} (hq : q < ds.length) : (rowS f ts es ds ks seen)[q]? = some (if q ∈ ks ∧ ks.idxOf q ∈ seen ∧ es[ks.idxOf q]? ≠ ts[q]? then .floc f (ks.idxOf q) 0 else ds.getD q .junk) := by
  unfold rowS
  rw [List.getElem?_map, List.getElem?_range hq]; rfl
theorem dsD {ds : List D} {q : Nat} (hq : q < ds.length) : ds[q]? = some (ds.getD q .junk) := by rw [List.getD_eq_getElem?_getD, List.getElem?_eq_getElem hq]; rfl
theorem rowS_nil (f : Nat) (ts es : List TL) (ds : List D) (ks : List Nat) : rowS f ts es ds ks [] = ds := by
  apply List.ext_getElem?
  intro q
  by_cases hq : q < ds.length
  · rw [rowS_get hq, if_neg (fun h => by simp at h), dsD hq]
  · rw [List.getElem?_eq_none (by rw [rowS_len]; omega), List.getElem?_eq_none (by omega)]
theorem rowS_at {f : Nat} {ts es : List TL} {ds : List D} {ks seen : List Nat} {p q : Nat} (hn : ks.Nodup) (hp : ks[p]? = some q) (hs : p ∉ seen) (hq : q < ds.length) : (rowS f ts es ds ks seen)[q]? = ds[q]? := by
  rw [rowS_get hq, if_neg (fun h => hs (by rw [← idx_of hn hp]; exact h.2.1)), dsD hq]
theorem rowS_step {f : Nat} {ts es : List TL} {ds : List D} {ks seen : List Nat} {p q : Nat} (hn : ks.Nodup) (hp : ks[p]? = some q) (hs : p ∉ seen) (hq : q < ds.length) :
    rowS f ts es ds ks (seen ++ [p]) = if es[p]? ≠ ts[q]? then (rowS f ts es ds ks seen).set q (.floc f p 0) else rowS f ts es ds ks seen := by
  have hi := idx_of hn hp
  apply List.ext_getElem?
  intro r
  by_cases hr : r < ds.length
  · by_cases er : q = r
    · subst er
      have hm : q ∈ ks := List.mem_of_getElem? hp
      rw [rowS_get hr, hi]
      by_cases hne : es[p]? ≠ ts[q]?
      · rw [if_pos hne, if_pos ⟨hm, by simp, hne⟩, List.getElem?_set_self (by rw [rowS_len]; exact hr)]
      · rw [if_neg hne, if_neg (fun h => hne h.2.2), rowS_get hr, hi, if_neg (fun h => hne h.2.2)]
    · have e : (if es[p]? ≠ ts[q]? then (rowS f ts es ds ks seen).set q (.floc f p 0) else rowS f ts es ds ks seen)[r]? = (rowS f ts es ds ks seen)[r]? := by
        split
        · rw [List.getElem?_set_ne er]
        · rfl
      rw [e, rowS_get hr, rowS_get hr]
      congr 1
      have hiff : (r ∈ ks ∧ ks.idxOf r ∈ seen ++ [p] ∧ es[ks.idxOf r]? ≠ ts[r]?) ↔ (r ∈ ks ∧ ks.idxOf r ∈ seen ∧ es[ks.idxOf r]? ≠ ts[r]?) := by
        refine ⟨fun ⟨h1, h2, h3⟩ => ⟨h1, ?_, h3⟩, fun ⟨h1, h2, h3⟩ => ⟨h1, by simp [h2], h3⟩⟩
        rcases List.mem_append.1 h2 with h2 | h2
        · exact h2
        · exfalso
          simp at h2
          have := (idx_at h1).1
          rw [h2, hp] at this
          exact er (Option.some.inj this)
      simp only [hiff]
  · rw [List.getElem?_eq_none (by rw [rowS_len]; omega), List.getElem?_eq_none (by split <;> simp [rowS_len] <;> omega)]
structure RowP (I : Nat → Prop) (ds ps : List D) (ts us : List TL) : Prop where
  len : ps.length = ds.length
  eq : ∀ (q : Nat), us[q]? = ts[q]? → ps[q]? = ds[q]?
  ne : ∀ (q : Nat) t, us[q]? = some t → ts[q]? ≠ some t → ∃ b, ¬ I b ∧ ps[q]? = some (.pin b (tc t))
theorem frz_nl {f : Nat} {ad : Nat → Nat} {Bs : List Mem} {d : D} (h : d.nl = true) : frz f ad Bs d = d := by
  cases d <;> first | rfl | (cases h)
theorem rowS_frz {I : Nat → Prop} {f : Nat} {ad : Nat → Nat} {ts es us : List TL} {ds : List D} {ks seen : List Nat} (hr : RowOk ds ts) (hs : DotOk ts us (ks, es)) (hall : ∀ p, p < ks.length → p ∈ seen) (had : ∀ k, k < es.length → ¬ I (ad k)) : RowP I ds ((rowS f ts es ds ks seen).map (frz f ad (tlM es))) ts us := by
  obtain ⟨h1, h2, h3, h4, h5, h6⟩ := hs
  dsimp only at h1 h2 h3 h4 h5 h6
  have hlen := hr.len
  refine ⟨by simp [rowS_len], fun q hq => ?_, fun q t hq hne => ?_⟩
  · by_cases hql : q < ds.length
    · rw [List.getElem?_map, rowS_get hql, if_neg, dsD hql]
      · have := nlL_mem hr.nl (dsD hql)
        rw [Option.map_some, frz_nl this]
      · rintro ⟨a1, a2, a3⟩
        obtain ⟨g1, g2⟩ := idx_at a1
        exact a3 (by rw [h5 _ q g1, hq])
    · rw [List.getElem?_eq_none (by simp [rowS_len]; omega), List.getElem?_eq_none (by omega)]
  · have hql : q < ds.length := by have := (List.getElem?_eq_some_iff.1 hq).1; omega
    have hm : q ∈ ks := Classical.byContradiction fun hno => hne (by rw [← h6 q hno]; exact hq)
    obtain ⟨g1, g2⟩ := idx_at hm
    have e5 := h5 _ q g1
    refine ⟨ad (ks.idxOf q), had _ (by omega), ?_⟩
    rw [List.getElem?_map, rowS_get hql, if_pos ⟨hm, hall _ g2, by rw [e5, hq]; exact fun e => hne e.symm⟩, Option.map_some]
    have e6 : (tlM es)[ks.idxOf q]? = some (.flat 73 (tc t)) := by rw [List.getElem?_map, e5, hq]; rfl
    simp only [frz, if_pos, e6]
theorem RowP.ok {I : Nat → Prop} {ds ps : List D} {ts us : List TL} (hr : RowOk ds ts) (hp : RowP I ds ps ts us) (hl : us.length = ts.length) : RowOk ps us := by
  have hq : ∀ (q : Nat) t, us[q]? = some t → ∃ d, ps[q]? = some d ∧ d.nl = true ∧ d.oc2 = true ∧ Wk d (.dpf (tc t)) := by
    intro q t ht
    have hql : q < ts.length := by have := (List.getElem?_eq_some_iff.1 ht).1; omega
    by_cases e : ts[q]? = some t
    · obtain ⟨d, g1, g2, g3, g4, g5⟩ := hr.at hql
      refine ⟨d, by rw [hp.eq q (by rw [ht, e]), g1], g3, g4, ?_⟩
      rw [List.getD_eq_getElem?_getD, e] at g5
      exact g5
    · obtain ⟨b, _, h2⟩ := hp.ne q t ht e
      exact ⟨_, h2, rfl, rfl, Wk.pin _ _⟩
  have hlen : ps.length = us.length := by rw [hp.len, hr.len, hl]
  have hm : ∀ d ∈ ps, ∃ (q : Nat) (t : TL), us[q]? = some t ∧ ps[q]? = some d := fun d hd => by
    obtain ⟨q, h1⟩ := List.getElem?_of_mem hd
    have : q < us.length := by rw [← hlen]; exact (List.getElem?_eq_some_iff.1 h1).1
    exact ⟨q, _, List.getElem?_eq_getElem this, h1⟩
  refine ⟨hlen, nlL_all fun d hd => ?_, List.all_eq_true.2 fun d hd => ?_, fun q d t h1 h2 => ?_⟩
  · obtain ⟨q, t, h1, h2⟩ := hm d hd
    obtain ⟨e, g1, g2, g3, g4⟩ := hq q t h1
    rw [h2] at g1; cases g1; exact g2
  · obtain ⟨q, t, h1, h2⟩ := hm d hd
    obtain ⟨e, g1, g2, g3, g4⟩ := hq q t h1
    rw [h2] at g1; cases g1; exact g3
  · obtain ⟨e, g1, g2, g3, g4⟩ := hq q t h2
    rw [h1] at g1; cases g1; exact g4
abbrev kI (ks : List Nat) : List Int := ks.map fun (k : Nat) => (k : Int)
theorem kI_nd {ks : List Nat} (h : ks.Nodup) : (kI ks).Nodup := by
  rw [List.nodup_iff_pairwise_ne, List.pairwise_map]
  exact (List.nodup_iff_pairwise_ne.1 h).imp fun hne e => hne (by omega)
theorem kI_no {ks : List Nat} {p : Nat} {z : Int} (hz : z = (p : Int)) (h : p ∉ ks) : z ∉ kI ks := fun hm => by
  obtain ⟨q, h1, h2⟩ := List.mem_map.1 hm
  exact h (by rw [show p = q by omega]; exact h1)
theorem kI_app (ks : List Nat) (p : Nat) : kI ks ++ [(p : Int)] = kI (ks ++ [p]) := by rw [kI, kI, List.map_append]; rfl
theorem kI_at {ks : List Nat} {p : Nat} (h : p ∈ ks) : (kI ks)[ks.idxOf p]? = some (p : Int) := by rw [List.getElem?_map, (idx_at h).1]; rfl
theorem ptN_at {f n k : Nat} (h : k < n) : (ptN f n)[k]? = some (.floc f k 0) := by rw [List.getElem?_map, List.getElem?_range h]; rfl
theorem ptN_mpd {σ : List Nat} {V : Nat → Bool} {M : List Blk} {ks ks' : List Int} {f g n : Nat} {l l' : List D} (hk : ks = ks') (hl : l = ptN f n) (hl' : l' = ptN g n) (hp : pos σ f = some g) : (vwL σ V M l).map (Blk.mpd ks) = some (Blk.mpd ks' l') := by
  subst hk hl hl'
  have h : ∀ r : List Nat, vwL σ V M (r.map fun k => D.floc f k 0) = some (r.map fun k => D.floc g k 0) := fun r => by
    induction r with
    | nil => rfl
    | cons a r ih =>
      rw [List.map_cons, vwL, ih]
      have : vw σ V M (.floc f a 0) = some (.floc g a 0) := by unfold vw; rw [hp]
      rw [this]; rfl
  rw [h]; rfl
theorem tlM_at {es : List TL} {k : Nat} (h : k < es.length) : (tlM es)[k]? = some (.flat 73 (tc (es.getD k zT))) := by rw [List.getElem?_map, List.getElem?_eq_getElem h, tl_at h]; rfl
theorem tlM_len (es : List TL) : (tlM es).length = es.length := by simp
theorem setT {t : TL} {q : Nat} {z : Int} {c : C4} (hz : z = (q : Int)) (hq : q < 64) : setL (tc t) (0 + z.toNat * 4) (c4 c) = tc (t.set q c) := by
  subst hz
  rw [Int.toNat_natCast, Nat.zero_add]
  exact flat_set c4_len (by rw [TL.h]; exact hq) c
theorem fitT {t : TL} {q : Nat} {z : Int} (hz : z = (q : Int)) (hq : q < 64) : 0 + z.toNat * 4 + 4 ≤ (tc t).length := by
  subst hz
  rw [Int.toNat_natCast, tc_len]; omega
theorem tlM_set {es : List TL} {k : Nat} {t : TL} : (tlM es).set k (.flat 73 (tc t)) = tlM (es.set k t) := by rw [tlM, tlM, List.map_set]
theorem tlM_app (es : List TL) (t : TL) : tlM es ++ [.flat 73 (tc t)] = tlM (es ++ [t]) := by rw [tlM, tlM, List.map_append]; rfl
theorem tlM_new (es : List TL) (t : TL) (q : Nat) (c : C4) : (tlM es ++ [Mem.flat 73 (tc t)]).set es.length (Mem.flat 73 (tc (((es ++ [t]).getD es.length zT).set q c))) = tlM (es ++ [t.set q c]) := by
  rw [tlM_app, tlM_set, tl_at (by simp), List.getElem_append_right (Nat.le_refl _), List.set_append_right _ _ (Nat.le_refl _)]
  simp
theorem arxd_fits {σ : List Nat} {V : Nat → Bool} {M : List Blk} {T : TypeId} {sz n : Nat} {ds : List D} {ts : List TL} (hr : RowOk ds ts) : (vwL σ V M ds).map (Blk.arx T sz n) = some (Blk.arx T sz n ds) := arxn_fits hr.nl rfl rfl
set_option maxRecDepth 4000 in
set_option maxHeartbeats 1000000 in
theorem dot_d (w h : Int) (ds : List D) (ts us : List TL) (hr : RowOk ds ts) (hc : CvOk w h ts) (s : List Nat × List TL) (hs : DotOk ts us s) (d : Dt) : DFun Tryz.prog 111 [.loc 0 0, .val (.agg (dtC d).toArray)] [.mix 157 [.val (.int .i64 w), .val (.int .i64 h), .fn (.func 126) [] [.loc 4 0, .loc 5 0], .arr 1, .hnd 2], .arx 79 1 ds.length ds, .mpd (kI s.1) (ptN 3 s.2.length), .fam (tlM s.2), .flat 3 [.int .i64 (w * 8)], .flat 3 [.int .i64 (h * 8)]] (.tup []) [.mix 157 [.val (.int .i64 w), .val (.int .i64 h), .fn (.func 126) [] [.loc 4 0, .loc 5 0], .arr 1, .hnd 2], .arx 79 1 ds.length ds, .mpd (kI (dotS w h ts s d).1) (ptN 3 (dotS w h ts s d).2.length), .fam (tlM (dotS w h ts s d).2), .flat 3 [.int .i64 (w * 8)], .flat 3 [.int .i64 (h * 8)]] := by
  refine zal (N := 61) 6 (by kernel_rfl) Tryz.func111 rfl rfl rfl (by simp only [fr0, Nat.zero_add, Nat.reduceAdd]; exact rfl) rfl fun s0 hs0 => ?_
  refine zaf ?_
  refine zah 1 (by simp only [holes, List.cons_append, List.nil_append]; exact rfl) ?_
  refine zad ?_
  refine zaj rfl rfl rfl (op_boxa 6 rfl (ev1 rfl) rfl) (by simp only [upd, zaa, za]; exact rfl) ?_
  refine zae ?_
  refine zaf ?_
  refine zaf ?_
  refine dwp_draw [([], []), ([], []), ([], []), ([0], []), ([], []), ([6], []), ([], []), ([6], []), ([4, 5], [4, 5]), ([], [])] mixed (by kernel_rfl) ?_
  refine zag rfl rfl (zac (.inl rfl) (ev1 rfl)) ?_
  refine zag rfl rfl (op_nc rfl (ev1 rfl) (fun s v h => by cases h; exact ⟨_, rfl⟩)) ?_
  refine zag rfl rfl (op_fa rfl fo157_1 (ev1 rfl)) ?_
  refine zag rfl rfl (op_ldm rfl tb90 (ev1 rfl) rfl rfl) ?_
  refine zag rfl rfl (op_fa rfl fo96_0 (ev1 rfl)) ?_
  refine zag rfl rfl (op_ldo rfl tb3 (ev1 rfl) rfl rfl) ?_
  refine zag rfl rfl (op_fa rfl fo96_1 (ev1 rfl)) ?_
  refine zag rfl rfl (op_ldo rfl tb3 (ev1 rfl) rfl rfl) ?_
  refine lex_w rfl rfl (zai [4, 5] [] [] rfl (ev1 rfl) (ec (ev1 rfl) (ec (ev1 rfl) en)) rfl rfl (sask1_d d.x d.y w h) rfl rfl rfl rfl rfl rfl) rfl (by simp only [upd, zaa, za]; exact rfl) ?_
  refine zag rfl rfl (op_not rfl (ev1 rfl)) ?_
  refine lex_nil ?_
  refine dwp_cond rfl (fun c1 => ?_) (fun c1 => ?_)
  · have ho : onS w h d.x d.y = false := bn_t c1
    refine dwp_ret ?_
    rw [dotS_off ho]
    refine kend [0, 1, 2, 3, 4, 5] (res_none rfl) rfl rfl ?_ ⟨?_, ?_, ?_, ?_, ?_, ?_, trivial⟩
    rfl
    exact rfl
    exact arxd_fits hr
    exact ptN_mpd rfl rfl rfl rfl
    exact rfl
    exact rfl
    exact rfl
  · have ho : onS w h d.x d.y = true := bn_f c1
    have hpl := on_pl hc.may ho
    have hpt := hc.pl ho
    have hlen := hs.len
    refine dwp_skip ?_
    refine zaf ?_
    refine dwp_draw [([], []), ([], []), ([], []), ([0], []), ([], []), ([6], []), ([], []), ([6], []), ([], []), ([], []), ([], []), ([], []), ([], []), ([], [])] mixed (by kernel_rfl) ?_
    refine zag rfl rfl (zac (.inl rfl) (ev1 rfl)) ?_
    refine zag rfl rfl (op_nc rfl (ev1 rfl) (fun s v h => by cases h; exact ⟨_, rfl⟩)) ?_
    refine zag rfl rfl (op_fa rfl fo157_0 (ev1 rfl)) ?_
    refine zag rfl rfl (op_ldmv (R := [_, _]) rfl tb76 (ev1 rfl) rfl rfl rfl) ?_
    refine zag rfl rfl (op_fa rfl fo96_0 (ev1 rfl)) ?_
    refine zag rfl rfl (op_ldo rfl tb3 (ev1 rfl) rfl rfl) ?_
    refine zag rfl rfl (op_fa rfl fo96_1 (ev1 rfl)) ?_
    refine zag rfl rfl (op_ldo rfl tb3 (ev1 rfl) rfl rfl) ?_
    refine zag rfl rfl (zai [] [] [] rfl (ev1 rfl) (ec (ev1 rfl) (ec (ev1 rfl) (ec (ev1 rfl) en))) rfl rfl (splace_d w h d.x d.y hc.may ho) rfl rfl rfl rfl rfl rfl) ?_
    refine zag rfl rfl (zac (.inl rfl) (ev1 rfl)) ?_
    refine zag rfl rfl (op_ext rfl (ev1 rfl) rfl) ?_
    refine zag rfl rfl (op_ext rfl (ev1 rfl) rfl) ?_
    refine zag rfl rfl (zac (.inr rfl) (ev1 rfl)) ?_
    refine zag rfl rfl (zac (.inr rfl) (ev1 rfl)) ?_
    refine lex_nil ?_
    refine zaf ?_
    refine zaf ?_
    by_cases hin : plN w d.x d.y ∈ s.1
    · obtain ⟨g1, g2⟩ := idx_at hin
      have g3 : s.1.idxOf (plN w d.x d.y) < s.2.length := by omega
      refine zad ?_
      refine zab rfl rfl rfl (zac (.inl rfl) (ev1 rfl)) ?_
      refine zab rfl rfl rfl (op_nc rfl (ev1 rfl) (fun s v h => by cases h; exact ⟨_, rfl⟩)) ?_
      refine zab rfl rfl rfl (op_fa rfl fo157_3 (ev1 rfl)) ?_
      refine zab rfl rfl rfl (op_ldm rfl tb155 (ev1 rfl) rfl rfl) ?_
      refine zab rfl rfl rfl (zac (.inl rfl) (ev1 rfl)) ?_
      refine zab rfl rfl rfl (op_lkdy (j := s.1.idxOf (plN w d.x d.y)) mp155 it3 rfl (ev1 rfl) (ev1 rfl) rfl (fun _ => kI_nd hs.nd) (fun _ => kI_at hin) (ptN_at g3)) ?_
      refine zab rfl rfl rfl (op_pnilf rfl pt79 (ev1 rfl)) ?_
      refine zae ?_
      refine dwp_if_f rfl (rfl) ?_
      refine dwp_skip ?_
      refine dwp_draw [([], []), ([], []), ([], []), ([0], []), ([], []), ([2], []), ([], []), ([], []), ([6], []), ([], []), ([], []), ([3], [3])] mixed (by kernel_rfl) ?_
      refine zag rfl rfl (zac (.inl rfl) (ev1 rfl)) ?_
      refine zag rfl rfl (op_nc rfl (ev1 rfl) (fun s v h => by cases h; exact ⟨_, rfl⟩)) ?_
      refine zag rfl rfl (op_fa rfl fo157_3 (ev1 rfl)) ?_
      refine zag rfl rfl (op_ldm rfl tb155 (ev1 rfl) rfl rfl) ?_
      refine zag rfl rfl (zac (.inl rfl) (ev1 rfl)) ?_
      refine zag rfl rfl (op_lkdy (j := s.1.idxOf (plN w d.x d.y)) mp155 it3 rfl (ev1 rfl) (ev1 rfl) rfl (fun _ => kI_nd hs.nd) (fun _ => kI_at hin) (ptN_at g3)) ?_
      refine zag rfl rfl (zac (.inl rfl) (ev1 rfl)) ?_
      refine zag rfl rfl (op_fa rfl fo96_2 (ev1 rfl)) ?_
      refine zag rfl rfl (op_ldr rfl tb27 (ev1 rfl) rfl rfl rfl) ?_
      refine zag rfl rfl (op_nc rfl (ev1 rfl) (fun s v h => by cases h; exact ⟨_, rfl⟩)) ?_
      refine zag rfl rfl (op_ixfl rfl ar73 (ev1 rfl) (ev1 rfl) (fun _ => by omega)) ?_
      refine lex_s rfl rfl (op_stfp rfl tb27 (ev1 rfl) (ev1 rfl) rfl (tlM_at g3) rfl rfl rfl (fitT rfl hpl.2.2.2) (setT rfl hpl.2.2.2)) rfl (by simp only [upd, zaa, za]; exact rfl) ?_
      refine lex_nil ?_
      rw [dotS_in ho hin]
      refine kend [0, 1, 2, 3, 4, 5] (res_none rfl) rfl rfl ?_ ⟨?_, ?_, ?_, ?_, ?_, ?_, trivial⟩
      rfl
      exact rfl
      exact arxd_fits hr
      exact ptN_mpd rfl rfl (by rw [List.length_set]) rfl
      exact (by rw [tlM_set]; rfl)
      exact rfl
      exact rfl
    · refine zad ?_
      refine zab rfl rfl rfl (zac (.inl rfl) (ev1 rfl)) ?_
      refine zab rfl rfl rfl (op_nc rfl (ev1 rfl) (fun s v h => by cases h; exact ⟨_, rfl⟩)) ?_
      refine zab rfl rfl rfl (op_fa rfl fo157_3 (ev1 rfl)) ?_
      refine zab rfl rfl rfl (op_ldm rfl tb155 (ev1 rfl) rfl rfl) ?_
      refine zab rfl rfl rfl (zac (.inl rfl) (ev1 rfl)) ?_
      refine zab rfl rfl rfl (op_lkdn mp155 it3 zv79 rfl (ev1 rfl) (ev1 rfl) rfl (fun _ => kI_no rfl hin)) ?_
      refine zab rfl rfl rfl (op_pnil0 rfl pt79 (ev1 rfl)) ?_
      refine zae ?_
      refine dwp_if_t rfl (rfl) ?_
      refine zaf ?_
      obtain ⟨e, hd, _, _, _, hw⟩ := hr.at hpt
      refine zah 1 (by simp only [holes, List.cons_append, List.nil_append]; exact rfl) ?_
      refine zad ?_
      refine zab rfl rfl rfl (zac (.inl rfl) (ev1 rfl)) ?_
      refine zab rfl rfl rfl (op_nc rfl (ev1 rfl) (fun s v h => by cases h; exact ⟨_, rfl⟩)) ?_
      refine zab rfl rfl rfl (op_fa rfl fo157_2 (ev1 rfl)) ?_
      refine zab rfl rfl rfl (op_ldm rfl tb77 (ev1 rfl) rfl rfl) ?_
      refine zab rfl rfl rfl (zac (.inl rfl) (ev1 rfl)) ?_
      refine zab rfl rfl rfl (op_ixx (plN w d.x d.y) rfl sl77 (ev1 rfl) (ev1 rfl) rfl (fun _ => rfl) (fun _ => by rw [hr.len]; exact hpt)) ?_
      refine zab rfl rfl rfl ((op_ldx rfl tb79 (ev1 rfl) rfl (by rw [Nat.mul_one]; exact hd)).wk (hw)) ?_
      refine zab rfl rfl rfl (op_nc rfl (ev1 rfl) (fun s v h => by cases h; exact ⟨_, rfl⟩)) ?_
      refine zab rfl rfl rfl (op_ldwd rfl tb73 (ev1 rfl) (tc_len _)) ?_
      refine zaj rfl rfl rfl (op_alloc 7 rfl zr73 rfl) (by simp only [upd, zaa, za]; exact rfl) ?_
      refine walk_s rfl rfl (op_stwa rfl tb73 (ev1 rfl) (ev1 rfl) rfl (tc_len _) (tc_oc _) ((tc_len _).trans (tc_len _).symm)) (by simp only [upd, zaa, za]; exact rfl) ?_
      refine zae ?_
      refine dwp_absl 6 3 rfl rfl rfl (by simp only [zaa, za]; exact rfl) ?_
      refine zad ?_
      refine zab rfl rfl rfl (zac (.inl rfl) (ev1 rfl)) ?_
      refine zab rfl rfl rfl (op_nc rfl (ev1 rfl) (fun s v h => by cases h; exact ⟨_, rfl⟩)) ?_
      refine zab rfl rfl rfl (op_fa rfl fo157_3 (ev1 rfl)) ?_
      refine zab rfl rfl rfl (op_ldm rfl tb155 (ev1 rfl) rfl rfl) ?_
      refine zab rfl rfl rfl (zac (.inl rfl) (ev1 rfl)) ?_
      refine walk_s rfl rfl (op_mud mp155 it3 rfl (ev1 rfl) (ev1 rfl) (ev1 rfl) rfl (fun _ => kI_no rfl hin)) (by simp only [upd, zaa, za]; exact rfl) ?_
      refine zae ?_
      refine dwp_draw [([], []), ([], []), ([], []), ([0], []), ([], []), ([2], []), ([], []), ([], []), ([6], []), ([], []), ([], []), ([3], [3])] mixed (by kernel_rfl) ?_
      refine zag rfl rfl (zac (.inl rfl) (ev1 rfl)) ?_
      refine zag rfl rfl (op_nc rfl (ev1 rfl) (fun s v h => by cases h; exact ⟨_, rfl⟩)) ?_
      refine zag rfl rfl (op_fa rfl fo157_3 (ev1 rfl)) ?_
      refine zag rfl rfl (op_ldm rfl tb155 (ev1 rfl) rfl rfl) ?_
      refine zag rfl rfl (zac (.inl rfl) (ev1 rfl)) ?_
      refine zag rfl rfl (op_lkdy (j := s.2.length) mp155 it3 rfl (ev1 rfl) (ev1 rfl) rfl (fun _ => by rw [kI_app]; exact kI_nd (hs.step hc d |>.nd |> fun h => by rw [dotS_new ho hin] at h; exact h)) (fun _ => by rw [kI_app, List.getElem?_map, List.getElem?_append_right (by omega), hlen, Nat.sub_self]; rfl) (by rw [tlM_len, ptN_add]; exact ptN_at (by omega))) ?_
      refine zag rfl rfl (zac (.inl rfl) (ev1 rfl)) ?_
      refine zag rfl rfl (op_fa rfl fo96_2 (ev1 rfl)) ?_
      refine zag rfl rfl (op_ldr rfl tb27 (ev1 rfl) rfl rfl rfl) ?_
      refine zag rfl rfl (op_nc rfl (ev1 rfl) (fun s v h => by cases h; exact ⟨_, rfl⟩)) ?_
      refine zag rfl rfl (op_ixfl rfl ar73 (ev1 rfl) (ev1 rfl) (fun _ => by omega)) ?_
      refine lex_s rfl rfl (op_stfp rfl tb27 (ev1 rfl) (ev1 rfl) rfl (by rw [tlM_app]; exact tlM_at (by simp)) rfl rfl rfl (fitT rfl hpl.2.2.2) (setT rfl hpl.2.2.2)) rfl (by simp only [upd, zaa, za]; exact rfl) ?_
      refine lex_nil ?_
      rw [dotS_new ho hin]
      refine kend [0, 1, 2, 3, 4, 5] (res_none rfl) rfl rfl ?_ ⟨?_, ?_, ?_, ?_, ?_, ?_, trivial⟩
      rfl
      exact rfl
      exact arxd_fits hr
      exact ptN_mpd (by rw [kI_app]) (by rw [tlM_len, ptN_add, List.length_append]; rfl) rfl rfl
      exact (by rw [tlM_new]; rfl)
      exact rfl
      exact rfl
end Go.Proofs.YtjgnalfnginjbaaGreatDoor
namespace Go.Proofs.YtjgnalfnginjbaaGreatDoor
set_option maxRecDepth 4000
set_option linter.unusedVariables false
set_option linter.unusedSimpArgs false
open Go.RowKit
theorem fl157 : fdL Tryz.prog 157 = some [(0, 2), (2, 1), (3, 1), (4, 1)] := by kernel_rfl
theorem sl129 : slE Tryz.prog 129 = some (96, 6, 24) := by kernel_rfl
theorem tb96 : tyB Tryz.prog 96 = some (true, 6) := by kernel_rfl
theorem zr157 : zrC Tryz.prog 157 = some [.int .i64 0, .int .i64 0, .nilFunc, .slice none 0 0, .map none] := by kernel_rfl
theorem zr96 : zrC Tryz.prog 96 = some [.int .i64 0, .int .i64 0, .int .u8 0, .int .u8 0, .int .u8 0, .int .u8 0] := by kernel_rfl
theorem rowS_fits {f g n : Nat} {ts es : List TL} {ds : List D} {ks seen : List Nat} {σ : List Nat} {V : Nat → Bool} {M : List Blk} {T : TypeId} {l l' : List D} (hn : D.nlL ds = true) (hl : l = rowS f ts es ds ks seen) (hl' : l' = rowS g ts es ds ks seen) (hp : pos σ f = some g) : (vwL σ V M l).map (Blk.arx T 1 n) = some (Blk.arx T 1 n l') := by
  subst hl hl'
  have h : ∀ r : List Nat, (∀ q ∈ r, q < ds.length) → vwL σ V M (r.map fun q => if q ∈ ks ∧ ks.idxOf q ∈ seen ∧ es[ks.idxOf q]? ≠ ts[q]? then D.floc f (ks.idxOf q) 0 else ds.getD q .junk) = some (r.map fun q => if q ∈ ks ∧ ks.idxOf q ∈ seen ∧ es[ks.idxOf q]? ≠ ts[q]? then D.floc g (ks.idxOf q) 0 else ds.getD q .junk) := fun r hr => by
    induction r with
    | nil => rfl
    | cons a r ih =>
      rw [List.map_cons, vwL, ih fun q hq => hr q (by simp [hq])]
      have : vw σ V M (if a ∈ ks ∧ ks.idxOf a ∈ seen ∧ es[ks.idxOf a]? ≠ ts[a]? then D.floc f (ks.idxOf a) 0 else ds.getD a .junk) = some (if a ∈ ks ∧ ks.idxOf a ∈ seen ∧ es[ks.idxOf a]? ≠ ts[a]? then D.floc g (ks.idxOf a) 0 else ds.getD a .junk) := by
        split
        · unfold vw; rw [hp]
        · exact vw_nl σ V M _ (nlL_mem hn (dsD (hr a (by simp))))
      rw [this]; rfl
  have := h (List.range ds.length) fun q hq => by simpa using hq
  unfold rowS
  rw [this]; rfl
theorem tc_whole (t : TL) : ((tc t).drop 0).take 256 = tc t := by rw [List.drop_zero, List.take_of_length_le (by rw [tc_len]; exact Nat.le_refl _)]
theorem getq {l : List TL} {p : Nat} (h : p < l.length) : l[p]? = some (l.getD p zT) := by rw [List.getElem?_eq_getElem h, tl_at h]
theorem all_in : ∀ {n : Nat} {seen : List Nat} (h : seen.Nodup) (hl : ∀ p ∈ seen, p < n), seen.length ≤ n
  | 0, seen, h, hl => by
    cases seen with
    | nil => exact Nat.le_refl _
    | cons a l => exact absurd (hl a (by simp)) (Nat.not_lt_zero _)
  | n + 1, seen, h, hl => by
    have h1 := all_in (n := n) (seen := seen.erase n) (h.erase n) fun p hp => by
      have h2 := hl p (List.mem_of_mem_erase hp)
      have h3 : p ≠ n := fun e => by subst e; exact absurd hp (List.Nodup.not_mem_erase h)
      omega
    rw [List.length_erase] at h1
    split at h1 <;> omega
def FromCv (I : Nat → Prop) (w h : Int) (ds : List D) (ts us : List TL) (d : D) : Prop := ∃ ps, RowP I ds ps ts us ∧ d = cvD w h ps
set_option maxRecDepth 4000 in
set_option maxHeartbeats 1000000 in
theorem done_i (w h : Int) (ds : List D) (ts us : List TL) (hr : RowOk ds ts) (hc : CvOk w h ts) (s : List Nat × List TL) (hs : DotOk ts us s) : DFunI Tryz.prog 112 [.loc 0 0] [.mix 157 [.val (.int .i64 w), .val (.int .i64 h), .fn (.func 126) [] [.loc 4 0, .loc 5 0], .arr 1, .hnd 2], .arx 79 1 ds.length ds, .mpd (kI s.1) (ptN 3 s.2.length), .fam (tlM s.2), .flat 3 [.int .i64 (w * 8)], .flat 3 [.int .i64 (h * 8)]] (fun I => FromCv I w h ds ts us) [.gone, .gone, .gone, .gone, .gone, .gone] := by
  have hlen := hs.len
  have hdl := hr.len
  refine dcallsI_go (N := 45) 6 (by kernel_rfl) Tryz.func112 rfl rfl rfl (by simp only [fr0, Nat.zero_add, Nat.reduceAdd]; exact rfl) rfl fun s0 hs0 => ?_
  refine zaf ?_
  refine zad ?_
  refine zab rfl rfl rfl (zac (.inr rfl) (ev1 rfl)) ?_
  refine zae ?_
  refine zaf ?_
  refine zaf ?_
  refine zah 1 (by simp only [holes, List.cons_append, List.nil_append]; exact rfl) ?_
  refine zad ?_
  refine zab rfl rfl rfl (zac (.inl rfl) (ev1 rfl)) ?_
  refine zab rfl rfl rfl (op_nc rfl (ev1 rfl) (fun s v h => by cases h; exact ⟨_, rfl⟩)) ?_
  refine zab rfl rfl rfl (op_fa rfl fo157_3 (ev1 rfl)) ?_
  refine zab rfl rfl rfl (op_ldm rfl tb155 (ev1 rfl) rfl rfl) ?_
  refine zaj rfl rfl rfl (op_rgd 6 rfl mp155 (ev1 rfl) rfl rfl) (by simp only [upd, zaa, za]; exact rfl) ?_
  refine zae ?_
  refine dwp_block ?_
  refine dwp_loopS ⟨hs0, rfl⟩ (α := List Nat) (fun sn => []) [(0, _), (9, _)] (fun sn => [(1, .arx 79 1 ds.length (rowS 3 ts s.2 ds s.1 sn)), (6, .mit (.hnd 2) (kI s.1).length sn)]) [_, .hole, _, _, _, _, .hole] (fun sn => sn.Nodup ∧ ∀ p ∈ sn, p < s.1.length) (fun sn => s.1.length - sn.length) [] [0, 1, 2, 3, 4, 5, 6] (⟨List.nodup_nil, fun p hp => by simp at hp⟩) rfl ⟨rfl, rfl, trivial⟩ trivial ⟨rfl, arxn_fits hr.nl rfl (rowS_nil ..).symm, ptN_mpd rfl rfl rfl rfl, rfl, rfl, rfl, rfl, trivial⟩ ?_
  intro sn hx
  simp only [upd, zaa, za, List.cons_append, List.nil_append]
  obtain ⟨hnd, hlt⟩ := hx
  refine zaf ?_
  refine zad ?_
  refine walk_e rfl rfl rfl (op_nxd rfl (ev1 rfl) rfl rfl) ?_
  rintro d wr (⟨rfl, rfl, hall⟩ | ⟨p, kp, ep, hkp, hep, hnp, rfl, rfl⟩)
  · simp only [upd]
    refine zab rfl rfl rfl (op_ext rfl (ev1 rfl) rfl) ?_
    refine zae ?_
    refine zaf ?_
    refine dwp_if_f rfl (rfl) ?_
    refine dwp_exit ?_
    refine zaf ?_
    refine dwp_frz 3 1 rfl rfl (tlM_flat) fun ad had => ?_
    simp only [zaa, za]
    have hP := rowS_frz (f := 3) (I := s0.I) (seen := sn) hr hs (fun p hp => hall p (by simpa using hp)) (fun k hk => had k (by simpa using hk))
    have hPk := hP.ok hr hs.ul
    refine dwp_givem 0 3 (hPk.nl) rfl rfl rfl (by simp only [zaa, za]; exact rfl) ?_
    refine dwp_draw [([], []), ([], []), ([], []), ([0], []), ([], []), ([], []), ([], []), ([0], []), ([], []), ([], []), ([], [])] mixed (by kernel_rfl) ?_
    refine zag rfl rfl (zac (.inl rfl) (ev1 rfl)) ?_
    refine zag rfl rfl (op_nc rfl (ev1 rfl) (fun s v h => by cases h; exact ⟨_, rfl⟩)) ?_
    refine zag rfl rfl (op_fa rfl fo157_0 (ev1 rfl)) ?_
    refine zag rfl rfl (op_ldmv (R := [_, _]) rfl tb76 (ev1 rfl) rfl rfl rfl) ?_
    refine zag rfl rfl (zac (.inl rfl) (ev1 rfl)) ?_
    refine zag rfl rfl (op_nc rfl (ev1 rfl) (fun s v h => by cases h; exact ⟨_, rfl⟩)) ?_
    refine zag rfl rfl (op_fa rfl fo157_2 (ev1 rfl)) ?_
    refine zag rfl rfl (op_ldm rfl tb77 (ev1 rfl) rfl rfl) ?_
    refine zag rfl rfl (op_bldD (ps := [(0, .tmp 38), (1, .tmp 42)]) rfl fl82 zr82 (ec (ev1 rfl) (ec (ev1 rfl) en)) rfl rfl rfl) ?_
    refine zag rfl rfl (op_boxf rfl rfl (ev1 rfl)) ?_
    refine zag rfl rfl (zac (.inr rfl) (ev1 rfl)) ?_
    refine lex_nil ?_
    refine dwp_gone 0 (by simp only [zaa, za]; exact rfl) ?_
    refine dwp_gone 2 (by simp only [zaa, za]; exact rfl) ?_
    refine dwp_gone 4 (by simp only [zaa, za]; exact rfl) ?_
    refine dwp_gone 5 (by simp only [zaa, za]; exact rfl) ?_
    refine dwp_ret ?_
    refine kendI (post := fun I => FromCv I w h ds ts us) (I := s0.I) (Mo := [.gone, .gone, .gone, .gone, .gone, .gone]) [0, 1, 2, 3, 4, 5] (rs1 rfl (rv_t rfl)) rfl rfl ?_ ⟨rfl, rfl, rfl, rfl, rfl, rfl, trivial⟩
    exact ⟨_, hP, by rw [cvD, hP.len]; rfl⟩
  · simp only [upd, zaa, za]
    have hp1 : p < s.1.length := by have := (List.getElem?_eq_some_iff.1 hkp).1; simpa using this
    obtain ⟨q, hq⟩ : ∃ q, s.1[p]? = some q := ⟨_, List.getElem?_eq_getElem hp1⟩
    obtain rfl : kp = (q : Int) := by rw [List.getElem?_map, hq] at hkp; exact (Option.some.inj hkp).symm
    obtain rfl : ep = .floc 3 p 0 := by rw [ptN_at (by omega)] at hep; exact (Option.some.inj hep).symm
    have hqt := hs.lt q (List.mem_of_getElem? hq)
    obtain ⟨e, hd, _, _, _, hw⟩ := hr.at hqt
    have hes := tlM_at (es := s.2) (k := p) (by omega)
    refine zab rfl rfl rfl (op_ext rfl (ev1 rfl) rfl) ?_
    refine zae ?_
    refine zaf ?_
    refine dwp_if_t rfl (rfl) ?_
    refine dwp_skip ?_
    refine dwp_block ?_
    refine zaf ?_
    refine zad ?_
    refine zab rfl rfl rfl (op_ent rfl (ev1 rfl) rfl rfl (hkp) (hep)) ?_
    refine zab rfl rfl rfl (op_ext rfl (ev1 rfl) rfl) ?_
    refine zab rfl rfl rfl (op_ext rfl (ev1 rfl) rfl) ?_
    refine zab rfl rfl rfl (zac (.inr rfl) (ev1 rfl)) ?_
    refine zab rfl rfl rfl (zac (.inr rfl) (ev1 rfl)) ?_
    refine zae ?_
    refine zaf ?_
    refine dwp_draw [([], []), ([], []), ([3], []), ([], []), ([], []), ([], []), ([0], []), ([], []), ([1], []), ([1], []), ([], []), ([], []), ([], [])] mixed (by kernel_rfl) ?_
    refine zag rfl rfl (zac (.inl rfl) (ev1 rfl)) ?_
    refine zag rfl rfl (op_nc rfl (ev1 rfl) (fun s v h => by cases h; exact ⟨_, rfl⟩)) ?_
    refine zag rfl rfl (op_ldfp rfl tb73 (ev1 rfl) rfl (hes) (tc_whole _) (tc_len _)) ?_
    refine zag rfl rfl (zac (.inl rfl) (ev1 rfl)) ?_
    refine zag rfl rfl (op_nc rfl (ev1 rfl) (fun s v h => by cases h; exact ⟨_, rfl⟩)) ?_
    refine zag rfl rfl (op_fa rfl fo157_2 (ev1 rfl)) ?_
    refine zag rfl rfl (op_ldm rfl tb77 (ev1 rfl) rfl rfl) ?_
    refine zag rfl rfl (zac (.inl rfl) (ev1 rfl)) ?_
    refine zag rfl rfl (op_ixx (q) rfl sl77 (ev1 rfl) (ev1 rfl) rfl (fun _ => rfl) (fun _ => by omega)) ?_
    refine zag rfl rfl ((op_ldx rfl tb79 (ev1 rfl) rfl (by rw [Nat.mul_one, rowS_at hs.nd hq hnp (by omega)]; exact hd)).wk (hw)) ?_
    refine zag rfl rfl (op_nc rfl (ev1 rfl) (fun s v h => by cases h; exact ⟨_, rfl⟩)) ?_
    refine zag rfl rfl (op_ldwd rfl tb73 (ev1 rfl) (tc_len _)) ?_
    refine zag rfl rfl (op_ner eq73 rfl gd73 tb73 (ev1 rfl) (ev1 rfl)) ?_
    refine lex_nil ?_
    have hle2 := all_in (n := s.1.length) (seen := sn ++ [p]) (by rw [List.nodup_append]; exact ⟨hnd, by simp, fun a ha b hb => by simp at hb; subst hb; exact fun e => hnp (e ▸ ha)⟩) (fun r hr => (List.mem_append.1 hr).elim (hlt r) fun h => by simp at h; subst h; exact hp1)
    rw [List.length_append] at hle2
    have hI : (sn ++ [p]).Nodup ∧ ∀ r ∈ sn ++ [p], r < s.1.length := ⟨by rw [List.nodup_append]; exact ⟨hnd, by simp, fun a ha b hb => by simp at hb; subst hb; exact fun e => hnp (e ▸ ha)⟩, fun r hr => (List.mem_append.1 hr).elim (hlt r) fun h => by simp at h; subst h; exact hp1⟩
    refine dwp_cond rfl (fun c2 => ?_) (fun c2 => ?_)
    · have hne : s.2[p]? ≠ ts[q]? := by rw [getq (by omega), getq hqt]; exact fun e => (show ¬ s.2.getD p zT = ts.getD q zT by simpa using c2) (Option.some.inj e)
      refine zad ?_
      refine zab rfl rfl rfl (zac (.inl rfl) (ev1 rfl)) ?_
      refine zab rfl rfl rfl (op_nc rfl (ev1 rfl) (fun s v h => by cases h; exact ⟨_, rfl⟩)) ?_
      refine zab rfl rfl rfl (op_fa rfl fo157_2 (ev1 rfl)) ?_
      refine zab rfl rfl rfl (op_ldm rfl tb77 (ev1 rfl) rfl rfl) ?_
      refine zab rfl rfl rfl (zac (.inl rfl) (ev1 rfl)) ?_
      refine zab rfl rfl rfl (zac (.inl rfl) (ev1 rfl)) ?_
      refine zab rfl rfl rfl (op_ixx (q) rfl sl77 (ev1 rfl) (ev1 rfl) rfl (fun _ => rfl) (fun _ => by omega)) ?_
      refine walk_s rfl rfl (op_stx0 (j := q) rfl tb79 (ev1 rfl) (ev1 rfl) rfl (by rw [rowS_len]; omega) (fun s v h => by cases h <;> exact ⟨rfl, rfl⟩)) (by simp only [upd, zaa, za]; exact rfl) ?_
      refine zae ?_
      refine ⟨sn ++ [p], [0, 1, 2, 3, 4, 5, 6], hI, by simp only [List.length_append, List.length_cons, List.length_nil] at hle2 ⊢; omega, rfl, ⟨rfl, rfl, trivial⟩, ⟨rfl, rowS_fits hr.nl (by rw [rowS_step hs.nd hq hnp (by omega), if_pos hne]) rfl rfl, ptN_mpd rfl rfl rfl rfl, rfl, rfl, rfl, rfl, trivial⟩⟩
    · have hne : ¬ s.2[p]? ≠ ts[q]? := by rw [getq (by omega), getq hqt]; simpa using c2
      refine dwp_skip ?_
      refine ⟨sn ++ [p], [0, 1, 2, 3, 4, 5, 6], hI, by simp only [List.length_append, List.length_cons, List.length_nil] at hle2 ⊢; omega, rfl, ⟨rfl, rfl, trivial⟩, ⟨rfl, rowS_fits hr.nl rfl (by rw [rowS_step hs.nd hq hnp (by omega), if_neg hne]) rfl, ptN_mpd rfl rfl rfl rfl, rfl, rfl, rfl, rfl, trivial⟩⟩
theorem sb_ptNm {τ : List Nat} {ks : List Int} {f g n : Nat} (hp : τ[f]? = some g) : sbB τ (.mpd ks (ptN f n)) = some (.mpd ks (ptN g n)) := by
  have h : ∀ r : List Nat, sbL τ (r.map fun k => D.floc f k 0) = some (r.map fun k => D.floc g k 0) := fun r => by
    induction r with
    | nil => rfl
    | cons a r ih =>
      rw [List.map_cons, sbL, ih]
      have : sb τ (.floc f a 0) = some (.floc g a 0) := by unfold sb; rw [hp]; rfl
      rw [this]; rfl
  show (sbL τ _).map _ = _
  rw [h]; rfl
theorem FromCv.nl {I : Nat → Prop} {w h : Int} {ds : List D} {ts us : List TL} {d : D} (hr : RowOk ds ts) (hl : us.length = ts.length) (hf : FromCv I w h ds ts us d) : d.nl = true := by
  obtain ⟨ps, hp, rfl⟩ := hf
  rfl
set_option maxRecDepth 4000 in
set_option maxHeartbeats 1000000 in
theorem clonePt_d (ds : List D) (ts : List TL) (hr : RowOk ds ts) (h1 : 1 ≤ ts.length) (hn : ts.length ≤ 5000) : DFun Tryz.prog 110 [.slm 1 ds.length ds] [] (.arr 0) [.arx 79 1 ds.length ds] := by
  have hdl := hr.len
  refine zal (N := 8) 0 (by kernel_rfl) Tryz.func110 rfl rfl rfl (by simp only [fr0, Nat.zero_add, Nat.reduceAdd]; exact rfl) rfl fun s0 hs0 => ?_
  refine dwp_lenm (t := 0) rfl fun hl0 hL0 => ?_
  refine zaf ?_
  refine zad ?_
  refine zab rfl rfl rfl (zac (.inr rfl) (ev1 rfl)) ?_
  refine zae ?_
  refine zaf ?_
  refine zaf ?_
  refine zad ?_
  refine zab rfl rfl rfl (zac (.inl rfl) (ev1 rfl)) ?_
  refine walk_nilm? rfl rfl rfl rfl sl77 (ev1 rfl) fun nb4 hnb4 => ?_
  refine zae ?_
  refine dwp_cond rfl (fun c1 => ?_) (fun c1 => ?_)
  · exact absurd (hnb4 c1).1 (by omega)
  · try simp only [decide_eq_true_eq, decide_eq_false_iff_not, beq_iff_eq, bne_iff_ne, beq_eq_false_iff_ne, bne_eq_false_iff_eq, Bool.not_eq_true', Bool.not_eq_false', Bool.and_eq_true, Bool.or_eq_true, Bool.or_eq_false_iff, ne_eq, Decidable.not_not, Int.not_lt, Int.not_le] at c1
    refine dwp_skip ?_
    refine zaf ?_
    refine zah 2 (by simp only [holes, List.cons_append, List.nil_append]; exact rfl) ?_
    refine zad ?_
    refine zaj rfl rfl rfl (op_bsx (ps := []) 0 (fun s d v hd hr => by simp at hd) rfl sl77 zr79 rfl en (by decide) rfl) (by simp only [upd, zaa, za]; exact rfl) ?_
    refine zab rfl rfl rfl (zac (.inl rfl) (ev1 rfl)) ?_
    refine zaj rfl rfl rfl (op_appr (j := 1) rfl sl77 zr79 rfl (ev1 rfl) (ev1 rfl) rfl rfl (hr.oc) (fun _ => ⟨by omega, by omega⟩)) (by simp only [upd, zaa, za]; exact rfl) ?_
    refine zab rfl rfl rfl (zac (.inr rfl) (ev1 rfl)) ?_
    refine zae ?_
    refine dwp_ret ?_
    refine kend [1] (rs1 rfl (rv_t rfl)) rfl rfl ?_ ⟨?_, trivial⟩
    rfl
    exact arxn_fits hr.nl (Nat.zero_add _) rfl
set_option maxRecDepth 4000 in
set_option maxHeartbeats 1000000 in
theorem with_i (w h : Int) (ds : List D) (ts : List TL) (hr : RowOk ds ts) (hc : CvOk w h ts) (l : List Dt) : DFunI Tryz.prog 85 [cvD w h ds, .slf 6 l.length (l.flatMap dtC)] [] (fun I => FromCv I w h ds ts (putsC w h ts l)) [] := by
  have hle := hc.le
  have hdl := hr.len
  refine dcallsI_go (N := 42) 0 (by kernel_rfl) Tryz.func85 rfl rfl rfl (by simp only [fr0, Nat.zero_add, Nat.reduceAdd]; exact rfl) rfl fun s0 hs0 => ?_
  refine dwp_len (t := 1) rfl fun hl1 hL1 => ?_
  refine zaf ?_
  refine zad ?_
  refine zab rfl rfl rfl (zac (.inr rfl) (ev1 rfl)) ?_
  refine zae ?_
  refine zaf ?_
  refine zaf ?_
  refine zad ?_
  refine zab rfl rfl rfl (zac (.inl rfl) (ev1 rfl)) ?_
  refine zab rfl rfl rfl (op_pnilm rfl pt33 (ev1 rfl)) ?_
  refine zae ?_
  refine dwp_if_f rfl (rfl) ?_
  refine dwp_skip ?_
  refine zaf ?_
  refine zah 5 (by simp only [holes, List.cons_append, List.nil_append]; exact rfl) ?_
  refine dwp_draw [([], []), ([], []), ([], []), ([], []), ([], []), ([], []), ([], []), ([], []), ([0, 1], [0, 1]), ([], []), ([], []), ([], []), ([], []), ([2], [2]), ([3], [3]), ([3], []), ([4], [4]), ([], [])] mixed (by kernel_rfl) ?_
  refine zag rfl rfl (zac (.inl rfl) (ev1 rfl)) ?_
  refine zag rfl rfl (op_nc rfl (ev1 rfl) (fun s v h => by cases h; exact ⟨_, rfl⟩)) ?_
  refine zag rfl rfl (op_fadm rfl fo82_0 (ev1 rfl)) ?_
  refine zag rfl rfl (op_lddv [_, _] rfl tb76 (ev1 rfl) rfl rfl) ?_
  refine zag rfl rfl (zac (.inl rfl) (ev1 rfl)) ?_
  refine zag rfl rfl (op_nc rfl (ev1 rfl) (fun s v h => by cases h; exact ⟨_, rfl⟩)) ?_
  refine zag rfl rfl (op_fadm rfl fo82_0 (ev1 rfl)) ?_
  refine zag rfl rfl (op_lddv [_, _] rfl tb76 (ev1 rfl) rfl rfl) ?_
  refine lex_w rfl rfl (zai [] [] [0, 1] rfl (ev1 rfl) (ec (ev1 rfl) en) rfl rfl (sasks_d w h hc.may) rfl rfl rfl rfl rfl rfl) rfl (by simp only [upd, zaa, za]; exact rfl) ?_
  refine zag rfl rfl (zac (.inl rfl) (ev1 rfl)) ?_
  refine zag rfl rfl (op_nc rfl (ev1 rfl) (fun s v h => by cases h; exact ⟨_, rfl⟩)) ?_
  refine zag rfl rfl (op_fadm rfl fo82_1 (ev1 rfl)) ?_
  refine zag rfl rfl (op_lddm rfl tb77 (ev1 rfl) rfl) ?_
  refine lex_w rfl rfl (zai [] [] [2] rfl (ev1 rfl) (ec (ev1 rfl) en) rfl rfl (clonePt_d ds ts hr hle.2 (by omega)) rfl rfl rfl (by exact (wrc (sb_arxn hr.nl) rfl)) rfl rfl) rfl (by simp only [upd, zaa, za]; exact rfl) ?_
  refine lex_w rfl rfl (op_mkd 3 rfl rfl) rfl (by simp only [upd, zaa, za]; exact rfl) ?_
  refine zag rfl rfl (op_bldDh (ps := [(0, .tmp 14), (1, .tmp 19), (2, .tmp 24), (3, .tmp 25)]) 3 rfl fl157 zr157 (ec (ev1 rfl) (ec (ev1 rfl) (ec (ev1 rfl) (ec (ev1 rfl) en)))) rfl rfl rfl rfl) ?_
  refine lex_w rfl rfl (op_boxam 4 rfl (ev1 rfl) rfl) rfl (by simp only [upd, zaa, za]; exact rfl) ?_
  refine zag rfl rfl (zac (.inr rfl) (ev1 rfl)) ?_
  refine lex_nil ?_
  refine zaf ?_
  refine zad ?_
  refine zab rfl rfl rfl (zac (.inl rfl) (ev1 rfl)) ?_
  refine zab rfl rfl rfl (op_mkf rfl (ec (ev1 rfl) en) en) ?_
  refine zab rfl rfl rfl (zac (.inr rfl) (ev1 rfl)) ?_
  refine zae ?_
  refine zaf ?_
  refine zaf ?_
  refine dwp_hole ?_
  refine dwp_fam 5 rfl (by simp only [List.cons_append, List.nil_append, zaa, za]; exact rfl) ?_
  refine zad ?_
  refine zab rfl rfl rfl (zac (.inl rfl) (ev1 rfl)) ?_
  refine zab rfl rfl rfl (op_len rfl sl129 (ev1 rfl)) ?_
  refine zab rfl rfl rfl (zac (.inl rfl) (ev1 rfl)) ?_
  refine zae ?_
  refine dwp_block ?_
  refine dwp_loopS ⟨hs0, rfl⟩ (α := Nat) (fun k => [(32, .val (.int .i64 (k : Int)))]) [(5, _), (6, _), (30, _), (31, _)] (fun k => [(3, .mpd (kI (dotsS w h ts (l.take k)).1) (ptN 5 (dotsS w h ts (l.take k)).2.length)), (5, .fam (tlM (dotsS w h ts (l.take k)).2))]) [_, _, _, .hole, _, .hole] (fun k => k ≤ l.length) (fun k => l.length - k) 0 [0, 1, 2, 3, 4, 5] (Nat.zero_le _) rfl ⟨rfl, rfl, rfl, rfl, trivial⟩ ⟨rfl, trivial⟩ ⟨rfl, rfl, arxd_fits hr, rfl, rfl, rfl, trivial⟩ ?_
  intro k hx
  simp only [upd, zaa, za, List.cons_append, List.nil_append]
  have hk := hx
  have hs := dotsS_ok hc (l.take k) ts _ (dotOk_nil ts)
  refine zaf ?_
  refine zad ?_
  refine zab rfl rfl rfl (op_lss rfl (ev1 rfl) (ev1 rfl)) ?_
  refine zae ?_
  refine zaf ?_
  refine dwp_cond rfl (fun c2 => ?_) (fun c2 => ?_)
  · try simp only [decide_eq_true_eq, decide_eq_false_iff_not, beq_iff_eq, bne_iff_ne, beq_eq_false_iff_ne, bne_eq_false_iff_eq, Bool.not_eq_true', Bool.not_eq_false', Bool.and_eq_true, Bool.or_eq_true, Bool.or_eq_false_iff, ne_eq, Decidable.not_not, Int.not_lt, Int.not_le] at c2
    refine dwp_skip ?_
    refine zaf ?_
    refine dwp_block ?_
    refine zaf ?_
    refine zah 1 (by simp only [holes, List.cons_append, List.nil_append]; exact rfl) ?_
    refine zad ?_
    refine zab rfl rfl rfl (op_ixsr (j := k) rfl sl129 (ev1 rfl) (ev1 rfl) (fun _ => rfl) (by decide) (by omega) (by omega)) ?_
    refine zab rfl rfl rfl (op_ldwd rfl tb96 (ev1 rfl) rfl) ?_
    refine zaj rfl rfl rfl (op_alloc 6 rfl zr96 rfl) (by simp only [upd, zaa, za]; exact rfl) ?_
    refine walk_s rfl rfl (op_stwa rfl tb96 (ev1 rfl) (ev1 rfl) rfl rfl rfl rfl) (by simp only [upd, zaa, za]; exact rfl) ?_
    refine zae ?_
    refine zad ?_
    refine zab rfl rfl rfl (zac (.inl rfl) (ev1 rfl)) ?_
    refine zab rfl rfl rfl (op_ldw rfl tb96 (ev1 rfl) rfl rfl) ?_
    refine zaj rfl rfl rfl (zai [4, 2, 3, 5, 0, 1] [] [] rfl (ev1 rfl) (ec (ev1 rfl) en) rfl (by exact mfits _ _ ⟨rfl, arxd_fits hr, ptN_mpd rfl rfl rfl rfl, rfl, rfl, rfl, trivial⟩) (dot_d w h ds ts _ hr hc (dotsS w h ts (l.take k)) hs l[k]) rfl rfl rfl (by exact (wrc rfl (wrc (sb_arxn hr.nl) (wrc (sb_ptNm rfl) (wrc rfl (wrc rfl (wrc rfl rfl))))))) rfl rfl) (by simp only [upd, zaa, za]; exact rfl) ?_
    refine zae ?_
    refine zad ?_
    refine zab rfl rfl rfl (op_add' rfl (ev1 rfl) (ev1 rfl) (fun _ => IntWalk.i64_in _ (by omega))) ?_
    refine zab rfl rfl rfl (zac (.inl rfl) (ev1 rfl)) ?_
    refine zae ?_
    refine ⟨k + 1, [0, 1, 2, 3, 4, 5], by omega, by simp only []; omega, rfl, ⟨rfl, rfl, rfl, rfl, rfl, trivial⟩, ⟨rfl, rfl, arxd_fits hr, ptN_mpd (by rw [dotsS_take (by omega)]) rfl (by rw [dotsS_take (by omega)]) rfl, rfl, by rw [dotsS_take (by omega)]; rfl, trivial⟩⟩
  · try simp only [decide_eq_true_eq, decide_eq_false_iff_not, beq_iff_eq, bne_iff_ne, beq_eq_false_iff_ne, bne_eq_false_iff_eq, Bool.not_eq_true', Bool.not_eq_false', Bool.and_eq_true, Bool.or_eq_true, Bool.or_eq_false_iff, ne_eq, Decidable.not_not, Int.not_lt, Int.not_le] at c2
    refine dwp_exit ?_
    refine zaf ?_
    rw [List.take_of_length_le (by omega)] at *
    refine zad ?_
    refine zab rfl rfl rfl (zac (.inl rfl) (ev1 rfl)) ?_
    refine walk_i rfl rfl rfl (dop_callI [4, 2, 3, 5, 0, 1] [] rfl (ev1 rfl) (ec (ev1 rfl) en) rfl (by exact mfits _ _ ⟨rfl, arxd_fits hr, ptN_mpd rfl rfl rfl rfl, rfl, rfl, rfl, trivial⟩) (done_i w h ds ts _ hr hc _ (dotsS_ok hc l ts _ (dotOk_nil ts))) rfl rfl rfl rfl (fun I d hf => hf.nl hr (putsC_len ..))) (by simp only [upd, zaa, za]; exact rfl) ?_
    rintro I _ hI hP ⟨ps, h1, rfl⟩
    refine zab rfl rfl rfl (zac (.inr rfl) (ev1 rfl)) ?_
    refine zae ?_
    refine dwp_ret ?_
    refine kendI (post := fun I => FromCv I w h ds ts (putsC w h ts l)) (I := s0.I) (Mo := []) [] (rs1 rfl (rv_t rfl)) rfl rfl ?_ trivial
    exact ⟨ps, ⟨h1.len, h1.eq, fun q t h2 h3 => let ⟨b, h4, h5⟩ := h1.ne q t h2 h3; ⟨b, fun h6 => h4 (hI b h6), h5⟩⟩, rfl⟩
end Go.Proofs.YtjgnalfnginjbaaGreatDoor
namespace Go.Proofs.YtjgnalfnginjbaaGreatDoor
set_option maxRecDepth 4000
set_option linter.unusedVariables false
set_option linter.unusedSimpArgs false
open Go.RowKit
theorem with_d (w h : Int) (ds : List D) (ts : List TL) (hr : RowOk ds ts) (hc : CvOk w h ts) (l : List Dt) : DFun Tryz.prog 85 [cvD w h ds, .slf 6 l.length (l.flatMap dtC)] [] (cvD w h (dpR (putsC w h ts l))) [] :=
  (with_i w h ds ts hr hc l).fun fun I d hf => by
    obtain ⟨ps, h1, rfl⟩ := hf
    exact (h1.ok hr (putsC_len ..)).wkd w h
def D.adr : D → Nat
  | .pin b _ => b
  | _ => 0
def Pins (l : List D) : Prop := ∀ d ∈ l, ∃ b L, d = .pin b L
theorem Pins.at {l : List D} (h : Pins l) {k : Nat} (hk : k < l.length) : ∃ L, l[k] = .pin l[k].adr L := by
  obtain ⟨b, L, e⟩ := h l[k] (List.getElem_mem hk)
  rw [e]
  exact ⟨L, rfl⟩
end Go.Proofs.YtjgnalfnginjbaaGreatDoor
namespace Go.Proofs.YtjgnalfnginjbaaGreatDoor
set_option maxRecDepth 4000
set_option linter.unusedVariables false
set_option linter.unusedSimpArgs false
open Go.RowKit
theorem eq27 {a b : C4} : eqT Tryz.prog 9 27 (c4 a) (c4 b) = some (decide (a = b)) := by
  rw [← eqC_iff]
  exact (show eqT Tryz.prog 9 27 [.int .u8 a.r, .int .u8 a.g, .int .u8 a.b, .int .u8 a.a] [.int .u8 b.r, .int .u8 b.g, .int .u8 b.b, .int .u8 b.a] = some (eqC a b) by kernel_rfl)
theorem eq76 {a0 : Int} {a1 : Int} {b0 : Int} {b1 : Int} : eqT Tryz.prog 9 76 [.int .i64 a0, .int .i64 a1] [.int .i64 b0, .int .i64 b1] = some ((a0 == b0) && ((a1 == b1) && true)) := by kernel_rfl
theorem gd27 : Tryz.prog.eqGuardType Tryz.prog.depth 27 = false := by kernel_rfl
theorem gd76 : Tryz.prog.eqGuardType Tryz.prog.depth 76 = false := by kernel_rfl
theorem tb33 : tyB Tryz.prog 33 = some (false, 1) := by kernel_rfl
theorem tb4 : tyB Tryz.prog 4 = some (false, 1) := by kernel_rfl
def rowEq (w : Int) (ts us : List TL) (y n : Nat) : Bool := (List.range n).all fun (x : Nat) => decide (getC w ts (x : Int) (y : Int) = getC w us (x : Int) (y : Int))
def allEq (w : Int) (ts us : List TL) (W n : Nat) : Bool := (List.range n).all fun (y : Nat) => rowEq w ts us y W
def sameF (w h : Int) (ts us : List TL) : Bool := allEq w ts us (w * 8).toNat (h * 8).toNat
theorem pl_back {w : Int} {p q : Nat} (hw : 1 ≤ w) (hq : q < 64) : plN w ((p : Int) % w * 8 + (q : Int) % 8) ((p : Int) / w * 8 + (q : Int) / 8) = p ∧ pxN ((p : Int) % w * 8 + (q : Int) % 8) ((p : Int) / w * 8 + (q : Int) / 8) = q := by
  have h1 := Int.emod_nonneg (p : Int) (show w ≠ 0 by omega)
  have h2 : (0 : Int) ≤ (p : Int) / w := Int.ediv_nonneg (by omega) (by omega)
  have e := Int.mul_ediv_add_emod (p : Int) w
  unfold plN pxN
  generalize (p : Int) % w = r at h1 e ⊢
  generalize (p : Int) / w = d at h2 e ⊢
  have e1 : (d * 8 + (q : Int) / 8) / 8 = d := by omega
  have e2 : (r * 8 + (q : Int) % 8) / 8 = r := by omega
  have e3 : (d * 8 + (q : Int) / 8) % 8 = (q : Int) / 8 := by omega
  have e4 : (r * 8 + (q : Int) % 8) % 8 = (q : Int) % 8 := by omega
  rw [e1, e2, e3, e4, Int.mul_comm d w]
  omega
theorem on_back {w h : Int} {p q : Nat} (hm : mayS w h = true) (hp : (p : Int) < w * h) (hq : q < 64) : onS w h ((p : Int) % w * 8 + (q : Int) % 8) ((p : Int) / w * 8 + (q : Int) / 8) = true := by
  have hb := mayS_b hm
  have h1 := Int.emod_nonneg (p : Int) (show w ≠ 0 by omega)
  have h3 := Int.emod_lt_of_pos (p : Int) (show 0 < w by omega)
  have h2 : (0 : Int) ≤ (p : Int) / w := Int.ediv_nonneg (by omega) (by omega)
  have h4 : (p : Int) / w < h := Int.ediv_lt_of_lt_mul (by omega) (by rw [Int.mul_comm h w]; exact hp)
  exact onS_iff.2 ⟨by omega, by omega⟩
theorem sameF_iff {w h : Int} {ts us : List TL} (hc : CvOk w h ts) (hd : CvOk w h us) : sameF w h ts us = decide (ts = us) := by
  rw [Bool.eq_iff_iff]
  have hb := mayS_b hc.may
  have l1 := hc.len
  have l2 := hd.len
  constructor
  · intro h1
    rw [decide_eq_true_eq]
    apply List.ext_getElem (by omega)
    intro p hp hp2
    apply TL.ext
    apply List.ext_getElem (by rw [TL.h, TL.h])
    intro q hq hq2
    rw [TL.h] at hq
    have ho := on_back (p := p) (q := q) hc.may (by omega) hq
    obtain ⟨e1, e2⟩ := pl_back (w := w) (p := p) (q := q) (by omega) hq
    have hxy := onS_iff.1 ho
    generalize hX : (p : Int) % w * 8 + (q : Int) % 8 = X at ho e1 e2 hxy
    generalize hY : (p : Int) / w * 8 + (q : Int) / 8 = Y at ho e1 e2 hxy
    have h2 := List.all_eq_true.1 h1 Y.toNat (List.mem_range.2 (by omega))
    have h3 := List.all_eq_true.1 h2 X.toNat (List.mem_range.2 (by omega))
    rw [decide_eq_true_eq, show ((X.toNat : Nat) : Int) = X by omega, show ((Y.toNat : Nat) : Int) = Y by omega] at h3
    unfold getC at h3
    rw [e1, e2, tl_at hp, tl_at hp2] at h3
    unfold TL.get at h3
    rw [List.getD_eq_getElem?_getD, List.getD_eq_getElem?_getD, List.getElem?_eq_getElem (by rw [TL.h]; exact hq), List.getElem?_eq_getElem (by rw [TL.h]; exact hq)] at h3
    exact h3
  · intro h1
    have h1 : ts = us := by simpa using h1
    subst h1
    exact List.all_eq_true.2 fun y _ => List.all_eq_true.2 fun x _ => by simp
set_option maxRecDepth 4000 in
set_option maxHeartbeats 1000000 in
theorem points_d (w h : Int) (hm : mayS w h = true) : DFun Tryz.prog 78 [.val (.agg #[.int .i64 w, .int .i64 h])] [] (.fn (.func 101) [] [.loc 0 0, .loc 1 0]) [.flat 3 [.int .i64 (h * 8)], .flat 3 [.int .i64 (w * 8)]] := by
  refine zal (N := 11) 0 (by kernel_rfl) Tryz.func78 rfl rfl rfl (by simp only [fr0, Nat.zero_add, Nat.reduceAdd]; exact rfl) rfl fun s0 hs0 => ?_
  refine zaf ?_
  refine zah 1 (by simp only [holes, List.cons_append, List.nil_append]; exact rfl) ?_
  refine zad ?_
  refine zaj rfl rfl rfl (op_boxa 0 rfl (ev1 rfl) rfl) (by simp only [upd, zaa, za]; exact rfl) ?_
  refine zab rfl rfl rfl (zac (.inr rfl) (ev1 rfl)) ?_
  refine zae ?_
  refine zaf ?_
  refine zah 2 (by simp only [holes, List.cons_append, List.nil_append]; exact rfl) ?_
  refine zad ?_
  refine zab rfl rfl rfl (op_ldw rfl tb76 (ev1 rfl) rfl rfl) ?_
  refine zab rfl rfl rfl (zai [] [] [] rfl (ev1 rfl) (ec (ev1 rfl) en) rfl rfl (spix_d w h hm) rfl rfl rfl rfl rfl rfl) ?_
  refine zab rfl rfl rfl (zac (.inl rfl) (ev1 rfl)) ?_
  refine zab rfl rfl rfl (op_ext rfl (ev1 rfl) rfl) ?_
  refine zab rfl rfl rfl (op_ext rfl (ev1 rfl) rfl) ?_
  refine zaj rfl rfl rfl (op_alloc 1 rfl zr3 rfl) (by simp only [upd, zaa, za]; exact rfl) ?_
  refine zaj rfl rfl rfl (op_alloc 2 rfl zr3 rfl) (by simp only [upd, zaa, za]; exact rfl) ?_
  refine walk_s rfl rfl (op_stwi rfl tb3 (ev1 rfl) (ev1 rfl) rfl) (by simp only [upd, zaa, za]; exact rfl) ?_
  refine walk_s rfl rfl (op_stwi rfl tb3 (ev1 rfl) (ev1 rfl) rfl) (by simp only [upd, zaa, za]; exact rfl) ?_
  refine zae ?_
  refine zaf ?_
  refine zad ?_
  refine zab rfl rfl rfl (op_mkf rfl en (ec (ev1 rfl) (ec (ev1 rfl) en))) ?_
  refine zab rfl rfl rfl (zac (.inr rfl) (ev1 rfl)) ?_
  refine zae ?_
  refine dwp_ret ?_
  refine kend [2, 1] (rs1 rfl (rv_t rfl)) rfl rfl ?_ ⟨rfl, rfl, trivial⟩
  rfl
end Go.Proofs.YtjgnalfnginjbaaGreatDoor
namespace Go.Proofs.YtjgnalfnginjbaaGreatDoor
set_option maxRecDepth 4000
set_option linter.unusedVariables false
set_option linter.unusedSimpArgs false
open Go.RowKit
theorem tb48 : tyB Tryz.prog 48 = some (false, 1) := by kernel_rfl
theorem zr48 : zrC Tryz.prog 48 = some [.slice none 0 0] := by kernel_rfl
noncomputable def difA : Code := rfA (pth [1, 1, 1, 0, 1, 0] (bodyOf Tryz.f37))
noncomputable def difB : Code := rfB (pth [1, 1, 1, 0, 1, 0] (bodyOf Tryz.f37))
abbrev rowP (l : List P2) : Mem := .arr 51 2 l.length (l.flatMap p2)
def fmP (l : List P2) : List Mem := List.replicate l.length .gone ++ [rowP l]
theorem fmP_at (l : List P2) : (fmP l)[l.length]? = some (rowP l) := by
  unfold fmP
  rw [List.getElem?_append_right (by simp)]
  simp
theorem fmP_len (l : List P2) : (fmP l).length = (l.length) + 1 := by simp [fmP]
theorem fmP_add (l : List P2) (p : P2) : (fmP l).set l.length .gone ++ [Mem.arr 51 2 (l.length + 1) (l.flatMap p2 ++ p2 p)] = fmP (l ++ [p]) := by
  unfold fmP
  rw [List.set_append_right _ _ (by simp), List.length_append, List.length_replicate, Nat.sub_self, show l.length + [p].length = l.length + 1 from rfl, List.replicate_succ']
  simp [rowP, List.flatMap_append]
set_option maxRecDepth 4000 in
set_option maxHeartbeats 1000000 in
theorem difRound_yes (w h : Int) (da db : List D) (ts us : List TL) (ra : RowOk da ts) (rb : RowOk db us) (ca : CvOk w h ts) (cb : CvOk w h us) (x y : Int) (ho : onS w h x y = true) (l : List P2) (hl : l.length ≤ 5000) (h1 : getC w ts x y ≠ getC w us x y) : DRound Tryz.prog 0 [.val (.agg #[.int .i64 x, .int .i64 y])] [.lp 42 [(2, .loc 1 0), (3, .loc 2 0), (5, .loc 3 0)] #[29] difA difB .ready none, .mix 33 [cvD w h da], .mix 33 [cvD w h db], .mix 48 [.farr 4 (l).length], .fam (fmP (l))] true [.lp 42 [(2, .loc 1 0), (3, .loc 2 0), (5, .loc 3 0)] #[29] difA difB .ready none, .mix 33 [cvD w h da], .mix 33 [cvD w h db], .mix 48 [.farr 4 (l ++ [(⟨x, y⟩ : P2)]).length], .fam (fmP (l ++ [(⟨x, y⟩ : P2)]))] := by
  refine dround_go 5 rfl rfl (by simp) rfl rfl fun s0 hs0 => ?_
  refine zah 1 (by simp only [holes, List.cons_append, List.nil_append]; exact rfl) ?_
  refine zad ?_
  refine zaj rfl rfl rfl (op_alloc 5 rfl zr51 rfl) (by simp only [upd, zaa, za]; exact rfl) ?_
  refine walk_s rfl rfl (op_stwa rfl tb51 (ev1 rfl) (ev1 rfl) rfl rfl rfl rfl) (by simp only [upd, zaa, za]; exact rfl) ?_
  refine zae ?_
  refine ⟨rfl, ?_⟩
  simp only [zaa, za]
  refine dwp_block ?_
  refine zaf ?_
  refine dwp_draw [([1], []), ([5], []), ([], []), ([2], []), ([5], []), ([], []), ([], [])] mixed (by kernel_rfl) ?_
  refine zag rfl rfl (op_ldm rfl tb33 (ev1 rfl) rfl rfl) ?_
  refine zag rfl rfl (op_ldw rfl tb51 (ev1 rfl) rfl rfl) ?_
  refine zag rfl rfl (zai [] [] [] rfl (ev1 rfl) (ec (ev1 rfl) (ec (ev1 rfl) en)) rfl rfl (color_d w h da ts ra ca x y ho) rfl rfl rfl rfl rfl rfl) ?_
  refine zag rfl rfl (op_ldm rfl tb33 (ev1 rfl) rfl rfl) ?_
  refine zag rfl rfl (op_ldw rfl tb51 (ev1 rfl) rfl rfl) ?_
  refine zag rfl rfl (zai [] [] [] rfl (ev1 rfl) (ec (ev1 rfl) (ec (ev1 rfl) en)) rfl rfl (color_d w h db us rb cb x y ho) rfl rfl rfl rfl rfl rfl) ?_
  refine zag rfl rfl (op_ner eq27 rfl gd27 tb27 (ev1 rfl) (ev1 rfl)) ?_
  refine lex_nil ?_
  refine dwp_if_t rfl (by simpa using h1) ?_
  refine zah 2 (by simp only [holes, List.cons_append, List.nil_append]; exact rfl) ?_
  refine zad ?_
  refine zab rfl rfl rfl (op_ldm rfl tb48 (ev1 rfl) rfl rfl) ?_
  refine zab rfl rfl rfl (op_ldw rfl tb51 (ev1 rfl) rfl rfl) ?_
  refine zab rfl rfl rfl (op_bs (ps := [(0, .tmp 38)]) rfl sl48 zr51 rfl (vc (ev1 rfl) vn) rfl (by decide) (by decide)) ?_
  refine zaj rfl rfl rfl (op_appF (j1 := 6) (j2 := 7) rfl rfl sl48 zr51 rfl (ev1 rfl) (ev1 rfl) rfl (fmP_at l) rfl rfl rfl (fun _ => rfl) (fun _ => ⟨by omega, by omega⟩)) (by simp only [upd, zaa, za]; exact rfl) ?_
  refine walk_s rfl rfl (op_stm rfl tb48 (ev1 rfl) (ev1 rfl) (fun s v h => by cases h <;> exact ⟨rfl, rfl⟩) rfl (by first | decide | exact Nat.le_of_ble_eq_true rfl | simp)) (by simp only [upd, zaa, za]; exact rfl) ?_
  refine zae ?_
  refine ⟨by first | rfl | assumption | simp_all, rfl, [0, 1, 2, 3, 4], rfl, ⟨rfl, rfl, rfl, by rw [fmP_len, List.length_append]; rfl, by rw [← fmP_add]; rfl, trivial⟩⟩
set_option maxRecDepth 4000 in
set_option maxHeartbeats 1000000 in
theorem difRound_no (w h : Int) (da db : List D) (ts us : List TL) (ra : RowOk da ts) (rb : RowOk db us) (ca : CvOk w h ts) (cb : CvOk w h us) (x y : Int) (ho : onS w h x y = true) (l : List P2) (hl : l.length ≤ 5000) (h1 : getC w ts x y = getC w us x y) : DRound Tryz.prog 0 [.val (.agg #[.int .i64 x, .int .i64 y])] [.lp 42 [(2, .loc 1 0), (3, .loc 2 0), (5, .loc 3 0)] #[29] difA difB .ready none, .mix 33 [cvD w h da], .mix 33 [cvD w h db], .mix 48 [.farr 4 (l).length], .fam (fmP (l))] true [.lp 42 [(2, .loc 1 0), (3, .loc 2 0), (5, .loc 3 0)] #[29] difA difB .ready none, .mix 33 [cvD w h da], .mix 33 [cvD w h db], .mix 48 [.farr 4 (l).length], .fam (fmP (l))] := by
  refine dround_go 5 rfl rfl (by simp) rfl rfl fun s0 hs0 => ?_
  refine zah 1 (by simp only [holes, List.cons_append, List.nil_append]; exact rfl) ?_
  refine zad ?_
  refine zaj rfl rfl rfl (op_alloc 5 rfl zr51 rfl) (by simp only [upd, zaa, za]; exact rfl) ?_
  refine walk_s rfl rfl (op_stwa rfl tb51 (ev1 rfl) (ev1 rfl) rfl rfl rfl rfl) (by simp only [upd, zaa, za]; exact rfl) ?_
  refine zae ?_
  refine ⟨rfl, ?_⟩
  simp only [zaa, za]
  refine dwp_block ?_
  refine zaf ?_
  refine dwp_draw [([1], []), ([5], []), ([], []), ([2], []), ([5], []), ([], []), ([], [])] mixed (by kernel_rfl) ?_
  refine zag rfl rfl (op_ldm rfl tb33 (ev1 rfl) rfl rfl) ?_
  refine zag rfl rfl (op_ldw rfl tb51 (ev1 rfl) rfl rfl) ?_
  refine zag rfl rfl (zai [] [] [] rfl (ev1 rfl) (ec (ev1 rfl) (ec (ev1 rfl) en)) rfl rfl (color_d w h da ts ra ca x y ho) rfl rfl rfl rfl rfl rfl) ?_
  refine zag rfl rfl (op_ldm rfl tb33 (ev1 rfl) rfl rfl) ?_
  refine zag rfl rfl (op_ldw rfl tb51 (ev1 rfl) rfl rfl) ?_
  refine zag rfl rfl (zai [] [] [] rfl (ev1 rfl) (ec (ev1 rfl) (ec (ev1 rfl) en)) rfl rfl (color_d w h db us rb cb x y ho) rfl rfl rfl rfl rfl rfl) ?_
  refine zag rfl rfl (op_ner eq27 rfl gd27 tb27 (ev1 rfl) (ev1 rfl)) ?_
  refine lex_nil ?_
  refine dwp_if_f rfl (by simpa using h1) ?_
  refine dwp_skip ?_
  refine ⟨by first | rfl | assumption | simp_all, rfl, [0, 1, 2, 3, 4], rfl, ⟨rfl, rfl, rfl, rfl, rfl, trivial⟩⟩
set_option maxRecDepth 4000 in
set_option maxHeartbeats 1000000 in
theorem pts_dif (w h : Int) (da db : List D) (ts us : List TL) (ra : RowOk da ts) (rb : RowOk db us) (ca : CvOk w h ts) (cb : CvOk w h us) : DFun Tryz.prog 101 [.yld 0, .loc 5 0, .loc 6 0] [.lp 42 [(2, .loc 1 0), (3, .loc 2 0), (5, .loc 3 0)] #[29] difA difB .ready none, .mix 33 [cvD w h da], .mix 33 [cvD w h db], .mix 48 [.farr 4 (([] : List P2)).length], .fam (fmP (([] : List P2))), .flat 3 [.int .i64 (h * 8)], .flat 3 [.int .i64 (w * 8)]] (.tup []) [.lp 42 [(2, .loc 1 0), (3, .loc 2 0), (5, .loc 3 0)] #[29] difA difB .ready none, .mix 33 [cvD w h da], .mix 33 [cvD w h db], .mix 48 [.farr 4 (difC w h ts us).length], .fam (fmP (difC w h ts us)), .flat 3 [.int .i64 (h * 8)], .flat 3 [.int .i64 (w * 8)]] := by
  have hb := mayS_b ca.may
  refine zal (N := 22) 7 (by kernel_rfl) Tryz.func101 rfl rfl rfl (by simp only [fr0, Nat.zero_add, Nat.reduceAdd]; exact rfl) rfl fun s0 hs0 => ?_
  refine zaf ?_
  refine zad ?_
  refine zab rfl rfl rfl (op_ldo rfl tb3 (ev1 rfl) rfl rfl) ?_
  refine zab rfl rfl rfl (zac (.inl rfl) (ev1 rfl)) ?_
  refine zae ?_
  refine dwp_block ?_
  refine dwp_loopS ⟨hs0, rfl⟩ (α := Nat) (fun y => [(7, .val (.int .i64 (y : Int)))]) [(0, _), (2, _), (6, _)] (fun y => [(3, .mix 48 [.farr 4 (difU w ts us (w * 8).toNat y).length]), (4, .fam (fmP (difU w ts us (w * 8).toNat y)))]) [_, _, _, .hole, .hole, _, _] (fun y => (y : Int) ≤ h * 8) (fun y => (h * 8).toNat - y) 0 [0, 1, 2, 3, 4, 5, 6] (by omega) rfl ⟨rfl, rfl, rfl, trivial⟩ ⟨rfl, trivial⟩ ⟨rfl, rfl, rfl, rfl, rfl, rfl, rfl, trivial⟩ ?_
  intro y hx
  simp only [upd, zaa, za, List.cons_append, List.nil_append]
  have hy := hx
  have hlU := difU_len w ts us (w * 8).toNat y
  have hlU2 : y * (w * 8).toNat ≤ 32 * 32 := Nat.mul_le_mul (by omega) (by omega)
  refine zaf ?_
  refine zad ?_
  refine zab rfl rfl rfl (op_lss rfl (ev1 rfl) (ev1 rfl)) ?_
  refine zae ?_
  refine zaf ?_
  refine dwp_cond rfl (fun c1 => ?_) (fun c1 => ?_)
  · try simp only [decide_eq_true_eq, decide_eq_false_iff_not, beq_iff_eq, bne_iff_ne, beq_eq_false_iff_ne, bne_eq_false_iff_eq, Bool.not_eq_true', Bool.not_eq_false', Bool.and_eq_true, Bool.or_eq_true, Bool.or_eq_false_iff, ne_eq, Decidable.not_not, Int.not_lt, Int.not_le] at c1
    refine dwp_skip ?_
    refine zaf ?_
    refine dwp_block ?_
    refine zaf ?_
    refine zad ?_
    refine zab rfl rfl rfl (zac (.inl rfl) (ev1 rfl)) ?_
    refine zab rfl rfl rfl (zac (.inr rfl) (ev1 rfl)) ?_
    refine zae ?_
    refine zaf ?_
    refine zad ?_
    refine zab rfl rfl rfl (op_ldo rfl tb3 (ev1 rfl) rfl rfl) ?_
    refine zab rfl rfl rfl (zac (.inl rfl) (ev1 rfl)) ?_
    refine zae ?_
    refine dwp_block ?_
    refine dwp_loopS ⟨hs0, rfl⟩ (α := Nat) (fun x => [(11, .val (.int .i64 (x : Int)))]) [(0, _), (2, _), (4, _), (6, _), (7, _), (10, _)] (fun x => [(3, .mix 48 [.farr 4 (difU w ts us (w * 8).toNat y ++ difR w ts us y x).length]), (4, .fam (fmP (difU w ts us (w * 8).toNat y ++ difR w ts us y x)))]) [_, _, _, .hole, .hole, _, _] (fun x => (x : Int) ≤ w * 8) (fun x => (w * 8).toNat - x) 0 [0, 1, 2, 3, 4, 5, 6] (by omega) rfl ⟨rfl, rfl, rfl, rfl, rfl, rfl, trivial⟩ ⟨rfl, trivial⟩ ⟨rfl, rfl, rfl, by rw [difR_0, List.append_nil]; rfl, by rw [difR_0, List.append_nil]; rfl, rfl, rfl, trivial⟩ ?_
    intro x hx
    simp only [upd, zaa, za, List.cons_append, List.nil_append]
    have hx2 := hx
    have hlR := difR_len w ts us y x
    have hlL : (difU w ts us (w * 8).toNat y ++ difR w ts us y x).length ≤ 5000 := by rw [List.length_append]; omega
    refine zaf ?_
    refine zad ?_
    refine zab rfl rfl rfl (op_lss rfl (ev1 rfl) (ev1 rfl)) ?_
    refine zae ?_
    refine zaf ?_
    refine dwp_cond rfl (fun c2 => ?_) (fun c2 => ?_)
    · try simp only [decide_eq_true_eq, decide_eq_false_iff_not, beq_iff_eq, bne_iff_ne, beq_eq_false_iff_ne, bne_eq_false_iff_eq, Bool.not_eq_true', Bool.not_eq_false', Bool.and_eq_true, Bool.or_eq_true, Bool.or_eq_false_iff, ne_eq, Decidable.not_not, Int.not_lt, Int.not_le] at c2
      refine dwp_skip ?_
      refine zaf ?_
      refine dwp_block ?_
      refine zaf ?_
      refine zad ?_
      refine zab rfl rfl rfl (zac (.inl rfl) (ev1 rfl)) ?_
      refine zab rfl rfl rfl (zac (.inr rfl) (ev1 rfl)) ?_
      refine zae ?_
      refine zaf ?_
      by_cases hne : getC w ts (x : Int) (y : Int) ≠ getC w us (x : Int) (y : Int)
      · have ho : onS w h (x : Int) (y : Int) = true := onS_iff.2 ⟨by omega, by omega⟩
        refine zad ?_
        refine zab rfl rfl rfl (zac (.inl rfl) (ev1 rfl)) ?_
        refine zab rfl rfl rfl (zac (.inl rfl) (ev1 rfl)) ?_
        refine zab rfl rfl rfl (zac (.inl rfl) (ev1 rfl)) ?_
        refine zab rfl rfl rfl (op_build (ps := [(0, .tmp 15), (1, .tmp 16)]) rfl fl51 zr51 (vc (ev1 rfl) (vc (ev1 rfl) vn)) rfl rfl) ?_
        refine zaj rfl rfl rfl (op_y (i := 0) [0, 1, 2, 3, 4] [] [] rfl (ev1 rfl) (ec (ev1 rfl) en) rfl rfl rfl (difRound_yes w h da db ts us ra rb ca cb x y ho _ hlL hne) rfl rfl rfl rfl rfl) (by simp only [upd, zaa, za]; exact rfl) ?_
        refine zab rfl rfl rfl (op_not rfl (ev1 rfl)) ?_
        refine zae ?_
        refine dwp_if_f rfl (rfl) ?_
        refine dwp_skip ?_
        refine zad ?_
        refine zab rfl rfl rfl (op_add' rfl (ev1 rfl) (ev1 rfl) (fun _ => IntWalk.i64_in _ (by omega))) ?_
        refine zab rfl rfl rfl (zac (.inl rfl) (ev1 rfl)) ?_
        refine zae ?_
        refine ⟨x + 1, [0, 1, 2, 3, 4, 5, 6], by omega, by simp only []; omega, rfl, ⟨rfl, rfl, rfl, rfl, rfl, rfl, rfl, trivial⟩, ⟨rfl, rfl, rfl, by rw [difR_yes hne, ← List.append_assoc]; rfl, by rw [difR_yes hne, ← List.append_assoc]; rfl, rfl, rfl, trivial⟩⟩
      · have ho : onS w h (x : Int) (y : Int) = true := onS_iff.2 ⟨by omega, by omega⟩
        refine zad ?_
        refine zab rfl rfl rfl (zac (.inl rfl) (ev1 rfl)) ?_
        refine zab rfl rfl rfl (zac (.inl rfl) (ev1 rfl)) ?_
        refine zab rfl rfl rfl (zac (.inl rfl) (ev1 rfl)) ?_
        refine zab rfl rfl rfl (op_build (ps := [(0, .tmp 15), (1, .tmp 16)]) rfl fl51 zr51 (vc (ev1 rfl) (vc (ev1 rfl) vn)) rfl rfl) ?_
        refine zaj rfl rfl rfl (op_y (i := 0) [0, 1, 2, 3, 4] [] [] rfl (ev1 rfl) (ec (ev1 rfl) en) rfl rfl rfl (difRound_no w h da db ts us ra rb ca cb x y ho _ hlL (by simpa using hne)) rfl rfl rfl rfl rfl) (by simp only [upd, zaa, za]; exact rfl) ?_
        refine zab rfl rfl rfl (op_not rfl (ev1 rfl)) ?_
        refine zae ?_
        refine dwp_if_f rfl (rfl) ?_
        refine dwp_skip ?_
        refine zad ?_
        refine zab rfl rfl rfl (op_add' rfl (ev1 rfl) (ev1 rfl) (fun _ => IntWalk.i64_in _ (by omega))) ?_
        refine zab rfl rfl rfl (zac (.inl rfl) (ev1 rfl)) ?_
        refine zae ?_
        refine ⟨x + 1, [0, 1, 2, 3, 4, 5, 6], by omega, by simp only []; omega, rfl, ⟨rfl, rfl, rfl, rfl, rfl, rfl, rfl, trivial⟩, ⟨rfl, rfl, rfl, by rw [difR_no (by simpa using hne)]; rfl, by rw [difR_no (by simpa using hne)]; rfl, rfl, rfl, trivial⟩⟩
    · try simp only [decide_eq_true_eq, decide_eq_false_iff_not, beq_iff_eq, bne_iff_ne, beq_eq_false_iff_ne, bne_eq_false_iff_eq, Bool.not_eq_true', Bool.not_eq_false', Bool.and_eq_true, Bool.or_eq_true, Bool.or_eq_false_iff, ne_eq, Decidable.not_not, Int.not_lt, Int.not_le] at c2
      refine dwp_exit ?_
      refine zad ?_
      refine zab rfl rfl rfl (op_add' rfl (ev1 rfl) (ev1 rfl) (fun _ => IntWalk.i64_in _ (by omega))) ?_
      refine zab rfl rfl rfl (zac (.inl rfl) (ev1 rfl)) ?_
      refine zae ?_
      obtain rfl : x = (w * 8).toNat := by omega
      refine ⟨y + 1, [0, 1, 2, 3, 4, 5, 6], by omega, by simp only []; omega, rfl, ⟨rfl, rfl, rfl, rfl, trivial⟩, ⟨rfl, rfl, rfl, by rw [difU_succ]; rfl, by rw [difU_succ]; rfl, rfl, rfl, trivial⟩⟩
  · try simp only [decide_eq_true_eq, decide_eq_false_iff_not, beq_iff_eq, bne_iff_ne, beq_eq_false_iff_ne, bne_eq_false_iff_eq, Bool.not_eq_true', Bool.not_eq_false', Bool.and_eq_true, Bool.or_eq_true, Bool.or_eq_false_iff, ne_eq, Decidable.not_not, Int.not_lt, Int.not_le] at c1
    refine dwp_exit ?_
    obtain rfl : y = (h * 8).toNat := by omega
    refine kend [0, 1, 2, 3, 4, 5, 6] (res_none rfl) rfl rfl ?_ ⟨rfl, rfl, rfl, rfl, rfl, rfl, rfl, trivial⟩
    rfl
set_option maxRecDepth 4000 in
set_option maxHeartbeats 1000000 in
theorem differ_d (w h : Int) (da db : List D) (ts us : List TL) (ra : RowOk da ts) (rb : RowOk db us) (ca : CvOk w h ts) (cb : CvOk w h us) : DFun Tryz.prog 37 [cvD w h da, cvD w h db] [] (.slf 2 (difC w h ts us).length ((difC w h ts us).flatMap p2)) [] := by
  refine zal (N := 42) 0 (by kernel_rfl) Tryz.func37 rfl rfl rfl (by simp only [fr0, Nat.zero_add, Nat.reduceAdd]; exact rfl) rfl fun s0 hs0 => ?_
  refine zaf ?_
  refine zah 2 (by simp only [holes, List.cons_append, List.nil_append]; exact rfl) ?_
  refine zad ?_
  refine zaj rfl rfl rfl (op_boxm 0 rfl (ev1 rfl) (fun s v h => by cases h <;> rfl) rfl) (by simp only [upd, zaa, za]; exact rfl) ?_
  refine zaj rfl rfl rfl (op_boxm 1 rfl (ev1 rfl) (fun s v h => by cases h <;> rfl) rfl) (by simp only [upd, zaa, za]; exact rfl) ?_
  refine zab rfl rfl rfl (zac (.inr rfl) (ev1 rfl)) ?_
  refine zae ?_
  refine zaf ?_
  refine zaf ?_
  refine dwp_draw [([0], []), ([], []), ([], []), ([1], []), ([], []), ([], []), ([], []), ([0], []), ([], []), ([], []), ([], []), ([1], []), ([], []), ([], []), ([], []), ([], []), ([], [])] mixed (by kernel_rfl) ?_
  refine zag rfl rfl (op_ldm rfl tb33 (ev1 rfl) rfl rfl) ?_
  refine zag rfl rfl (op_pnilm rfl pt33 (ev1 rfl)) ?_
  refine zag rfl rfl (zac (.inl rfl) (ev1 rfl)) ?_
  refine lex_gr (gd_f rfl rfl rfl) rfl rfl (op_ldm rfl tb33 (ev1 rfl) rfl rfl) ?_
  refine lex_gr (gd_f rfl rfl rfl) rfl rfl (op_pnilm rfl pt33 (ev2 rfl)) ?_
  refine zag rfl rfl (op_or rfl (ev1 rfl) (ev3 rfl id)) ?_
  refine zag rfl rfl (zac (.inl rfl) (ev1 rfl)) ?_
  refine lex_gr (gd_f rfl rfl rfl) rfl rfl (op_ldm rfl tb33 (ev1 rfl) rfl rfl) ?_
  refine lex_gr (gd_f rfl rfl rfl) rfl rfl (op_nc rfl (ev2 rfl) (fun s v h => by cases h; exact ⟨_, rfl⟩)) ?_
  refine lex_gr (gd_f rfl rfl rfl) rfl rfl (op_fadm rfl fo82_0 (ev2 rfl)) ?_
  refine lex_gr (gd_f rfl rfl rfl) rfl rfl (op_lddv [_, _] rfl tb76 (ev2 rfl) rfl rfl) ?_
  refine lex_gr (gd_f rfl rfl rfl) rfl rfl (op_ldm rfl tb33 (ev1 rfl) rfl rfl) ?_
  refine lex_gr (gd_f rfl rfl rfl) rfl rfl (op_nc rfl (ev2 rfl) (fun s v h => by cases h; exact ⟨_, rfl⟩)) ?_
  refine lex_gr (gd_f rfl rfl rfl) rfl rfl (op_fadm rfl fo82_0 (ev2 rfl)) ?_
  refine lex_gr (gd_f rfl rfl rfl) rfl rfl (op_lddv [_, _] rfl tb76 (ev2 rfl) rfl rfl) ?_
  refine lex_gr (gd_f rfl rfl rfl) rfl rfl (op_ner eq76 rfl gd76 tb76 (ev2 rfl) (ev2 rfl)) ?_
  refine zag rfl rfl (op_or rfl (ev1 rfl) (ev3 rfl id)) ?_
  refine lex_nil ?_
  refine dwp_if_f rfl (by simp) ?_
  refine dwp_skip ?_
  refine zaf ?_
  refine zah 1 (by simp only [holes, List.cons_append, List.nil_append]; exact rfl) ?_
  refine zad ?_
  refine zaj rfl rfl rfl (op_alloc 2 rfl zr48 rfl) (by simp only [upd, zaa, za]; exact rfl) ?_
  refine zae ?_
  refine zaf ?_
  refine zaf ?_
  refine zah 2 (by simp only [holes, List.cons_append, List.nil_append]; exact rfl) ?_
  refine zad ?_
  refine zab rfl rfl rfl (op_ldm rfl tb33 (ev1 rfl) rfl rfl) ?_
  refine zab rfl rfl rfl (op_nc rfl (ev1 rfl) (fun s v h => by cases h; exact ⟨_, rfl⟩)) ?_
  refine zab rfl rfl rfl (op_fadm rfl fo82_0 (ev1 rfl)) ?_
  refine zab rfl rfl rfl (op_lddv [_, _] rfl tb76 (ev1 rfl) rfl rfl) ?_
  refine zaj rfl rfl rfl (zai [] [] [3, 4] rfl (ev1 rfl) (ec (ev1 rfl) en) rfl rfl (points_d w h ca.may) rfl rfl rfl rfl rfl rfl) (by simp only [upd, zaa, za]; exact rfl) ?_
  refine zae ?_
  refine dwp_block ?_
  refine dwp_adoptm 2 51 2 rfl (by simp only [List.cons_append, List.nil_append, zaa, za, List.length_cons, List.length_nil, Nat.zero_add, Nat.reduceAdd]; exact rfl) ?_
  refine dwp_hole ?_
  refine dwp_fam 6 rfl (by simp only [List.cons_append, List.nil_append, zaa, za]; exact rfl) ?_
  refine dwp_absc 2 0 6 rfl rfl rfl rfl (by simp only [List.cons_append, List.nil_append, zaa, za]; exact rfl) ?_
  refine dwp_hole ?_
  simp only [List.cons_append, List.nil_append]
  refine dwp_rf (FL := [(2, _), (3, _), (5, _)]) (st := .ready) (pe := none) [7, 0, 1, 2, 6, 3, 4] [] [] 7 rfl rfl (ev1 rfl) rfl (subF_lk ⟨rfl, rfl, rfl, trivial⟩) rfl rfl rfl (pts_dif w h da db ts us ra rb ca cb) rfl rfl rfl rfl rfl rfl rfl (by simp) (fun e => ?_) (fun c e => ?_)
  · simp only [upd, zaa, za]
    refine zaf ?_
    refine zad ?_
    refine zab rfl rfl rfl (op_ldm rfl tb48 (ev1 rfl) rfl rfl) ?_
    refine zab rfl rfl rfl (zac (.inr rfl) (ev1 rfl)) ?_
    refine zae ?_
    refine dwp_hole ?_
    refine dwp_rel 4 6 (j := 8) rfl rfl (fmP_at _) rfl (by simp only [List.cons_append, List.nil_append, zaa, za]; exact rfl) ?_
    refine dwp_giveA 4 rfl rfl (by simp only [List.cons_append, List.nil_append, zaa, za]; exact rfl) ?_
    refine dwp_ret ?_
    refine kend0 (rs1 rfl (rv_t rfl)) rfl ?_
    rfl
  · cases e
end Go.Proofs.YtjgnalfnginjbaaGreatDoor
namespace Go.Proofs.YtjgnalfnginjbaaGreatDoor
set_option maxRecDepth 4000
set_option linter.unusedVariables false
set_option linter.unusedSimpArgs false
open Go.RowKit
theorem ar131 : arE Tryz.prog 131 = some (4, 1) := by kernel_rfl
theorem ar176 : arE Tryz.prog 176 = some (4, 1) := by kernel_rfl
theorem ar178 : arE Tryz.prog 178 = some (4, 1) := by kernel_rfl
theorem fl161 : fdL Tryz.prog 161 = some [(0, 4)] := by kernel_rfl
theorem fo161_0 : fdO Tryz.prog 161 0 = some 0 := by kernel_rfl
theorem fo27_0 : fdO Tryz.prog 27 0 = some 0 := by kernel_rfl
theorem fo27_1 : fdO Tryz.prog 27 1 = some 1 := by kernel_rfl
theorem fo27_2 : fdO Tryz.prog 27 2 = some 2 := by kernel_rfl
theorem fo27_3 : fdO Tryz.prog 27 3 = some 3 := by kernel_rfl
theorem kn3 : knd Tryz.prog 3 = some .i64 := by kernel_rfl
theorem kn5 : knd Tryz.prog 5 = some .u8 := by kernel_rfl
theorem tb131 : tyB Tryz.prog 131 = some (true, 4) := by kernel_rfl
theorem tb161 : tyB Tryz.prog 161 = some (true, 4) := by kernel_rfl
theorem tb176 : tyB Tryz.prog 176 = some (true, 4) := by kernel_rfl
theorem tb178 : tyB Tryz.prog 178 = some (true, 4) := by kernel_rfl
theorem tb5 : tyB Tryz.prog 5 = some (false, 1) := by kernel_rfl
theorem ty3 : (tyB Tryz.prog 3).isSome = true := by kernel_rfl
theorem ty5 : (tyB Tryz.prog 5).isSome = true := by kernel_rfl
theorem zr131 : zrC Tryz.prog 131 = some [.int .i64 0, .int .i64 0, .int .i64 0, .int .i64 0] := by kernel_rfl
theorem zr161 : zrC Tryz.prog 161 = some [.int .u8 0, .int .u8 0, .int .u8 0, .int .u8 0] := by kernel_rfl
theorem zr176 : zrC Tryz.prog 176 = some [.int .u8 0, .int .u8 0, .int .u8 0, .int .u8 0] := by kernel_rfl
theorem zr178 : zrC Tryz.prog 178 = some [.int .u8 0, .int .u8 0, .int .u8 0, .int .u8 0] := by kernel_rfl
theorem zr5 : zrC Tryz.prog 5 = some [.int .u8 0] := by kernel_rfl
def C4.rng (c : C4) : Prop := (0 ≤ c.r ∧ c.r ≤ 255) ∧ (0 ≤ c.g ∧ c.g ≤ 255) ∧ (0 ≤ c.b ∧ c.b ≤ 255) ∧ 0 ≤ c.a ∧ c.a ≤ 255
theorem zC4_rng : zC4.rng := by unfold C4.rng zC4; decide
def shU (a pa b pb : Int) : Int := (a * pa + b * pb + 127) / 255
theorem shU_in {a pa b pb : Int} (ha : 0 ≤ a ∧ a ≤ 255) (hb : 0 ≤ b ∧ b ≤ 255) (hp : 0 ≤ pa ∧ 0 ≤ pb ∧ pa + pb ≤ 255) : (0 ≤ a * pa ∧ a * pa ≤ 255 * 255) ∧ (0 ≤ b * pb ∧ b * pb ≤ 255 * 255) ∧ 0 ≤ shU a pa b pb ∧ shU a pa b pb ≤ pa + pb := by
  have h1 : 0 ≤ a * pa := Int.mul_nonneg ha.1 hp.1
  have h2 : 0 ≤ b * pb := Int.mul_nonneg hb.1 hp.2.1
  have h3 : a * pa ≤ 255 * pa := Int.mul_le_mul_of_nonneg_right ha.2 hp.1
  have h4 : b * pb ≤ 255 * pb := Int.mul_le_mul_of_nonneg_right hb.2 hp.2.1
  unfold shU
  omega
def overC (u o : C4) : C4 := ⟨shU o.r o.a u.r (255 - o.a), shU o.g o.a u.g (255 - o.a), shU o.b o.a u.b (255 - o.a), o.a + shU u.a (255 - o.a) 0 0⟩
theorem overC_rng {u o : C4} (hu : u.rng) (ho : o.rng) : (overC u o).rng := by
  obtain ⟨u1, u2, u3, u4⟩ := hu
  obtain ⟨o1, o2, o3, o4⟩ := ho
  have h1 := shU_in (pa := o.a) (pb := 255 - o.a) o1 u1 (by omega)
  have h2 := shU_in (pa := o.a) (pb := 255 - o.a) o2 u2 (by omega)
  have h3 := shU_in (pa := o.a) (pb := 255 - o.a) o3 u3 (by omega)
  have h4 := shU_in (pa := 255 - o.a) (pb := 0) (b := 0) u4 (by omega) (by omega)
  refine ⟨?_, ?_, ?_, ?_⟩
  · show 0 ≤ shU _ _ _ _ ∧ shU _ _ _ _ ≤ 255; omega
  · show 0 ≤ shU _ _ _ _ ∧ shU _ _ _ _ ≤ 255; omega
  · show 0 ≤ shU _ _ _ _ ∧ shU _ _ _ _ ≤ 255; omega
  · show 0 ≤ o.a + shU _ _ _ _ ∧ o.a + shU _ _ _ _ ≤ 255; omega
set_option maxRecDepth 4000 in
set_option maxHeartbeats 1000000 in
theorem share_d (a pa b pb : Int) (ha : 0 ≤ a ∧ a ≤ 255) (hb : 0 ≤ b ∧ b ≤ 255) (hp : 0 ≤ pa ∧ 0 ≤ pb ∧ pa + pb ≤ 255) : DFun Tryz.prog 131 [.val (.int .u8 a), .val (.int .u8 pa), .val (.int .u8 b), .val (.int .u8 pb)] [] (.val (.int .u8 (shU a pa b pb))) [] := by
  obtain ⟨h1, h2, h3⟩ := shU_in ha hb hp
  unfold shU at h3
  refine zal (N := 23) 0 (by kernel_rfl) Tryz.func131 rfl rfl rfl (by simp only [fr0, Nat.zero_add, Nat.reduceAdd]; exact rfl) rfl fun s0 hs0 => ?_
  refine zaf ?_
  refine zad ?_
  refine zab rfl rfl rfl (zac (.inr rfl) (ev1 rfl)) ?_
  refine zae ?_
  refine zaf ?_
  refine zad ?_
  refine zab rfl rfl rfl (zac (.inl rfl) (ev1 rfl)) ?_
  refine zab rfl rfl rfl (op_conv' ty5 kn3 rfl (ev1 rfl) (fun _ => IntWalk.i64_in _ (by omega))) ?_
  refine zab rfl rfl rfl (zac (.inl rfl) (ev1 rfl)) ?_
  refine zab rfl rfl rfl (op_conv' ty5 kn3 rfl (ev1 rfl) (fun _ => IntWalk.i64_in _ (by omega))) ?_
  refine zab rfl rfl rfl (op_mul' rfl (ev1 rfl) (ev1 rfl) (fun _ => IntWalk.i64_in _ (by omega))) ?_
  refine zab rfl rfl rfl (zac (.inl rfl) (ev1 rfl)) ?_
  refine zab rfl rfl rfl (op_conv' ty5 kn3 rfl (ev1 rfl) (fun _ => IntWalk.i64_in _ (by omega))) ?_
  refine zab rfl rfl rfl (zac (.inl rfl) (ev1 rfl)) ?_
  refine zab rfl rfl rfl (op_conv' ty5 kn3 rfl (ev1 rfl) (fun _ => IntWalk.i64_in _ (by omega))) ?_
  refine zab rfl rfl rfl (op_mul' rfl (ev1 rfl) (ev1 rfl) (fun _ => IntWalk.i64_in _ (by omega))) ?_
  refine zab rfl rfl rfl (op_add' rfl (ev1 rfl) (ev1 rfl) (fun _ => IntWalk.i64_in _ (by omega))) ?_
  refine zab rfl rfl rfl (op_add' rfl (ev1 rfl) (ev1 rfl) (fun _ => IntWalk.i64_in _ (by omega))) ?_
  refine zab rfl rfl rfl (op_quo' rfl (ev1 rfl) (ev1 rfl) (fun _ => ⟨by omega, by omega, IntWalk.i64_in _ (by omega)⟩)) ?_
  refine zab rfl rfl rfl (op_conv ty3 kn5 rfl (ev1 rfl)) ?_
  refine zab rfl rfl rfl (zac (.inr rfl) (ev1 rfl)) ?_
  refine zae ?_
  refine dwp_ret ?_
  refine kend0 (rs1 rfl (rv_t rfl)) rfl ?_
  rw [D.val.injEq, Value.int.injEq]
  exact ⟨rfl, by unfold shU; rw [IntWalk.u8_in _ (by omega)]⟩
set_option maxRecDepth 4000 in
set_option maxHeartbeats 1000000 in
theorem cov1_lt (i : Int) (u o a : Int) (hi : i < 3) (hu : 0 ≤ u ∧ u ≤ 255) (ho : 0 ≤ o ∧ o ≤ 255) (ha : 0 ≤ a ∧ a ≤ 255) : DFun Tryz.prog 130 [.val (.int .i64 i), .val (.int .u8 u), .val (.int .u8 o), .loc 0 0] [.flat 5 [.int .u8 a]] (.val (.int .u8 (shU o a u (255 - a)))) [.flat 5 [.int .u8 a]] := by
  refine zal (N := 22) 1 (by kernel_rfl) Tryz.func130 rfl rfl rfl (by simp only [fr0, Nat.zero_add, Nat.reduceAdd]; exact rfl) rfl fun s0 hs0 => ?_
  refine zaf ?_
  refine zad ?_
  refine zab rfl rfl rfl (zac (.inr rfl) (ev1 rfl)) ?_
  refine zae ?_
  refine zaf ?_
  refine zaf ?_
  refine zad ?_
  refine zab rfl rfl rfl (zac (.inl rfl) (ev1 rfl)) ?_
  refine zab rfl rfl rfl (op_lss rfl (ev1 rfl) (ev1 rfl)) ?_
  refine zae ?_
  refine dwp_if_t rfl (by simpa using hi) ?_
  refine zaf ?_
  refine zad ?_
  refine zab rfl rfl rfl (zac (.inl rfl) (ev1 rfl)) ?_
  refine zab rfl rfl rfl (op_ldo rfl tb5 (ev1 rfl) rfl rfl) ?_
  refine zab rfl rfl rfl (zac (.inl rfl) (ev1 rfl)) ?_
  refine zab rfl rfl rfl (op_ldo rfl tb5 (ev1 rfl) rfl rfl) ?_
  refine zab rfl rfl rfl (op_sub' rfl (ev1 rfl) (ev1 rfl) (fun _ => IntWalk.u8_in _ (by omega))) ?_
  refine zab rfl rfl rfl (zai [] [] [] rfl (ev1 rfl) (ec (ev1 rfl) (ec (ev1 rfl) (ec (ev1 rfl) (ec (ev1 rfl) en)))) rfl rfl (share_d o a u (255 - a) ho hu (by omega)) rfl rfl rfl rfl rfl rfl) ?_
  refine zab rfl rfl rfl (zac (.inr rfl) (ev1 rfl)) ?_
  refine zae ?_
  refine dwp_ret ?_
  refine kend [0] (rs1 rfl (rv_t rfl)) rfl rfl ?_ ⟨rfl, trivial⟩
  rfl
set_option maxRecDepth 4000 in
set_option maxHeartbeats 1000000 in
theorem cov1_3 (u o a : Int) (hu : 0 ≤ u ∧ u ≤ 255) (ha : 0 ≤ a ∧ a ≤ 255) : DFun Tryz.prog 130 [.val (.int .i64 3), .val (.int .u8 u), .val (.int .u8 o), .loc 0 0] [.flat 5 [.int .u8 a]] (.val (.int .u8 (a + shU u (255 - a) 0 0))) [.flat 5 [.int .u8 a]] := by
  have h4 := shU_in (pa := 255 - a) (pb := 0) (b := 0) hu (by omega) (by omega)
  refine zal (N := 22) 1 (by kernel_rfl) Tryz.func130 rfl rfl rfl (by simp only [fr0, Nat.zero_add, Nat.reduceAdd]; exact rfl) rfl fun s0 hs0 => ?_
  refine zaf ?_
  refine zad ?_
  refine zab rfl rfl rfl (zac (.inr rfl) (ev1 rfl)) ?_
  refine zae ?_
  refine zaf ?_
  refine zaf ?_
  refine zad ?_
  refine zab rfl rfl rfl (zac (.inl rfl) (ev1 rfl)) ?_
  refine zab rfl rfl rfl (op_lss rfl (ev1 rfl) (ev1 rfl)) ?_
  refine zae ?_
  refine dwp_if_f rfl (by decide) ?_
  refine dwp_skip ?_
  refine zaf ?_
  refine dwp_draw [([0], []), ([], []), ([0], []), ([], []), ([], []), ([], []), ([], [])] mixed (by kernel_rfl) ?_
  refine zag rfl rfl (op_ldo rfl tb5 (ev1 rfl) rfl rfl) ?_
  refine zag rfl rfl (zac (.inl rfl) (ev1 rfl)) ?_
  refine zag rfl rfl (op_ldo rfl tb5 (ev1 rfl) rfl rfl) ?_
  refine zag rfl rfl (op_sub' rfl (ev1 rfl) (ev1 rfl) (fun _ => IntWalk.u8_in _ (by omega))) ?_
  refine zag rfl rfl (zai [] [] [] rfl (ev1 rfl) (ec (ev1 rfl) (ec (ev1 rfl) (ec (ev1 rfl) (ec (ev1 rfl) en)))) rfl rfl (share_d u (255 - a) 0 0 hu (by omega) (by omega)) rfl rfl rfl rfl rfl rfl) ?_
  refine zag rfl rfl (op_add' rfl (ev1 rfl) (ev1 rfl) (fun _ => IntWalk.u8_in _ (by omega))) ?_
  refine zag rfl rfl (zac (.inr rfl) (ev1 rfl)) ?_
  refine lex_nil ?_
  refine dwp_ret ?_
  refine kend [0] (rs1 rfl (rv_t rfl)) rfl rfl ?_ ⟨rfl, trivial⟩
  rfl
set_option maxRecDepth 4000 in
set_option maxHeartbeats 1000000 in
theorem merged_d (u o : C4) (a : Int) (ha : 0 ≤ a ∧ a ≤ 255) (hu : u.rng) (ho : o.rng) : DFun Tryz.prog 128 [.val (.agg #[.int .u8 u.r, .int .u8 u.g, .int .u8 u.b, .int .u8 u.a]), .val (.agg #[.int .u8 o.r, .int .u8 o.g, .int .u8 o.b, .int .u8 o.a]), .fn (.func 130) [] [.loc 0 0]] [.flat 5 [.int .u8 a]] (.val (.agg #[.int .u8 (shU o.r a u.r (255 - a)), .int .u8 (shU o.g a u.g (255 - a)), .int .u8 (shU o.b a u.b (255 - a)), .int .u8 (a + shU u.a (255 - a) 0 0)])) [.flat 5 [.int .u8 a]] := by
  refine zal (N := 25) 1 (by kernel_rfl) Tryz.func128 rfl rfl rfl (by simp only [fr0, Nat.zero_add, Nat.reduceAdd]; exact rfl) rfl fun s0 hs0 => ?_
  refine zaf ?_
  refine zah 3 (by simp only [holes, List.cons_append, List.nil_append]; exact rfl) ?_
  refine zad ?_
  refine zaj rfl rfl rfl (op_boxa 1 rfl (ev1 rfl) rfl) (by simp only [upd, zaa, za]; exact rfl) ?_
  refine zaj rfl rfl rfl (op_boxa 2 rfl (ev1 rfl) rfl) (by simp only [upd, zaa, za]; exact rfl) ?_
  refine zaj rfl rfl rfl (op_alloc 3 rfl zr176 rfl) (by simp only [upd, zaa, za]; exact rfl) ?_
  refine zae ?_
  refine zaf ?_
  refine zah 1 (by simp only [holes, List.cons_append, List.nil_append]; exact rfl) ?_
  refine zad ?_
  refine zaj rfl rfl rfl (op_alloc 4 rfl zr176 rfl) (by simp only [upd, zaa, za]; exact rfl) ?_
  refine zae ?_
  refine zaf ?_
  refine zaf ?_
  refine zad ?_
  refine zab rfl rfl rfl (zac (.inl rfl) (ev1 rfl)) ?_
  refine zae ?_
  refine dwp_block ?_
  refine dwp_dloop (dloop_step ?_)
  refine zaf ?_
  refine zad ?_
  refine zab rfl rfl rfl ((op_lss rfl (ev1 rfl) (ev1 rfl)).cast (d' := .val (.bool true)) (by kernel_rfl)) ?_
  refine zae ?_
  refine zaf ?_
  refine dwp_if_t rfl (rfl) ?_
  refine dwp_skip ?_
  refine zaf ?_
  refine dwp_block ?_
  refine zaf ?_
  refine zad ?_
  refine zab rfl rfl rfl (zac (.inl rfl) (ev1 rfl)) ?_
  refine zab rfl rfl rfl (zac (.inr rfl) (ev1 rfl)) ?_
  refine zae ?_
  refine dwp_draw [([], []), ([], []), ([], []), ([], []), ([], []), ([1], []), ([], []), ([], []), ([2], []), ([0], [0]), ([], []), ([4], [4])] mixed (by kernel_rfl) ?_
  refine zag rfl rfl (zac (.inl rfl) (ev1 rfl)) ?_
  refine zag rfl rfl (zac (.inl rfl) (ev1 rfl)) ?_
  refine zag rfl rfl (zac (.inl rfl) (ev1 rfl)) ?_
  refine zag rfl rfl (zac (.inl rfl) (ev1 rfl)) ?_
  refine zag rfl rfl (op_ixl rfl ar176 (ev1 rfl) (ev1 rfl) (fun _ => by omega)) ?_
  refine zag rfl rfl (op_ldo rfl tb5 (ev1 rfl) rfl rfl) ?_
  refine zag rfl rfl (zac (.inl rfl) (ev1 rfl)) ?_
  refine zag rfl rfl (op_ixl rfl ar176 (ev1 rfl) (ev1 rfl) (fun _ => by omega)) ?_
  refine zag rfl rfl (op_ldo rfl tb5 (ev1 rfl) rfl rfl) ?_
  refine lex_w rfl rfl (zai [0] [] [] rfl (ev1 rfl) (ec (ev1 rfl) (ec (ev1 rfl) (ec (ev1 rfl) en))) rfl rfl (cov1_lt _ u.r o.r a (by decide) hu.1 ho.1 ha) rfl rfl rfl rfl rfl rfl) rfl (by simp only [upd, zaa, za]; exact rfl) ?_
  refine zag rfl rfl (op_ixl rfl ar176 (ev1 rfl) (ev1 rfl) (fun _ => by omega)) ?_
  refine lex_s rfl rfl (op_st1 rfl tb5 (ev1 rfl) (ev1 rfl) rfl (Nat.le_of_ble_eq_true rfl) rfl) rfl (by simp only [upd, zaa, za]; exact rfl) ?_
  refine lex_nil ?_
  refine zad ?_
  refine zab rfl rfl rfl ((op_add' rfl (ev1 rfl) (ev1 rfl) (fun _ => IntWalk.i64_in _ (by omega))).cast (d' := .val (.int .i64 1)) (by kernel_rfl)) ?_
  refine zab rfl rfl rfl (zac (.inl rfl) (ev1 rfl)) ?_
  refine zae ?_
  refine dloop_step ?_
  refine zaf ?_
  refine zad ?_
  refine zab rfl rfl rfl ((op_lss rfl (ev1 rfl) (ev1 rfl)).cast (d' := .val (.bool true)) (by kernel_rfl)) ?_
  refine zae ?_
  refine zaf ?_
  refine dwp_if_t rfl (rfl) ?_
  refine dwp_skip ?_
  refine zaf ?_
  refine dwp_block ?_
  refine zaf ?_
  refine zad ?_
  refine zab rfl rfl rfl (zac (.inl rfl) (ev1 rfl)) ?_
  refine zab rfl rfl rfl (zac (.inr rfl) (ev1 rfl)) ?_
  refine zae ?_
  refine dwp_draw [([], []), ([], []), ([], []), ([], []), ([], []), ([1], []), ([], []), ([], []), ([2], []), ([0], [0]), ([], []), ([4], [4])] mixed (by kernel_rfl) ?_
  refine zag rfl rfl (zac (.inl rfl) (ev1 rfl)) ?_
  refine zag rfl rfl (zac (.inl rfl) (ev1 rfl)) ?_
  refine zag rfl rfl (zac (.inl rfl) (ev1 rfl)) ?_
  refine zag rfl rfl (zac (.inl rfl) (ev1 rfl)) ?_
  refine zag rfl rfl (op_ixl rfl ar176 (ev1 rfl) (ev1 rfl) (fun _ => by omega)) ?_
  refine zag rfl rfl (op_ldo rfl tb5 (ev1 rfl) rfl rfl) ?_
  refine zag rfl rfl (zac (.inl rfl) (ev1 rfl)) ?_
  refine zag rfl rfl (op_ixl rfl ar176 (ev1 rfl) (ev1 rfl) (fun _ => by omega)) ?_
  refine zag rfl rfl (op_ldo rfl tb5 (ev1 rfl) rfl rfl) ?_
  refine lex_w rfl rfl (zai [0] [] [] rfl (ev1 rfl) (ec (ev1 rfl) (ec (ev1 rfl) (ec (ev1 rfl) en))) rfl rfl (cov1_lt _ u.g o.g a (by decide) hu.2.1 ho.2.1 ha) rfl rfl rfl rfl rfl rfl) rfl (by simp only [upd, zaa, za]; exact rfl) ?_
  refine zag rfl rfl (op_ixl rfl ar176 (ev1 rfl) (ev1 rfl) (fun _ => by omega)) ?_
  refine lex_s rfl rfl (op_st1 rfl tb5 (ev1 rfl) (ev1 rfl) rfl (Nat.le_of_ble_eq_true rfl) rfl) rfl (by simp only [upd, zaa, za]; exact rfl) ?_
  refine lex_nil ?_
  refine zad ?_
  refine zab rfl rfl rfl ((op_add' rfl (ev1 rfl) (ev1 rfl) (fun _ => IntWalk.i64_in _ (by omega))).cast (d' := .val (.int .i64 2)) (by kernel_rfl)) ?_
  refine zab rfl rfl rfl (zac (.inl rfl) (ev1 rfl)) ?_
  refine zae ?_
  refine dloop_step ?_
  refine zaf ?_
  refine zad ?_
  refine zab rfl rfl rfl ((op_lss rfl (ev1 rfl) (ev1 rfl)).cast (d' := .val (.bool true)) (by kernel_rfl)) ?_
  refine zae ?_
  refine zaf ?_
  refine dwp_if_t rfl (rfl) ?_
  refine dwp_skip ?_
  refine zaf ?_
  refine dwp_block ?_
  refine zaf ?_
  refine zad ?_
  refine zab rfl rfl rfl (zac (.inl rfl) (ev1 rfl)) ?_
  refine zab rfl rfl rfl (zac (.inr rfl) (ev1 rfl)) ?_
  refine zae ?_
  refine dwp_draw [([], []), ([], []), ([], []), ([], []), ([], []), ([1], []), ([], []), ([], []), ([2], []), ([0], [0]), ([], []), ([4], [4])] mixed (by kernel_rfl) ?_
  refine zag rfl rfl (zac (.inl rfl) (ev1 rfl)) ?_
  refine zag rfl rfl (zac (.inl rfl) (ev1 rfl)) ?_
  refine zag rfl rfl (zac (.inl rfl) (ev1 rfl)) ?_
  refine zag rfl rfl (zac (.inl rfl) (ev1 rfl)) ?_
  refine zag rfl rfl (op_ixl rfl ar176 (ev1 rfl) (ev1 rfl) (fun _ => by omega)) ?_
  refine zag rfl rfl (op_ldo rfl tb5 (ev1 rfl) rfl rfl) ?_
  refine zag rfl rfl (zac (.inl rfl) (ev1 rfl)) ?_
  refine zag rfl rfl (op_ixl rfl ar176 (ev1 rfl) (ev1 rfl) (fun _ => by omega)) ?_
  refine zag rfl rfl (op_ldo rfl tb5 (ev1 rfl) rfl rfl) ?_
  refine lex_w rfl rfl (zai [0] [] [] rfl (ev1 rfl) (ec (ev1 rfl) (ec (ev1 rfl) (ec (ev1 rfl) en))) rfl rfl (cov1_lt _ u.b o.b a (by decide) hu.2.2.1 ho.2.2.1 ha) rfl rfl rfl rfl rfl rfl) rfl (by simp only [upd, zaa, za]; exact rfl) ?_
  refine zag rfl rfl (op_ixl rfl ar176 (ev1 rfl) (ev1 rfl) (fun _ => by omega)) ?_
  refine lex_s rfl rfl (op_st1 rfl tb5 (ev1 rfl) (ev1 rfl) rfl (Nat.le_of_ble_eq_true rfl) rfl) rfl (by simp only [upd, zaa, za]; exact rfl) ?_
  refine lex_nil ?_
  refine zad ?_
  refine zab rfl rfl rfl ((op_add' rfl (ev1 rfl) (ev1 rfl) (fun _ => IntWalk.i64_in _ (by omega))).cast (d' := .val (.int .i64 3)) (by kernel_rfl)) ?_
  refine zab rfl rfl rfl (zac (.inl rfl) (ev1 rfl)) ?_
  refine zae ?_
  refine dloop_step ?_
  refine zaf ?_
  refine zad ?_
  refine zab rfl rfl rfl ((op_lss rfl (ev1 rfl) (ev1 rfl)).cast (d' := .val (.bool true)) (by kernel_rfl)) ?_
  refine zae ?_
  refine zaf ?_
  refine dwp_if_t rfl (rfl) ?_
  refine dwp_skip ?_
  refine zaf ?_
  refine dwp_block ?_
  refine zaf ?_
  refine zad ?_
  refine zab rfl rfl rfl (zac (.inl rfl) (ev1 rfl)) ?_
  refine zab rfl rfl rfl (zac (.inr rfl) (ev1 rfl)) ?_
  refine zae ?_
  refine dwp_draw [([], []), ([], []), ([], []), ([], []), ([], []), ([1], []), ([], []), ([], []), ([2], []), ([0], [0]), ([], []), ([4], [4])] mixed (by kernel_rfl) ?_
  refine zag rfl rfl (zac (.inl rfl) (ev1 rfl)) ?_
  refine zag rfl rfl (zac (.inl rfl) (ev1 rfl)) ?_
  refine zag rfl rfl (zac (.inl rfl) (ev1 rfl)) ?_
  refine zag rfl rfl (zac (.inl rfl) (ev1 rfl)) ?_
  refine zag rfl rfl (op_ixl rfl ar176 (ev1 rfl) (ev1 rfl) (fun _ => by omega)) ?_
  refine zag rfl rfl (op_ldo rfl tb5 (ev1 rfl) rfl rfl) ?_
  refine zag rfl rfl (zac (.inl rfl) (ev1 rfl)) ?_
  refine zag rfl rfl (op_ixl rfl ar176 (ev1 rfl) (ev1 rfl) (fun _ => by omega)) ?_
  refine zag rfl rfl (op_ldo rfl tb5 (ev1 rfl) rfl rfl) ?_
  refine lex_w rfl rfl (zai [0] [] [] rfl (ev1 rfl) (ec (ev1 rfl) (ec (ev1 rfl) (ec (ev1 rfl) en))) rfl rfl (cov1_3 u.a o.a a hu.2.2.2 ha) rfl rfl rfl rfl rfl rfl) rfl (by simp only [upd, zaa, za]; exact rfl) ?_
  refine zag rfl rfl (op_ixl rfl ar176 (ev1 rfl) (ev1 rfl) (fun _ => by omega)) ?_
  refine lex_s rfl rfl (op_st1 rfl tb5 (ev1 rfl) (ev1 rfl) rfl (Nat.le_of_ble_eq_true rfl) rfl) rfl (by simp only [upd, zaa, za]; exact rfl) ?_
  refine lex_nil ?_
  refine zad ?_
  refine zab rfl rfl rfl ((op_add' rfl (ev1 rfl) (ev1 rfl) (fun _ => IntWalk.i64_in _ (by omega))).cast (d' := .val (.int .i64 4)) (by kernel_rfl)) ?_
  refine zab rfl rfl rfl (zac (.inl rfl) (ev1 rfl)) ?_
  refine zae ?_
  refine dloop_step ?_
  refine zaf ?_
  refine zad ?_
  refine zab rfl rfl rfl ((op_lss rfl (ev1 rfl) (ev1 rfl)).cast (d' := .val (.bool false)) (by kernel_rfl)) ?_
  refine zae ?_
  refine zaf ?_
  refine dwp_if_f rfl (rfl) ?_
  refine dwp_exit ?_
  refine zaf ?_
  refine zad ?_
  refine zab rfl rfl rfl (op_ldw rfl tb176 (ev1 rfl) rfl rfl) ?_
  refine walk_s rfl rfl (op_stwa rfl tb176 (ev1 rfl) (ev1 rfl) rfl rfl rfl rfl) (by simp only [upd, zaa, za]; exact rfl) ?_
  refine zae ?_
  refine dwp_ret ?_
  refine kend [0] (rs1 rfl (rv_w tb176 rfl rfl rfl)) rfl rfl ?_ ⟨rfl, trivial⟩
  rfl
set_option maxRecDepth 4000 in
set_option maxHeartbeats 1000000 in
theorem partsOf_d (u : C4) : DFun Tryz.prog 129 [.val (.agg #[.int .u8 u.r, .int .u8 u.g, .int .u8 u.b, .int .u8 u.a])] [] (.val (.agg #[.int .u8 u.r, .int .u8 u.g, .int .u8 u.b, .int .u8 u.a])) [] := by
  refine zal (N := 12) 0 (by kernel_rfl) Tryz.func129 rfl rfl rfl (by simp only [fr0, Nat.zero_add, Nat.reduceAdd]; exact rfl) rfl fun s0 hs0 => ?_
  refine zaf ?_
  refine zah 2 (by simp only [holes, List.cons_append, List.nil_append]; exact rfl) ?_
  refine zad ?_
  refine zaj rfl rfl rfl (op_boxa 0 rfl (ev1 rfl) rfl) (by simp only [upd, zaa, za]; exact rfl) ?_
  refine zaj rfl rfl rfl (op_alloc 1 rfl zr178 rfl) (by simp only [upd, zaa, za]; exact rfl) ?_
  refine zae ?_
  refine zaf ?_
  refine zad ?_
  refine zab rfl rfl rfl (op_fa rfl fo27_0 (ev1 rfl)) ?_
  refine zab rfl rfl rfl (op_ldo rfl tb5 (ev1 rfl) rfl rfl) ?_
  refine zab rfl rfl rfl (op_fa rfl fo27_1 (ev1 rfl)) ?_
  refine zab rfl rfl rfl (op_ldo rfl tb5 (ev1 rfl) rfl rfl) ?_
  refine zab rfl rfl rfl (op_fa rfl fo27_2 (ev1 rfl)) ?_
  refine zab rfl rfl rfl (op_ldo rfl tb5 (ev1 rfl) rfl rfl) ?_
  refine zab rfl rfl rfl (op_fa rfl fo27_3 (ev1 rfl)) ?_
  refine zab rfl rfl rfl (op_ldo rfl tb5 (ev1 rfl) rfl rfl) ?_
  refine zab rfl rfl rfl ((op_bldaD (ps := [(0, .tmp 4), (1, .tmp 6), (2, .tmp 8), (3, .tmp 10)]) rfl ar178 zr178 (ec (ev1 rfl) (ec (ev1 rfl) (ec (ev1 rfl) (ec (ev1 rfl) en)))) rfl rfl rfl rfl).wk (by exact Wk.aggv [.int .u8 u.r, .int .u8 u.g, .int .u8 u.b, .int .u8 u.a] : Wk _ (.val (.agg #[.int .u8 u.r, .int .u8 u.g, .int .u8 u.b, .int .u8 u.a])))) ?_
  refine walk_s rfl rfl (op_stwa rfl tb178 (ev1 rfl) (ev1 rfl) rfl rfl rfl rfl) (by simp only [upd, zaa, za]; exact rfl) ?_
  refine zae ?_
  refine dwp_ret ?_
  refine kend0 (rs1 rfl (rv_w tb178 rfl rfl rfl)) rfl ?_
  rfl
set_option maxRecDepth 4000 in
set_option maxHeartbeats 1000000 in
theorem colorOf_d (a b c d : Int) : DFun Tryz.prog 127 [.val (.agg #[.int .u8 a, .int .u8 b, .int .u8 c, .int .u8 d])] [] (.val (.agg #[.int .u8 a, .int .u8 b, .int .u8 c, .int .u8 d])) [] := by
  refine zal (N := 12) 0 (by kernel_rfl) Tryz.func127 rfl rfl rfl (by simp only [fr0, Nat.zero_add, Nat.reduceAdd]; exact rfl) rfl fun s0 hs0 => ?_
  refine zaf ?_
  refine zah 2 (by simp only [holes, List.cons_append, List.nil_append]; exact rfl) ?_
  refine zad ?_
  refine zaj rfl rfl rfl (op_boxa 0 rfl (ev1 rfl) rfl) (by simp only [upd, zaa, za]; exact rfl) ?_
  refine zaj rfl rfl rfl (op_alloc 1 rfl zr27 rfl) (by simp only [upd, zaa, za]; exact rfl) ?_
  refine zae ?_
  refine zaf ?_
  refine zad ?_
  refine zab rfl rfl rfl (op_ixl rfl ar178 (ev1 rfl) (ev1 rfl) (fun _ => by omega)) ?_
  refine zab rfl rfl rfl (op_ldo rfl tb5 (ev1 rfl) rfl rfl) ?_
  refine zab rfl rfl rfl (op_ixl rfl ar178 (ev1 rfl) (ev1 rfl) (fun _ => by omega)) ?_
  refine zab rfl rfl rfl (op_ldo rfl tb5 (ev1 rfl) rfl rfl) ?_
  refine zab rfl rfl rfl (op_ixl rfl ar178 (ev1 rfl) (ev1 rfl) (fun _ => by omega)) ?_
  refine zab rfl rfl rfl (op_ldo rfl tb5 (ev1 rfl) rfl rfl) ?_
  refine zab rfl rfl rfl (op_ixl rfl ar178 (ev1 rfl) (ev1 rfl) (fun _ => by omega)) ?_
  refine zab rfl rfl rfl (op_ldo rfl tb5 (ev1 rfl) rfl rfl) ?_
  refine zab rfl rfl rfl (op_build (ps := [(0, .tmp 4), (1, .tmp 6), (2, .tmp 8), (3, .tmp 10)]) rfl fl27 zr27 (vc (ev1 rfl) (vc (ev1 rfl) (vc (ev1 rfl) (vc (ev1 rfl) vn)))) rfl rfl) ?_
  refine walk_s rfl rfl (op_stwa rfl tb27 (ev1 rfl) (ev1 rfl) rfl rfl rfl rfl) (by simp only [upd, zaa, za]; exact rfl) ?_
  refine zae ?_
  refine dwp_ret ?_
  refine kend0 (rs1 rfl (rv_w tb27 rfl rfl rfl)) rfl ?_
  rfl
set_option maxRecDepth 4000 in
set_option maxHeartbeats 1000000 in
theorem cover_d (u o : C4) (hu : u.rng) (ho : o.rng) : DFun Tryz.prog 113 [.loc 0 0, .val (.agg #[.int .u8 o.r, .int .u8 o.g, .int .u8 o.b, .int .u8 o.a])] [.flat 161 (c4 u)] (.tup []) [.flat 161 (c4 (overC u o))] := by
  refine zal (N := 20) 1 (by kernel_rfl) Tryz.func113 rfl rfl rfl (by simp only [fr0, Nat.zero_add, Nat.reduceAdd]; exact rfl) rfl fun s0 hs0 => ?_
  refine zaf ?_
  refine zah 1 (by simp only [holes, List.cons_append, List.nil_append]; exact rfl) ?_
  refine zad ?_
  refine zaj rfl rfl rfl (op_boxa 1 rfl (ev1 rfl) rfl) (by simp only [upd, zaa, za]; exact rfl) ?_
  refine zae ?_
  refine zaf ?_
  refine zah 1 (by simp only [holes, List.cons_append, List.nil_append]; exact rfl) ?_
  refine zad ?_
  refine zab rfl rfl rfl (op_fa rfl fo27_3 (ev1 rfl)) ?_
  refine zab rfl rfl rfl (op_ldo rfl tb5 (ev1 rfl) rfl rfl) ?_
  refine zaj rfl rfl rfl (op_alloc 2 rfl zr5 rfl) (by simp only [upd, zaa, za]; exact rfl) ?_
  refine walk_s rfl rfl (op_stwi rfl tb5 (ev1 rfl) (ev1 rfl) rfl) (by simp only [upd, zaa, za]; exact rfl) ?_
  refine zae ?_
  refine dwp_draw [([], []), ([], []), ([], []), ([], []), ([0], []), ([], []), ([1], []), ([], []), ([], []), ([2], [2]), ([], []), ([], []), ([], []), ([0], [0])] mixed (by kernel_rfl) ?_
  refine zag rfl rfl (zac (.inl rfl) (ev1 rfl)) ?_
  refine zag rfl rfl (zac (.inl rfl) (ev1 rfl)) ?_
  refine zag rfl rfl (op_nc rfl (ev1 rfl) (fun s v h => by cases h; exact ⟨_, rfl⟩)) ?_
  refine zag rfl rfl (op_fa rfl fo161_0 (ev1 rfl)) ?_
  refine zag rfl rfl (op_ldw rfl tb27 (ev1 rfl) rfl rfl) ?_
  refine zag rfl rfl (zai [] [] [] rfl (ev1 rfl) (ec (ev1 rfl) en) rfl rfl (partsOf_d u) rfl rfl rfl rfl rfl rfl) ?_
  refine zag rfl rfl (op_ldw rfl tb27 (ev1 rfl) rfl rfl) ?_
  refine zag rfl rfl (zai [] [] [] rfl (ev1 rfl) (ec (ev1 rfl) en) rfl rfl (partsOf_d o) rfl rfl rfl rfl rfl rfl) ?_
  refine zag rfl rfl (op_mkf rfl en (ec (ev1 rfl) en)) ?_
  refine lex_w rfl rfl (zai [2] [] [] rfl (ev1 rfl) (ec (ev1 rfl) (ec (ev1 rfl) (ec (ev1 rfl) en))) rfl rfl (merged_d u o o.a ho.2.2.2 hu ho) rfl rfl rfl rfl rfl rfl) rfl (by simp only [upd, zaa, za]; exact rfl) ?_
  refine zag rfl rfl (zai [] [] [] rfl (ev1 rfl) (ec (ev1 rfl) en) rfl rfl (colorOf_d _ _ _ _) rfl rfl rfl rfl rfl rfl) ?_
  refine zag rfl rfl (op_nc rfl (ev1 rfl) (fun s v h => by cases h; exact ⟨_, rfl⟩)) ?_
  refine zag rfl rfl (op_fa rfl fo161_0 (ev1 rfl)) ?_
  refine lex_s rfl rfl (op_stwa rfl tb27 (ev1 rfl) (ev1 rfl) rfl rfl rfl rfl) rfl (by simp only [upd, zaa, za]; exact rfl) ?_
  refine lex_nil ?_
  refine kend [0] (res_none rfl) rfl rfl ?_ ⟨rfl, trivial⟩
  rfl
set_option maxRecDepth 4000 in
set_option maxHeartbeats 1000000 in
theorem over_d (u o : C4) (hu : u.rng) (ho : o.rng) : DFun Tryz.prog 88 [.val (.agg (c4 u).toArray), .val (.agg (c4 o).toArray)] [] (.val (.agg (c4 (overC u o)).toArray)) [] := by
  refine zal (N := 12) 0 (by kernel_rfl) Tryz.func88 rfl rfl rfl (by simp only [fr0, Nat.zero_add, Nat.reduceAdd]; exact rfl) rfl fun s0 hs0 => ?_
  refine zaf ?_
  refine zah 3 (by simp only [holes, List.cons_append, List.nil_append]; exact rfl) ?_
  refine zad ?_
  refine zaj rfl rfl rfl (op_boxa 0 rfl (ev1 rfl) rfl) (by simp only [upd, zaa, za]; exact rfl) ?_
  refine zaj rfl rfl rfl (op_boxa 1 rfl (ev1 rfl) rfl) (by simp only [upd, zaa, za]; exact rfl) ?_
  refine zaj rfl rfl rfl (op_alloc 2 rfl zr27 rfl) (by simp only [upd, zaa, za]; exact rfl) ?_
  refine zae ?_
  refine zaf ?_
  refine zah 1 (by simp only [holes, List.cons_append, List.nil_append]; exact rfl) ?_
  refine zad ?_
  refine zab rfl rfl rfl (op_ldw rfl tb27 (ev1 rfl) rfl rfl) ?_
  refine zab rfl rfl rfl (op_build (ps := [(0, .tmp 6)]) rfl fl161 zr161 (vc (ev1 rfl) vn) rfl rfl) ?_
  refine zaj rfl rfl rfl (op_alloc 3 rfl zr161 rfl) (by simp only [upd, zaa, za]; exact rfl) ?_
  refine walk_s rfl rfl (op_stwa rfl tb161 (ev1 rfl) (ev1 rfl) rfl rfl rfl rfl) (by simp only [upd, zaa, za]; exact rfl) ?_
  refine zae ?_
  refine zaf ?_
  refine zad ?_
  refine zab rfl rfl rfl (op_ldw rfl tb27 (ev1 rfl) rfl rfl) ?_
  refine zaj rfl rfl rfl (zai [3] [] [] rfl (ev1 rfl) (ec (ev1 rfl) (ec (ev1 rfl) en)) rfl rfl (cover_d u o hu ho) rfl rfl rfl rfl rfl rfl) (by simp only [upd, zaa, za]; exact rfl) ?_
  refine zae ?_
  refine zaf ?_
  refine zad ?_
  refine zab rfl rfl rfl (op_fa rfl fo161_0 (ev1 rfl)) ?_
  refine zab rfl rfl rfl (op_ldw rfl tb27 (ev1 rfl) rfl rfl) ?_
  refine walk_s rfl rfl (op_stwa rfl tb27 (ev1 rfl) (ev1 rfl) rfl rfl rfl rfl) (by simp only [upd, zaa, za]; exact rfl) ?_
  refine zae ?_
  refine dwp_ret ?_
  refine kend0 (rs1 rfl (rv_w tb27 rfl rfl rfl)) rfl ?_
  rfl
set_option maxRecDepth 4000 in
set_option maxHeartbeats 1000000 in
theorem parts3_d (u : C4) (hu : u.rng) : DFun Tryz.prog 89 [.val (.agg (c4 u).toArray)] [] (.val (.agg #[.int .i64 u.r, .int .i64 u.g, .int .i64 u.b, .int .i64 u.a])) [] := by
  obtain ⟨h1, h2, h3, h4⟩ := hu
  refine zal (N := 16) 0 (by kernel_rfl) Tryz.func89 rfl rfl rfl (by simp only [fr0, Nat.zero_add, Nat.reduceAdd]; exact rfl) rfl fun s0 hs0 => ?_
  refine zaf ?_
  refine zah 2 (by simp only [holes, List.cons_append, List.nil_append]; exact rfl) ?_
  refine zad ?_
  refine zaj rfl rfl rfl (op_boxa 0 rfl (ev1 rfl) rfl) (by simp only [upd, zaa, za]; exact rfl) ?_
  refine zaj rfl rfl rfl (op_alloc 1 rfl zr131 rfl) (by simp only [upd, zaa, za]; exact rfl) ?_
  refine zae ?_
  refine zaf ?_
  refine zad ?_
  refine zab rfl rfl rfl (op_fa rfl fo27_0 (ev1 rfl)) ?_
  refine zab rfl rfl rfl (op_ldo rfl tb5 (ev1 rfl) rfl rfl) ?_
  refine zab rfl rfl rfl (op_conv' ty5 kn3 rfl (ev1 rfl) (fun _ => IntWalk.i64_in _ (by omega))) ?_
  refine zab rfl rfl rfl (op_fa rfl fo27_1 (ev1 rfl)) ?_
  refine zab rfl rfl rfl (op_ldo rfl tb5 (ev1 rfl) rfl rfl) ?_
  refine zab rfl rfl rfl (op_conv' ty5 kn3 rfl (ev1 rfl) (fun _ => IntWalk.i64_in _ (by omega))) ?_
  refine zab rfl rfl rfl (op_fa rfl fo27_2 (ev1 rfl)) ?_
  refine zab rfl rfl rfl (op_ldo rfl tb5 (ev1 rfl) rfl rfl) ?_
  refine zab rfl rfl rfl (op_conv' ty5 kn3 rfl (ev1 rfl) (fun _ => IntWalk.i64_in _ (by omega))) ?_
  refine zab rfl rfl rfl (op_fa rfl fo27_3 (ev1 rfl)) ?_
  refine zab rfl rfl rfl (op_ldo rfl tb5 (ev1 rfl) rfl rfl) ?_
  refine zab rfl rfl rfl (op_conv' ty5 kn3 rfl (ev1 rfl) (fun _ => IntWalk.i64_in _ (by omega))) ?_
  refine zab rfl rfl rfl ((op_bldaD (ps := [(0, .tmp 5), (1, .tmp 8), (2, .tmp 11), (3, .tmp 14)]) rfl ar131 zr131 (ec (ev1 rfl) (ec (ev1 rfl) (ec (ev1 rfl) (ec (ev1 rfl) en)))) rfl rfl rfl rfl).wk (by exact Wk.aggv [.int .i64 u.r, .int .i64 u.g, .int .i64 u.b, .int .i64 u.a] : Wk _ (.val (.agg #[.int .i64 u.r, .int .i64 u.g, .int .i64 u.b, .int .i64 u.a])))) ?_
  refine walk_s rfl rfl (op_stwa rfl tb131 (ev1 rfl) (ev1 rfl) rfl rfl rfl rfl) (by simp only [upd, zaa, za]; exact rfl) ?_
  refine zae ?_
  refine dwp_ret ?_
  refine kend0 (rs1 rfl (rv_w tb131 rfl rfl rfl)) rfl ?_
  rfl
set_option maxRecDepth 4000 in
set_option maxHeartbeats 1000000 in
theorem of3_d (u : C4) (hu : u.rng) : DFun Tryz.prog 90 [.val (.agg #[.int .i64 u.r, .int .i64 u.g, .int .i64 u.b, .int .i64 u.a])] [] (.val (.agg (c4 u).toArray)) [] := by
  obtain ⟨h1, h2, h3, h4⟩ := hu
  refine zal (N := 16) 0 (by kernel_rfl) Tryz.func90 rfl rfl rfl (by simp only [fr0, Nat.zero_add, Nat.reduceAdd]; exact rfl) rfl fun s0 hs0 => ?_
  refine zaf ?_
  refine zah 2 (by simp only [holes, List.cons_append, List.nil_append]; exact rfl) ?_
  refine zad ?_
  refine zaj rfl rfl rfl (op_boxa 0 rfl (ev1 rfl) rfl) (by simp only [upd, zaa, za]; exact rfl) ?_
  refine zaj rfl rfl rfl (op_alloc 1 rfl zr27 rfl) (by simp only [upd, zaa, za]; exact rfl) ?_
  refine zae ?_
  refine zaf ?_
  refine zad ?_
  refine zab rfl rfl rfl (op_ixl rfl ar131 (ev1 rfl) (ev1 rfl) (fun _ => by omega)) ?_
  refine zab rfl rfl rfl (op_ldo rfl tb3 (ev1 rfl) rfl rfl) ?_
  refine zab rfl rfl rfl (op_conv' ty3 kn5 rfl (ev1 rfl) (fun _ => IntWalk.u8_in _ (by omega))) ?_
  refine zab rfl rfl rfl (op_ixl rfl ar131 (ev1 rfl) (ev1 rfl) (fun _ => by omega)) ?_
  refine zab rfl rfl rfl (op_ldo rfl tb3 (ev1 rfl) rfl rfl) ?_
  refine zab rfl rfl rfl (op_conv' ty3 kn5 rfl (ev1 rfl) (fun _ => IntWalk.u8_in _ (by omega))) ?_
  refine zab rfl rfl rfl (op_ixl rfl ar131 (ev1 rfl) (ev1 rfl) (fun _ => by omega)) ?_
  refine zab rfl rfl rfl (op_ldo rfl tb3 (ev1 rfl) rfl rfl) ?_
  refine zab rfl rfl rfl (op_conv' ty3 kn5 rfl (ev1 rfl) (fun _ => IntWalk.u8_in _ (by omega))) ?_
  refine zab rfl rfl rfl (op_ixl rfl ar131 (ev1 rfl) (ev1 rfl) (fun _ => by omega)) ?_
  refine zab rfl rfl rfl (op_ldo rfl tb3 (ev1 rfl) rfl rfl) ?_
  refine zab rfl rfl rfl (op_conv' ty3 kn5 rfl (ev1 rfl) (fun _ => IntWalk.u8_in _ (by omega))) ?_
  refine zab rfl rfl rfl (op_build (ps := [(0, .tmp 5), (1, .tmp 8), (2, .tmp 11), (3, .tmp 14)]) rfl fl27 zr27 (vc (ev1 rfl) (vc (ev1 rfl) (vc (ev1 rfl) (vc (ev1 rfl) vn)))) rfl rfl) ?_
  refine walk_s rfl rfl (op_stwa rfl tb27 (ev1 rfl) (ev1 rfl) rfl rfl rfl rfl) (by simp only [upd, zaa, za]; exact rfl) ?_
  refine zae ?_
  refine dwp_ret ?_
  refine kend0 (rs1 rfl (rv_w tb27 rfl rfl rfl)) rfl ?_
  rfl
set_option maxRecDepth 4000 in
set_option maxHeartbeats 1000000 in
theorem over3_d (u o : C4) (hu : u.rng) (ho : o.rng) : DFun Tryz.prog 56 [.val (.agg (c4 u).toArray), .val (.agg (c4 o).toArray)] [] (.val (.agg (c4 (overC u o)).toArray)) [] := by
  have hov := overC_rng hu ho
  obtain ⟨u1, u2, u3, u4⟩ := hu
  obtain ⟨o1, o2, o3, o4⟩ := ho
  have h1 := shU_in (pa := o.a) (pb := 255 - o.a) o1 u1 (by omega)
  have h2 := shU_in (pa := o.a) (pb := 255 - o.a) o2 u2 (by omega)
  have h3 := shU_in (pa := o.a) (pb := 255 - o.a) o3 u3 (by omega)
  have h4 := shU_in (pa := 255 - o.a) (pb := 0) (b := 0) u4 (by omega) (by omega)
  unfold shU at h1 h2 h3 h4
  rw [Int.zero_mul, Int.add_zero] at h4
  refine zal (N := 61) 0 (by kernel_rfl) Tryz.func56 rfl rfl rfl (by simp only [fr0, Nat.zero_add, Nat.reduceAdd]; exact rfl) rfl fun s0 hs0 => ?_
  refine zaf ?_
  refine zah 3 (by simp only [holes, List.cons_append, List.nil_append]; exact rfl) ?_
  refine zad ?_
  refine zaj rfl rfl rfl (op_boxa 0 rfl (ev1 rfl) rfl) (by simp only [upd, zaa, za]; exact rfl) ?_
  refine zaj rfl rfl rfl (op_boxa 1 rfl (ev1 rfl) rfl) (by simp only [upd, zaa, za]; exact rfl) ?_
  refine zaj rfl rfl rfl (op_alloc 2 rfl zr27 rfl) (by simp only [upd, zaa, za]; exact rfl) ?_
  refine zae ?_
  refine zaf ?_
  refine zah 2 (by simp only [holes, List.cons_append, List.nil_append]; exact rfl) ?_
  refine dwp_draw [([0], []), ([], []), ([1], []), ([], []), ([3], [3]), ([4], [4]), ([3], [3]), ([4], [4])] mixed (by kernel_rfl) ?_
  refine zag rfl rfl (op_ldw rfl tb27 (ev1 rfl) rfl rfl) ?_
  refine zag rfl rfl (zai [] [] [] rfl (ev1 rfl) (ec (ev1 rfl) en) rfl rfl (parts3_d u ⟨u1, u2, u3, u4⟩) rfl rfl rfl rfl rfl rfl) ?_
  refine zag rfl rfl (op_ldw rfl tb27 (ev1 rfl) rfl rfl) ?_
  refine zag rfl rfl (zai [] [] [] rfl (ev1 rfl) (ec (ev1 rfl) en) rfl rfl (parts3_d o ⟨o1, o2, o3, o4⟩) rfl rfl rfl rfl rfl rfl) ?_
  refine lex_w rfl rfl (op_alloc 3 rfl zr131 rfl) rfl (by simp only [upd, zaa, za]; exact rfl) ?_
  refine lex_w rfl rfl (op_alloc 4 rfl zr131 rfl) rfl (by simp only [upd, zaa, za]; exact rfl) ?_
  refine lex_s rfl rfl (op_stwa rfl tb131 (ev1 rfl) (ev1 rfl) rfl rfl rfl rfl) rfl (by simp only [upd, zaa, za]; exact rfl) ?_
  refine lex_s rfl rfl (op_stwa rfl tb131 (ev1 rfl) (ev1 rfl) rfl rfl rfl rfl) rfl (by simp only [upd, zaa, za]; exact rfl) ?_
  refine lex_nil ?_
  refine zaf ?_
  refine zad ?_
  refine zab rfl rfl rfl (op_ixl rfl ar131 (ev1 rfl) (ev1 rfl) (fun _ => by omega)) ?_
  refine zab rfl rfl rfl (op_ldo rfl tb3 (ev1 rfl) rfl rfl) ?_
  refine zab rfl rfl rfl (zac (.inr rfl) (ev1 rfl)) ?_
  refine zae ?_
  refine zaf ?_
  refine zad ?_
  refine zab rfl rfl rfl (op_ixl rfl ar131 (ev1 rfl) (ev1 rfl) (fun _ => by omega)) ?_
  refine zab rfl rfl rfl (op_ldo rfl tb3 (ev1 rfl) rfl rfl) ?_
  refine zab rfl rfl rfl (zac (.inl rfl) (ev1 rfl)) ?_
  refine zab rfl rfl rfl (op_mul' rfl (ev1 rfl) (ev1 rfl) (fun _ => IntWalk.i64_in _ (by omega))) ?_
  refine zab rfl rfl rfl (op_ixl rfl ar131 (ev1 rfl) (ev1 rfl) (fun _ => by omega)) ?_
  refine zab rfl rfl rfl (op_ldo rfl tb3 (ev1 rfl) rfl rfl) ?_
  refine zab rfl rfl rfl (zac (.inl rfl) (ev1 rfl)) ?_
  refine zab rfl rfl rfl (op_sub' rfl (ev1 rfl) (ev1 rfl) (fun _ => IntWalk.i64_in _ (by omega))) ?_
  refine zab rfl rfl rfl (op_mul' rfl (ev1 rfl) (ev1 rfl) (fun _ => IntWalk.i64_in _ (by omega))) ?_
  refine zab rfl rfl rfl (op_add' rfl (ev1 rfl) (ev1 rfl) (fun _ => IntWalk.i64_in _ (by omega))) ?_
  refine zab rfl rfl rfl (op_add' rfl (ev1 rfl) (ev1 rfl) (fun _ => IntWalk.i64_in _ (by omega))) ?_
  refine zab rfl rfl rfl (op_quo' rfl (ev1 rfl) (ev1 rfl) (fun _ => ⟨by omega, by omega, IntWalk.i64_in _ (by omega)⟩)) ?_
  refine zab rfl rfl rfl (op_ixl rfl ar131 (ev1 rfl) (ev1 rfl) (fun _ => by omega)) ?_
  refine zab rfl rfl rfl (op_ldo rfl tb3 (ev1 rfl) rfl rfl) ?_
  refine zab rfl rfl rfl (zac (.inl rfl) (ev1 rfl)) ?_
  refine zab rfl rfl rfl (op_mul' rfl (ev1 rfl) (ev1 rfl) (fun _ => IntWalk.i64_in _ (by omega))) ?_
  refine zab rfl rfl rfl (op_ixl rfl ar131 (ev1 rfl) (ev1 rfl) (fun _ => by omega)) ?_
  refine zab rfl rfl rfl (op_ldo rfl tb3 (ev1 rfl) rfl rfl) ?_
  refine zab rfl rfl rfl (zac (.inl rfl) (ev1 rfl)) ?_
  refine zab rfl rfl rfl (op_sub' rfl (ev1 rfl) (ev1 rfl) (fun _ => IntWalk.i64_in _ (by omega))) ?_
  refine zab rfl rfl rfl (op_mul' rfl (ev1 rfl) (ev1 rfl) (fun _ => IntWalk.i64_in _ (by omega))) ?_
  refine zab rfl rfl rfl (op_add' rfl (ev1 rfl) (ev1 rfl) (fun _ => IntWalk.i64_in _ (by omega))) ?_
  refine zab rfl rfl rfl (op_add' rfl (ev1 rfl) (ev1 rfl) (fun _ => IntWalk.i64_in _ (by omega))) ?_
  refine zab rfl rfl rfl (op_quo' rfl (ev1 rfl) (ev1 rfl) (fun _ => ⟨by omega, by omega, IntWalk.i64_in _ (by omega)⟩)) ?_
  refine zab rfl rfl rfl (op_ixl rfl ar131 (ev1 rfl) (ev1 rfl) (fun _ => by omega)) ?_
  refine zab rfl rfl rfl (op_ldo rfl tb3 (ev1 rfl) rfl rfl) ?_
  refine zab rfl rfl rfl (zac (.inl rfl) (ev1 rfl)) ?_
  refine zab rfl rfl rfl (op_mul' rfl (ev1 rfl) (ev1 rfl) (fun _ => IntWalk.i64_in _ (by omega))) ?_
  refine zab rfl rfl rfl (op_ixl rfl ar131 (ev1 rfl) (ev1 rfl) (fun _ => by omega)) ?_
  refine zab rfl rfl rfl (op_ldo rfl tb3 (ev1 rfl) rfl rfl) ?_
  refine zab rfl rfl rfl (zac (.inl rfl) (ev1 rfl)) ?_
  refine zab rfl rfl rfl (op_sub' rfl (ev1 rfl) (ev1 rfl) (fun _ => IntWalk.i64_in _ (by omega))) ?_
  refine zab rfl rfl rfl (op_mul' rfl (ev1 rfl) (ev1 rfl) (fun _ => IntWalk.i64_in _ (by omega))) ?_
  refine zab rfl rfl rfl (op_add' rfl (ev1 rfl) (ev1 rfl) (fun _ => IntWalk.i64_in _ (by omega))) ?_
  refine zab rfl rfl rfl (op_add' rfl (ev1 rfl) (ev1 rfl) (fun _ => IntWalk.i64_in _ (by omega))) ?_
  refine zab rfl rfl rfl (op_quo' rfl (ev1 rfl) (ev1 rfl) (fun _ => ⟨by omega, by omega, IntWalk.i64_in _ (by omega)⟩)) ?_
  refine zab rfl rfl rfl (zac (.inl rfl) (ev1 rfl)) ?_
  refine zab rfl rfl rfl (op_ixl rfl ar131 (ev1 rfl) (ev1 rfl) (fun _ => by omega)) ?_
  refine zab rfl rfl rfl (op_ldo rfl tb3 (ev1 rfl) rfl rfl) ?_
  refine zab rfl rfl rfl (zac (.inl rfl) (ev1 rfl)) ?_
  refine zab rfl rfl rfl (op_sub' rfl (ev1 rfl) (ev1 rfl) (fun _ => IntWalk.i64_in _ (by omega))) ?_
  refine zab rfl rfl rfl (op_mul' rfl (ev1 rfl) (ev1 rfl) (fun _ => IntWalk.i64_in _ (by omega))) ?_
  refine zab rfl rfl rfl (op_add' rfl (ev1 rfl) (ev1 rfl) (fun _ => IntWalk.i64_in _ (by omega))) ?_
  refine zab rfl rfl rfl (op_quo' rfl (ev1 rfl) (ev1 rfl) (fun _ => ⟨by omega, by omega, IntWalk.i64_in _ (by omega)⟩)) ?_
  refine zab rfl rfl rfl (op_add' rfl (ev1 rfl) (ev1 rfl) (fun _ => IntWalk.i64_in _ (by omega))) ?_
  refine zab rfl rfl rfl ((op_bldaD (ps := [(0, .tmp 25), (1, .tmp 37), (2, .tmp 49), (3, .tmp 58)]) rfl ar131 zr131 (ec (ev1 rfl) (ec (ev1 rfl) (ec (ev1 rfl) (ec (ev1 rfl) en)))) rfl rfl rfl rfl).wk (by exact (Wk.aggv [.int .i64 ((o.r * o.a + u.r * (255 - o.a) + 127) / 255), .int .i64 ((o.g * o.a + u.g * (255 - o.a) + 127) / 255), .int .i64 ((o.b * o.a + u.b * (255 - o.a) + 127) / 255), .int .i64 (o.a + (u.a * (255 - o.a) + 127) / 255)]).trans (Wk.of_eq (by simp [overC, shU])) : Wk _ (.val (.agg #[.int .i64 (overC u o).r, .int .i64 (overC u o).g, .int .i64 (overC u o).b, .int .i64 (overC u o).a])))) ?_
  refine zab rfl rfl rfl (zai [] [] [] rfl (ev1 rfl) (ec (ev1 rfl) en) rfl rfl (of3_d (overC u o) hov) rfl rfl rfl rfl rfl rfl) ?_
  refine walk_s rfl rfl (op_stwa rfl tb27 (ev1 rfl) (ev1 rfl) rfl rfl rfl rfl) (by simp only [upd, zaa, za]; exact rfl) ?_
  refine zae ?_
  refine dwp_ret ?_
  refine kend0 (rs1 rfl (rv_w tb27 rfl rfl rfl)) rfl ?_
  rfl
end Go.Proofs.YtjgnalfnginjbaaGreatDoor
