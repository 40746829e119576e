/- arguments that are opened; the variable that stays. No condition. -/
import Derived.Test.YtjgnalfnginjbaaGreatDoorQ6
import Derived.Test.YtjgnalfnginjbaaGreatDoorRows
import Derived.SevenTiedAt
namespace Go.Proofs.YtjgnalfnginjbaaGreatDoor
set_option maxRecDepth 4000
set_option linter.unusedVariables false
set_option linter.unusedSimpArgs false
open Go.RowKit
open Go.ChangeShapes Go.WideShapes Go.ChangeAt Go.Joins Go.Deep
theorem fits_prim_i64 {v : Value} (h : (Prim.int .i64).is v) : ∃ a : Int, (-9223372036854775808 ≤ a ∧ a ≤ 9223372036854775807) ∧ v = .int .i64 a := by
  obtain ⟨x, rfl, w⟩ := h
  exact ⟨x, by simpa [Lit.wf, IntKind.min, IntKind.max, IntKind.signed, IntKind.bits] using w, rfl⟩
theorem fitsP_append : ∀ (a b : List Prim) (cs : List Value), fitsP (a ++ b) cs → ∃ c d, cs = c ++ d ∧ fitsP a c ∧ fitsP b d
  | [], _, cs, h => ⟨[], cs, rfl, trivial, h⟩
  | _ :: _, _, [], h => by cases h
  | p :: a, b, v :: cs, h => by
    obtain ⟨h1, h2⟩ := h
    obtain ⟨c, d, rfl, h3, h4⟩ := fitsP_append a b cs h2
    exact ⟨v :: c, d, rfl, ⟨h1, h3⟩, h4⟩
theorem fitsP_cons {p : Prim} {ps : List Prim} {cs : List Value} (h : fitsP (p :: ps) cs) : ∃ v r, cs = v :: r ∧ p.is v ∧ fitsP ps r := by
  cases cs with
  | nil => cases h
  | cons v r => exact ⟨v, r, rfl, h.1, h.2⟩
theorem fitsP_nil {cs : List Value} (h : fitsP [] cs) : cs = [] := by
  cases cs with
  | nil => rfl
  | cons v r => cases h
theorem fits_i64 : ∀ cs, fitsP [.int .i64] cs → ∃ a : Int, (-9223372036854775808 ≤ a ∧ a ≤ 9223372036854775807) ∧ cs = [.int .i64 a]
  | [c0], h => by
    obtain ⟨h0, _⟩ := h
    obtain ⟨a, w, rfl⟩ := fits_prim_i64 h0
    exact ⟨a, w, rfl⟩
  | [], h => by cases h
  | _ :: _ :: _, h => by obtain ⟨_, h⟩ := h; cases h
theorem fits_u8 {v : Value} (h : (Prim.int .u8).is v) : ∃ a : Int, (0 ≤ a ∧ a ≤ 255) ∧ v = .int .u8 a := by
  obtain ⟨x, rfl, w⟩ := h
  exact ⟨x, by simpa [Lit.wf, IntKind.min, IntKind.max, IntKind.signed, IntKind.bits] using w, rfl⟩
theorem fits_c4 (cs : List Value) (h : fitsP [.int .u8, .int .u8, .int .u8, .int .u8] cs) : ∃ a : C4, a.rng ∧ cs = c4 a := by
  obtain ⟨x0, r, rfl, h0, h⟩ := fitsP_cons h
  obtain ⟨x1, r, rfl, h1, h⟩ := fitsP_cons h
  obtain ⟨x2, r, rfl, h2, h⟩ := fitsP_cons h
  obtain ⟨x3, r, rfl, h3, h⟩ := fitsP_cons h
  obtain rfl := fitsP_nil h
  obtain ⟨a0, w0, rfl⟩ := fits_u8 h0
  obtain ⟨a1, w1, rfl⟩ := fits_u8 h1
  obtain ⟨a2, w2, rfl⟩ := fits_u8 h2
  obtain ⟨a3, w3, rfl⟩ := fits_u8 h3
  exact ⟨⟨a0, a1, a2, a3⟩, ⟨w0, w1, w2, w3⟩, rfl⟩
def P2.rng (p : P2) : Prop := (-9223372036854775808 ≤ p.x ∧ p.x ≤ 9223372036854775807) ∧ (-9223372036854775808 ≤ p.y ∧ p.y ≤ 9223372036854775807)
theorem fits_cs : ∀ (n : Nat) (cs : List Value), fitsP (List.replicate n [.int .u8, .int .u8, .int .u8, .int .u8]).flatten cs → ∃ l : List C4, l.length = n ∧ (∀ c ∈ l, c.rng) ∧ cs = l.flatMap c4
  | 0, [], _ => ⟨[], rfl, (fun c h => by cases h), rfl⟩
  | 0, _ :: _, h => by cases h
  | n + 1, cs, h => by
    rw [List.replicate_succ, List.flatten_cons] at h
    obtain ⟨a, b, rfl, h1, h2⟩ := fitsP_append _ _ _ h
    obtain ⟨c, hc, rfl⟩ := fits_c4 _ h1
    obtain ⟨l, hl, hr, rfl⟩ := fits_cs n b h2
    exact ⟨c :: l, by rw [List.length_cons, hl], fun d hd => (List.mem_cons.1 hd).elim (fun e => e ▸ hc) (hr d), rfl⟩
theorem fits_tl (cs : List Value) (h : fitsP (List.replicate 64 [.int .u8, .int .u8, .int .u8, .int .u8]).flatten cs) : ∃ t : TL, (∀ c ∈ t.l, c.rng) ∧ cs = tc t := by
  obtain ⟨l, hl, hr, rfl⟩ := fits_cs 64 cs h
  exact ⟨⟨l, hl⟩, hr, rfl⟩
theorem opens_i64 {w : World} : Opens Tryz.prog w 3 (fun a : Int => [.val (.int .i64 a)]) (fun a => -9223372036854775808 ≤ a ∧ a ≤ 9223372036854775807) := opens_flat 1 (fun a : Int => [.int .i64 a]) _ fits_i64 (by kernel_rfl)
theorem opens_rowz {α : Type} {w : World} {t e : TypeId} {ps : List Prim} {sz : Nat} (f : Nat) (en : α → List Value) (ok : α → Prop) (hP : ∀ cs, fitsP ps cs → ∃ a, ok a ∧ cs = en a) (ht : Tryz.prog.underlying t = some (.slice e)) (hf : flatT Tryz.prog f e = some ps) (hz : ps.length = sz) (hc : Tryz.prog.cellsOf e = sz) (hpos : 0 < sz)
    (hen : ∀ a, (en a).length = sz) : Opens Tryz.prog w t (fun l : List α => [.slf sz l.length (l.flatMap en)]) (fun l => ∀ a ∈ l, ok a) := by
  subst hz
  exact opens_row f en ok hP ht hf hc hpos hen
abbrev kT : List Prim := (List.replicate 64 [.int .u8, .int .u8, .int .u8, .int .u8]).flatten
theorem kT_len : kT.length = 256 := by kernel_rfl
theorem opens_tls {w : World} : Opens Tryz.prog w 22 (fun l : List TL => [.slf 256 l.length (l.flatMap tc)]) (fun l => ∀ x ∈ l, ∀ c ∈ x.l, c.rng) :=
  opens_rowz 4 tc (fun t => ∀ c ∈ t.l, c.rng) fits_tl Tryz.underlying22 (show flatT Tryz.prog 4 73 = some kT by kernel_rfl) kT_len (by kernel_rfl) (by decide) tc_len
abbrev shL (a : Int × Int × List TL) : List D := [.val (.int .i64 a.1), .val (.int .i64 a.2.1), .slf 256 a.2.2.length (a.2.2.flatMap tc)]
theorem opens_cv {w : World} : Opens Tryz.prog w 24 shL (fun a => tsRng a.2.2) :=
  opens_map (fun a : Int × Int × List TL × Unit => (a.1, a.2.1, a.2.2.1)) (opens_struct Tryz.underlying24 (by kernel_rfl) (opensF_cons (k := 1) rfl (by kernel_rfl) opens_i64 (opensF_cons (k := 1) rfl (by kernel_rfl) opens_i64 (opensF_cons (k := 1) rfl (by kernel_rfl) opens_tls opensF_nil)))) (fun _ => rfl) (fun _ h => h.2.2.1)
def Sp.rng (s : Sp) : Prop := (-9223372036854775808 ≤ s.y ∧ s.y ≤ 9223372036854775807) ∧ (-9223372036854775808 ≤ s.f ∧ s.f ≤ 9223372036854775807) ∧ -9223372036854775808 ≤ s.t ∧ s.t ≤ 9223372036854775807
theorem fits_s3 (cs : List Value) (h : fitsP [.int .i64, .int .i64, .int .i64] cs) : ∃ p : Sp, p.rng ∧ cs = s3 p := by
  obtain ⟨x0, r, rfl, h0, g1⟩ := fitsP_cons h
  obtain ⟨x1, r, rfl, h1, g2⟩ := fitsP_cons g1
  obtain ⟨x2, r, rfl, h2, g3⟩ := fitsP_cons g2
  obtain rfl := fitsP_nil g3
  obtain ⟨x, wx, rfl⟩ := fits_prim_i64 h0
  obtain ⟨y, wy, rfl⟩ := fits_prim_i64 h1
  obtain ⟨z, wz, rfl⟩ := fits_prim_i64 h2
  exact ⟨⟨x, y, z⟩, ⟨wx, wy, wz⟩, rfl⟩
end Go.Proofs.YtjgnalfnginjbaaGreatDoor
namespace Go.Proofs.YtjgnalfnginjbaaGreatDoor
set_option maxRecDepth 4000
set_option linter.unusedVariables false
set_option linter.unusedSimpArgs false
open Go.RowKit
open Go.ChangeShapes Go.WideShapes Go.ChangeAt Go.Joins Go.Deep
theorem red_cells {w : World} {fuel : Nat} {cs : List Value} {p : List MemPlace} (h : DataW.trod (fun _ => ()) Tryz.prog w 0 (fun _ => true) false fuel 27 cs = some (Rows.laid_gesso_gessolaw07_red, p)) : cs = c4 redC := by
  obtain ⟨xs, n, _, hx, hl, hxl, hf⟩ := DataW.trod_struct Tryz.underlying27 h
  have hc : Tryz.prog.cellsOf 5 = 1 := by kernel_rfl
  have hl4 : cs.length = 4 := hl.trans (by kernel_rfl)
  match cs, hl4, xs, hxl with
  | [c0, c1, c2, c3], _, [x0, x1, x2, x3], _ =>
    have e0 : DataW.trod (fun _ => ()) Tryz.prog w 0 (fun _ => true) false n 5 (([c0, c1, c2, c3].drop 0).take (Tryz.prog.cellsOf 5)) = some x0 := hf 0 _ rfl
    have e1 : DataW.trod (fun _ => ()) Tryz.prog w 0 (fun _ => true) false n 5 (([c0, c1, c2, c3].drop 1).take (Tryz.prog.cellsOf 5)) = some x1 := hf 1 _ rfl
    have e2 : DataW.trod (fun _ => ()) Tryz.prog w 0 (fun _ => true) false n 5 (([c0, c1, c2, c3].drop 2).take (Tryz.prog.cellsOf 5)) = some x2 := hf 2 _ rfl
    have e3 : DataW.trod (fun _ => ()) Tryz.prog w 0 (fun _ => true) false n 5 (([c0, c1, c2, c3].drop 3).take (Tryz.prog.cellsOf 5)) = some x3 := hf 3 _ rfl
    rw [hc] at e0 e1 e2 e3
    obtain ⟨n0, q0, w0, _⟩ := DataW.trod_int Tryz.underlying5 e0
    obtain ⟨n1, q1, w1, _⟩ := DataW.trod_int Tryz.underlying5 e1
    obtain ⟨n2, q2, w2, _⟩ := DataW.trod_int Tryz.underlying5 e2
    obtain ⟨n3, q3, w3, _⟩ := DataW.trod_int Tryz.underlying5 e3
    subst w0 w1 w2 w3
    have hx := congrArg Prod.fst hx
    simp [Rows.laid_gesso_gessolaw07_red] at hx
    simp at q0 q1 q2 q3
    obtain ⟨a0, a1, a2, a3⟩ := hx
    subst q0 q1 q2 q3 a0 a1 a2 a3
    rfl
theorem red_glob (W : World) (h : laidMetH Tryz.prog [("gesso/gessolaw07.red", Rows.laid_gesso_gessolaw07_red)] W) : globMet W 0 (c4 redC) := by
  unfold laidMetH at h
  rw [show (([("gesso/gessolaw07.red", Rows.laid_gesso_gessolaw07_red)] : List (String × DataW Unit)).filter fun x => x.2.handleName?.isSome) = [] from rfl] at h
  obtain ⟨ps, hv, _⟩ := h
  obtain ⟨g', t', cs, fuel, p, h1, h2, h3, h4⟩ := laid_reads hv "gesso/gessolaw07.red" _ (List.mem_cons_self ..)
  have hg : Tryz.prog.globalNamed "gesso/gessolaw07.red" = some 0 := by kernel_rfl
  obtain rfl := Option.some.inj (hg.symm.trans h1)
  have hty : (Tryz.prog.globals[0]?).map (·.type) = some 27 := by kernel_rfl
  obtain rfl := Option.some.inj (hty.symm.trans h2)
  have hcs := red_cells h4
  unfold World.var? at h3
  rw [hg] at h3
  simp only [Option.bind_some] at h3
  split at h3
  · rename_i cs' T fz hb
    obtain rfl := Option.some.inj h3
    have hlt := (Array.getElem?_eq_some_iff.1 hb).1
    refine ⟨hlt, ?_⟩
    have := cellsAt_block hb 0
    rw [List.drop_zero, hcs] at this
    exact this
  · cases h3
end Go.Proofs.YtjgnalfnginjbaaGreatDoor
