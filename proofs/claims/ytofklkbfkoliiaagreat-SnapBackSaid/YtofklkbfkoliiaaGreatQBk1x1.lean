/- From a contract to the statement: a law whose call returns true whatever its arguments read as; with listed variables, too.  but the kernel's look at the program; what laws say of patches; pieces gathered; bytes that are read, and back. No condition. -/
import Derived.Test.YtofklkbfkoliiaaGreatQ7
import Derived.Test.YtofklkbfkoliiaaGreatRows
set_option maxRecDepth 100000
set_option maxHeartbeats 1000000
open Nat renaming zero_add → qbh, reduceAdd → qbj, le_refl → qby
open Bool renaming and_eq_true → qbi
open List renaming cons_append → qbp, nil_append → qbq, replicate → qbs, length_take → qbD, length_drop → qbF, getElem?_append_right → qbG, getD_eq_getElem?_getD → qbI, take_of_length_le → qbJ, append_assoc → qbM, mem_cons_self → qbR, mem_cons_of_mem → qbT, append_nil → qbV, range → qbW
open Int renaming toNat_natCast → qbS
namespace Go.Proofs.YtofklkbfkoliiaaGreat
set_option linter.unusedVariables false
set_option linter.unusedSimpArgs false
open Go.ChangeShapes Go.WideShapes Go.ChangeAt Go.RowKit Go.Joins Go.Deep
section
variable {H : Type} {enc : TypeId × Value → H} {w : World} {base b0 : Nat} {r : Reach} {spare : Nat → Bool} {held : Bool} {v : Value} {d : DataW H} {p : List MemPlace}
theorem WX {α : Type} {t : TypeId} {q : Prim} (mk : α → Value) (ok : α → Prop) (hP : ∀ v, q.is v → ∃ a, ok a ∧ v = mk a) (hf : vN Tryz.prog 1 t = some [q]) (hv : ∃ u : Value, v = u ∧ u.cells = #[u]) (h : DataW.Trod enc Tryz.prog w base spare held t v d p) : ∃ a, ok a ∧ v = mk a := by
 obtain ⟨u, rfl, hc⟩ := hv
 obtain ⟨fuel, hfu⟩ := h
 have hfit := xV 1 _ _ _ _ _ hf hfu
 rw [hc] at hfit
 exact hP v hfit.1
end
end Go.Proofs.YtofklkbfkoliiaaGreat
namespace Go.Proofs.YtofklkbfkoliiaaGreat
set_option linter.unusedVariables false
set_option linter.unusedSimpArgs false
open Go.RowKit
theorem Q4 {ts : List TL} (h : vu ts) (n : Nat) : vu (ts.take n) := fun t ht => h t (List.mem_of_mem_take ht)
end Go.Proofs.YtofklkbfkoliiaaGreat
namespace Go.Proofs.YtofklkbfkoliiaaGreat
set_option linter.unusedVariables false
set_option linter.unusedSimpArgs false
open Go.RowKit
theorem Qg {b : List Int} {k : Nat} (hk : k < mnN b) : k * 256 < b.length ∧ (gv b k).length = min b.length ((k + 1) * 256) - k * 256 := by
 unfold mnN at hk
 unfold gv
 rw [qbD, qbF]
 omega
theorem Zg {b : List Int} (h : b.length ≤ 16384) : mnN b ≤ 64 := by
 unfold mnN
 omega
theorem HZ {b : List Int} (h : 0 < b.length) : 0 < mnN b := by
 unfold mnN
 omega
theorem qaZ {sn : Int} {b : List Int} (h1 : snB sn = true) (h3 : b.length ≤ 16384) {k : Nat} (hk : k < mnN b) : pcB (pcK sn b k) = true := by
 obtain ⟨a, c⟩ := Qg hk
 have hm := Zg h3
 have hmn : mnN b = (b.length + 255) / 256 := rfl
 unfold snB at h1
 rw [qbi, decide_eq_true_eq, decide_eq_true_eq] at h1
 refine pcB_iff.2 ⟨h1, ?_, ?_, ?_⟩
 ·show 1 ≤ ((mnN b : Nat) : Int) ∧ ((mnN b : Nat) : Int) ≤ 64
  omega
 ·show 0 ≤ (k : Int) ∧ (k : Int) < ((mnN b : Nat) : Int)
  omega
 ·show (gv b k).length = 256 ∨ ((k : Int) = ((mnN b : Nat) : Int) - 1 ∧ 1 ≤ (gv b k).length ∧ (gv b k).length < 256)
  omega
theorem zx (b : List Int) : ∀ k, ((qbW k).map (gv b)).flatten = b.take (k * 256)
 | 0 => by simp
 | k + 1 => by
  rw [List.range_succ, List.map_append, List.flatten_append, zx b k]
  have e : gv b k = (b.drop (k * 256)).take 256 := by
   unfold gv
   by_cases h : (k + 1) * 256 ≤ b.length
   ·rw [Nat.min_eq_right h, show (k + 1) * 256 - k * 256 = 256 by omega]
   ·rw [Nat.min_eq_left (by omega), qbJ (by rw [qbF]; omega), qbJ (by rw [qbF]; omega)]
  simp only [List.map_cons, List.map_nil, List.flatten_cons, List.flatten_nil, qbV]
  rw [e, show (k + 1) * 256 = k * 256 + 256 by omega, List.take_add]
def w4 (b : List Int) : List (List Int) := (qbW (mnN b)).map (gv b)
theorem zy (b : List Int) : (w4 b).flatten = b := by
 unfold w4
 rw [zx, qbJ (by unfold mnN; omega)]
def w5 (sn : Int) (b : List Int) : PiM := ⟨sn, mnN b, w4 b⟩
def Qh (sn : Int) (b : List Int) (k : Nat) : PiM := if k = 0 then zPi else ⟨sn, mnN b, (qbW k).map (gv b) ++ qbs (mnN b - k) []⟩
theorem w6 (sn : Int) (b : List Int) : (vo sn b).length = mnN b := by unfold vo; simp
theorem Zh {sn : Int} {b : List Int} {k : Nat} (hk : k < (vo sn b).length) : (vo sn b)[k] = pcK sn b k := by
 refine (List.getElem_eq_iff hk).2 ?_
 rw [w6] at hk
 unfold vo
 rw [List.getElem?_map, List.getElem?_range hk]
 rfl
theorem Zi {p : PiM} {x : PcM} (hx : pcB x = true) (h : p.sn < x.sn) : jG p x = (0, ⟨x.sn, x.mn, (qbs x.mn.toNat []).set x.ix.toNat x.b⟩) := by
 unfold jG
 rw [if_pos hx, if_neg (by omega), if_pos h]
theorem Zj {p : PiM} {x : PcM} (hx : pcB x = true) (h : x.sn = p.sn) (hm : x.mn = p.mn) (he : emp (p.ps.getD x.ix.toNat []) = true) : jG p x = (0, { p with ps := p.ps.set x.ix.toNat x.b }) := by
 unfold jG
 rw [if_pos hx, if_neg (by omega), if_neg (by omega), if_neg (fun e => e hm), if_pos he]
theorem Zk {sn : Int} {b : List Int} (h1 : snB sn = true) (h3 : b.length ≤ 16384) {k : Nat} (hk : k < mnN b) : jG (Qh sn b k) (pcK sn b k) = (0, Qh sn b (k + 1)) := by
 have hok := qaZ h1 h3 hk
 have hs : 1 ≤ sn := by
  unfold snB at h1
  rw [qbi, decide_eq_true_eq] at h1
  exact h1.1
 by_cases h0 : k = 0
 ·subst h0
  have e0 : Qh sn b 0 = zPi := rfl
  rw [e0, Zi hok (show (0 : Int) < sn by omega)]
  unfold Qh
  rw [if_neg (by decide)]
  show (0, (⟨sn, ((mnN b : Nat) : Int), (qbs ((mnN b : Nat) : Int).toNat ([] : List Int)).set ((0 : Nat) : Int).toNat (gv b 0)⟩ : PiM)) = (0, ⟨sn, ((mnN b : Nat) : Int), _⟩)
  rw [qbS, qbS]
  have e : qbs (mnN b) ([] : List Int) = [] :: qbs (mnN b - 1) [] := by
   rw [← List.replicate_succ]
   congr 1
   omega
  rw [e, zaf]
  rfl
 ·have e0 : Qh sn b k = ⟨sn, mnN b, (qbW k).map (gv b) ++ qbs (mnN b - k) []⟩ := if_neg h0
  have hl : ((qbW k).map (gv b)).length = k := by simp
  rw [e0, Zj hok rfl rfl]
  ·unfold Qh
   rw [if_neg (by omega)]
   show (0, (⟨sn, ((mnN b : Nat) : Int), ((qbW k).map (gv b) ++ qbs (mnN b - k) ([] : List Int)).set ((k : Nat) : Int).toNat (gv b k)⟩ : PiM)) = _
   rw [qbS, List.set_append_right _ _ (by omega), hl, Nat.sub_self, show mnN b - k = (mnN b - (k + 1)) + 1 by omega, List.replicate_succ, zaf, List.range_succ, List.map_append, qbM]
   rfl
  ·show emp (((qbW k).map (gv b) ++ qbs (mnN b - k) ([] : List Int)).getD ((k : Nat) : Int).toNat []) = true
   rw [qbS, qbI, qbG (by omega), hl, Nat.sub_self]
   cases h : mnN b - k with
   | zero => rfl
   | succ n => rfl
theorem J5 {sn : Int} {b : List Int} (h1 : snB sn = true) (h3 : b.length ≤ 16384) : ∀ k, k ≤ mnN b → kB ((vo sn b).take k) (zPi, 0) = (Qh sn b k, 0)
 | 0, _ => rfl
 | k + 1, hk => by
  have ih := J5 h1 h3 k (by omega)
  rw [gL _ _ (by rw [w6]; omega), ih, Zh]
  dsimp only
  rw [Zk h1 h3 (by omega)]
  rfl
theorem Qi {sn : Int} {b : List Int} (h1 : snB sn = true) (h2 : 0 < b.length) (h3 : b.length ≤ 16384) : kB (vo sn b) (zPi, 0) = (w5 sn b, 0) := by
 have h := J5 h1 h3 (mnN b) (qby _)
 rw [← w6 sn b, List.take_length, w6] at h
 rw [h]
 unfold Qh w5 w4
 rw [if_neg (by have := HZ h2; omega), Nat.sub_self, List.replicate_zero, qbV]
theorem Zl {sn : Int} {b : List Int} (h1 : snB sn = true) (h2 : 0 < b.length) (h3 : b.length ≤ 16384) : jh (w5 sn b) = true := by
 have h := (K3 Q1 (vo sn b) 0).1
 rw [Qi h1 h2 h3] at h
 exact h
theorem Zm {ps : List (List Int)} (h : ∀ b ∈ ps, emp b = false) : ∀ i, ym ps i = -1 := by
 induction ps with
 | nil => intro i; rfl
 | cons b r ih =>
  intro i
  rw [ym, if_neg (by rw [h b (qbR ..)]; decide)]
  exact ih (fun c hc => h c (qbT _ hc)) _
theorem WY {b c : List Int} (h : c ∈ w4 b) : emp c = false := by
 unfold w4 at h
 obtain ⟨k, hk, rfl⟩ := List.mem_map.1 h
 have hk := List.mem_range.1 hk
 obtain ⟨a, d⟩ := Qg hk
 cases he : emp (gv b k) with
 | false => rfl
 | true =>
  rw [emp_iff.1 he] at d
  simp at d
  omega
end Go.Proofs.YtofklkbfkoliiaaGreat
namespace Go.Proofs.YtofklkbfkoliiaaGreat
set_option linter.unusedVariables false
set_option linter.unusedSimpArgs false
open Go.RowKit
attribute [local irreducible] jk jG kB kG vo jh yM yf wy gu kw tkN kR
theorem J6 {sn : Int} {b : List Int} (h1 : snB sn = true) (h2 : 0 < b.length) (h3 : b.length ≤ 16384) : DFun Tryz.prog 35 [.agg (piD (w5 sn b))] [] (.tup [.slf 1 (b).length ((b).flatMap uc8), .val (.bool true)]) [] := by
 have hok := Zl h1 h2 h3
 have hw : yf (w5 sn b) = true := by
  unfold yf
  have e1 : ym (w5 sn b).ps 0 = -1 := Zm (fun c hc => WY (show c ∈ w4 b from hc)) 0
  have e2 : noB (w5 sn b) = false := by
   cases h : noB (w5 sn b) with
   | false => rfl
   | true =>
    have := congrArg PiM.sn (noB_iff.1 h)
    have hs : sn = 0 := this
    subst hs
    exact absurd h1 (by decide)
  rw [e1, e2, hok]
  rfl
 have h := VW (w5 sn b) (by have := (vl hok).1; omega) hw (by
  show (w4 b).flatten.length ≤ _
  rw [zy]
  omega)
 have e3 : (w5 sn b).ps.flatten = b := zy b
 rw [e3] at h
 exact h
theorem J7 {sn : Int} {b : List Int} (h1 : snB sn = true) (h2 : 0 < b.length) (h3 : b.length ≤ 16384) : DFun Tryz.prog 37 [.agg (piD zPi), .slm 4 (vo sn b).length ((vo sn b).flatMap pcD)] [] (.tup [.agg (piD (w5 sn b)), .val (.int .i64 0), .val (.int .i64 0)]) [] := by
 have hm := Zg h3
 have h := VV zPi Q1 (vo sn b) (by rw [w6]; omega)
 rw [Qi h1 h2 h3] at h
 exact h
theorem H0 {s : SnM} (hg : vu s.ts) : vu (kx s).ts := Q4 hg 17
theorem Zn (x : SnM) (hg : vu x.ts) (hf : 0 ≤ x.f) (hv9 : ∀ i, 9 ≤ i → x.v i = 0) (m : Int) (hm : 0 ≤ m ∧ m ≤ 18446744073709551615) (z : List Int) (hz : isB z) : DFun Tryz.prog 6 [.agg (snL x), .val (.int .u64 m), .slf 1 (z).length ((z).flatMap uc8)] [] (.val (.bool true)) [] := by
 have hzb : isB (z.take 6000) := yb hz 6000
 have hzl : (z.take 6000).length ≤ 6000 := by rw [qbD]; omega
 obtain ⟨s1, e1, hR, hcase⟩ := K5 (b := (z.take 6000)) (by omega) hzb
 have hgx := H0 hg
 refine zap (N := 127) 0 (by kernel_rfl) Tryz.func6 rfl rfl rfl (by simp only [fr0, qbh, qbj]; exact rfl) rfl fun s0 hs0 => ?_
 refine ko (t := 2) rfl fun hl2 hL2 => ?_
 refine zad ?_
 refine zam 1 ?_
 refine zac ?_
 refine zal rfl (qp 0 rfl (ev1 rfl) rfl) ?_
 refine zaa 1 rfl ?_
 refine zab ?_
 refine zad ?_
 refine zai ?_
 refine za rfl (zak [] [] [] rfl (ev1 rfl) en rfl rfl (J2) rfl rfl rfl rfl rfl rfl) ?_
 refine za rfl (ku rfl (ev1 rfl)) ?_
 refine zab ?_
 refine qf rfl (rfl) ?_
 refine zao ?_
 refine zad ?_
 refine zad ?_
 refine zam 1 ?_
 refine zac ?_
 refine zaa 2 rfl ?_
 refine za rfl (qm rfl qg (ev1 rfl)) ?_
 refine za rfl (vh rfl (ev1 rfl) (ev1 rfl)) ?_
 refine za rfl ((gb (j := min z.length 6000) rfl qg (ev1 rfl) (qR (ev1 rfl)) (fun _ => by omega) (fun _ => by omega) (fun _ => rfl)).cast (d' := .slf 1 ((z.take 6000)).length (((z.take 6000)).flatMap uc8)) (by rw [uY])) ?_
 refine za rfl (zak [] [] [] rfl (ev1 rfl) (ec (ev1 rfl) en) rfl rfl (hR) rfl rfl rfl rfl rfl rfl) ?_
 refine zaa 3 rfl ?_
 refine zal rfl (zan 1 rfl jZ rfl) ?_
 refine zaq rfl (ka rfl kr (ev1 rfl) (ev1 rfl) rfl rfl rfl rfl) ?_
 refine zaa 1 rfl ?_
 refine zab ?_
 refine zad ?_
 by_cases he : e1 = 0
 ·subst he
  have hs : RdS (z.take 6000) s1 := by
   rcases hcase with ⟨_, h⟩ | ⟨h, _⟩
   ·exact h
   ·exact absurd h (by decide)
  refine zac ?_
  refine zaa 1 rfl ?_
  refine za rfl (qj rfl (ev1 rfl) (ev1 rfl)) ?_
  refine zab ?_
  refine qt rfl (rfl) ?_
  refine zai ?_
  refine za rfl (qe rfl kr (ev1 rfl) rfl rfl) ?_
  refine za rfl (zak [] [] [] rfl (ev1 rfl) (ec (ev1 rfl) en) rfl rfl (vZ s1 hs.ok hs.f0) rfl rfl rfl rfl rfl rfl) ?_
  refine zaa 5 rfl ?_
  refine zab ?_
  refine zai ?_
  refine zaa 1 rfl ?_
  refine za rfl (qV rfl (ev1 rfl) (ev1 rfl)) ?_
  refine zaa 1 rfl ?_
  refine zah (qa rfl rfl rfl) rfl rfl rfl (zaj (.inl rfl) (ev1 rfl)) ?_
  refine zah (qa rfl rfl rfl) rfl rfl rfl (zaj (.inl rfl) (ev1 rfl)) ?_
  refine zah (qa rfl rfl rfl) rfl rfl rfl (zaj (.inl rfl) (ev1 rfl)) ?_
  refine zah (qa rfl rfl rfl) rfl rfl rfl (qm rfl qg (ev2 rfl)) ?_
  refine zah (qa rfl rfl rfl) rfl rfl rfl (vh rfl (ev2 rfl) (ev1 rfl)) ?_
  refine zah (qa rfl rfl rfl) rfl rfl rfl ((gb (j := min z.length 6000) rfl qg (ev2 rfl) (qR (ev2 rfl)) (fun _ => by omega) (fun _ => by omega) (fun _ => rfl)).cast (d' := .slf 1 ((z.take 6000)).length (((z.take 6000)).flatMap uc8)) (by rw [uY])) ?_
  refine zah (qa rfl rfl rfl) rfl rfl rfl (zak [] [] [] rfl (ev1 rfl) (ec (ev2 rfl) (ec (ev2 rfl) en)) rfl rfl (wp (kG s1) (z.take 6000)) rfl rfl rfl rfl rfl rfl) ?_
  refine zah (qa rfl rfl rfl) rfl rfl rfl (ku rfl (ev2 rfl)) ?_
  refine za rfl (qK rfl (ev1 rfl) (ev3 rfl id)) ?_
  refine zaa 1 rfl ?_
  refine zah (qa rfl rfl rfl) rfl rfl rfl (qe rfl kr (ev1 rfl) rfl rfl) ?_
  refine zah (qa rfl rfl rfl) rfl rfl rfl (zak [] [] [] rfl (ev1 rfl) (ec (ev2 rfl) en) rfl rfl (yI s1) rfl rfl rfl rfl rfl rfl) ?_
  refine zah (qa rfl rfl rfl) rfl rfl rfl (qV rfl (ev2 rfl) (ev1 rfl)) ?_
  refine za rfl (qK rfl (ev1 rfl) (ev3 rfl id)) ?_
  refine zab ?_
  refine qf rfl (by rw [yH _ (by decide), hs.ok, ← hs.eq]; simp) ?_
  refine zao ?_
  refine zad ?_
  refine zam 1 ?_
  refine zac ?_
  refine za rfl (qe rfl kr (ev1 rfl) rfl rfl) ?_
  refine za rfl (zak [] [] [] rfl (ev1 rfl) (ec (ev1 rfl) en) rfl rfl (yU x) rfl rfl rfl rfl rfl rfl) ?_
  refine zal rfl (zan 2 rfl jZ rfl) ?_
  refine zaq rfl (ka rfl kr (ev1 rfl) (ev1 rfl) rfl rfl rfl rfl) ?_
  refine zab ?_
  refine zad ?_
  by_cases hk : gu (kx x) = true
  ·obtain ⟨hr, hfs, hst, hvB⟩ := snOk_iff.1 hk
   obtain ⟨q1, q2, q3, q4⟩ := gD hr
   have hib := zl hr hgx
   have hmr := Int.emod_nonneg m (show (4611686018427387904 : Int) ≠ 0 by decide)
   have hml := Int.emod_lt_of_pos m (show (0 : Int) < 4611686018427387904 by decide)
   have hsb : snB (1 + m % 4611686018427387904) = true := by unfold snB; simp; omega
   refine zac ?_
   refine za rfl (qe rfl kr (ev1 rfl) rfl rfl) ?_
   refine za rfl (zak [] [] [] rfl (ev1 rfl) (ec (ev1 rfl) en) rfl rfl (vZ (kx x) hk hf) rfl rfl rfl rfl rfl rfl) ?_
   refine zaa 5 rfl ?_
   refine zab ?_
   refine zad ?_
   refine zai ?_
   refine zaa 1 rfl ?_
   refine za rfl (qV rfl (ev1 rfl) (ev1 rfl)) ?_
   refine zab ?_
   refine qf rfl (rfl) ?_
   refine zao ?_
   refine zai ?_
   refine zaa 1 rfl ?_
   refine za rfl (Gm rfl (ev1 rfl) (ev1 rfl) (fun _ => ⟨by decide, hm.1⟩)) ?_
   refine za rfl (qc rfl (ev1 rfl) (ev1 rfl) (fun _ => IntWalk.u64_in _ (by omega))) ?_
   refine zaa 1 rfl ?_
   refine zab ?_
   refine zai ?_
   refine zaa 2 rfl ?_
   refine za rfl (zak [] [] [] rfl (ev1 rfl) (ec (ev1 rfl) (ec (ev1 rfl) en)) rfl rfl (X3 (1 + m % 4611686018427387904) (kG (kx x)) hsb (by omega) (by omega)) rfl rfl rfl rfl rfl rfl) ?_
   refine zaa 5 rfl ?_
   refine zab ?_
   refine zad ?_
   refine zam 1 ?_
   refine zac ?_
   refine za rfl (kH rfl fl61 uw) ?_
   refine zaa 1 rfl ?_
   refine za rfl (zak [] [] [] rfl (ev1 rfl) (ec (wQ (ev1 rfl) GT) (ec (ev1 rfl) en)) rfl rfl (J7 hsb (by omega) (by omega)) rfl rfl rfl rfl rfl rfl) ?_
   refine zaa 4 rfl ?_
   refine zal rfl (zan 3 rfl uw rfl) ?_
   refine zaq rfl (ka rfl jp (ev1 rfl) (ev1 rfl) rfl rfl rfl rfl) ?_
   refine zaa 2 rfl ?_
   refine zab ?_
   refine zai ?_
   refine za rfl (qe rfl jp (ev1 rfl) rfl rfl) ?_
   refine za rfl (zak [] [] [] rfl (ev1 rfl) (ec (ev1 rfl) en) rfl rfl (J6 hsb (by omega) (by omega)) rfl rfl rfl rfl rfl rfl) ?_
   refine zaa 5 rfl ?_
   refine zab ?_
   refine zad ?_
   refine zai ?_
   refine zaa 1 rfl ?_
   refine za rfl (qV rfl (ev1 rfl) (ev1 rfl)) ?_
   refine zaa 1 rfl ?_
   refine zah (qa rfl rfl rfl) rfl rfl rfl (zaj (.inl rfl) (ev1 rfl)) ?_
   refine zah (qa rfl rfl rfl) rfl rfl rfl (qV rfl (ev2 rfl) (ev1 rfl)) ?_
   refine za rfl (qK rfl (ev1 rfl) (ev3 rfl id)) ?_
   refine zaa 1 rfl ?_
   refine zah (qa rfl rfl rfl) rfl rfl rfl (zaj (.inl rfl) (ev1 rfl)) ?_
   refine zah (qa rfl rfl rfl) rfl rfl rfl (qV rfl (ev2 rfl) (ev1 rfl)) ?_
   refine za rfl (qK rfl (ev1 rfl) (ev3 rfl id)) ?_
   refine zaa 1 rfl ?_
   refine zah (qa rfl rfl rfl) rfl rfl rfl (zaj (.inl rfl) (ev1 rfl)) ?_
   refine zah (qa rfl rfl rfl) rfl rfl rfl (ku rfl (ev2 rfl)) ?_
   refine za rfl (qK rfl (ev1 rfl) (ev3 rfl id)) ?_
   refine zaa 1 rfl ?_
   refine zah (qa rfl rfl rfl) rfl rfl rfl (zaj (.inl rfl) (ev1 rfl)) ?_
   refine zah (qa rfl rfl rfl) rfl rfl rfl (zaj (.inl rfl) (ev1 rfl)) ?_
   refine zah (qa rfl rfl rfl) rfl rfl rfl (zak [] [] [] rfl (ev1 rfl) (ec (ev2 rfl) (ec (ev2 rfl) en)) rfl rfl (wp (kG (kx x)) (kG (kx x))) rfl rfl rfl rfl rfl rfl) ?_
   refine zah (qa rfl rfl rfl) rfl rfl rfl (ku rfl (ev2 rfl)) ?_
   refine za rfl (qK rfl (ev1 rfl) (ev3 rfl id)) ?_
   refine zab ?_
   refine qf rfl (by simp) ?_
   refine zao ?_
   refine zad ?_
   refine zam 1 ?_
   refine zac ?_
   refine zaa 1 rfl ?_
   refine za rfl (zak [] [] [] rfl (ev1 rfl) (ec (ev1 rfl) en) rfl rfl (wt hk hf hib hv9) rfl rfl rfl rfl rfl rfl) ?_
   refine zaa 3 rfl ?_
   refine zal rfl (zan 4 rfl jZ rfl) ?_
   refine zaq rfl (ka rfl kr (ev1 rfl) (ev1 rfl) rfl rfl rfl rfl) ?_
   refine zaa 1 rfl ?_
   refine zab ?_
   refine zai ?_
   refine zaa 1 rfl ?_
   refine za rfl (qj rfl (ev1 rfl) (ev1 rfl)) ?_
   refine zaa 1 rfl ?_
   refine zah (qd rfl rfl rfl) rfl rfl rfl (qe rfl kr (ev1 rfl) rfl rfl) ?_
   refine zah (qd rfl rfl rfl) rfl rfl rfl (qe rfl kr (ev1 rfl) rfl rfl) ?_
   refine zah (qd rfl rfl rfl) rfl rfl rfl (zak [] [] [] rfl (ev1 rfl) (ec (ev2 rfl) (ec (ev2 rfl) en)) rfl rfl (zX (kx x) (kx x)) rfl rfl rfl rfl rfl rfl) ?_
   refine za rfl (qF rfl (ev1 rfl) (ev3 rfl id)) ?_
   refine zaa 1 rfl ?_
   refine zab ?_
   refine zau ?_
   refine qo (rs1 rfl (qB rfl)) rfl ?_
   rw [ju]
   rfl
  ·refine zac ?_
   refine za rfl (qe rfl kr (ev1 rfl) rfl rfl) ?_
   refine za rfl (zak [] [] [] rfl (ev1 rfl) (ec (ev1 rfl) en) rfl rfl (zk (kx x) (by simpa using hk)) rfl rfl rfl rfl rfl rfl) ?_
   refine zaa 5 rfl ?_
   refine zab ?_
   refine zad ?_
   refine zai ?_
   refine zaa 1 rfl ?_
   refine za rfl (qV rfl (ev1 rfl) (ev1 rfl)) ?_
   refine zab ?_
   refine qt rfl (rfl) ?_
   refine zai ?_
   refine zaa 1 rfl ?_
   refine za rfl (qe rfl kr (ev1 rfl) rfl rfl) ?_
   refine za rfl (zak [] [] [] rfl (ev1 rfl) (ec (ev1 rfl) en) rfl rfl (yI (kx x)) rfl rfl rfl rfl rfl rfl) ?_
   refine za rfl (qj rfl (ev1 rfl) (ev1 rfl)) ?_
   refine zaa 1 rfl ?_
   refine zah (qd rfl rfl rfl) rfl rfl rfl (zaj (.inl rfl) (ev1 rfl)) ?_
   refine zah (qd rfl rfl rfl) rfl rfl rfl (qm rfl qg (wQ (ev2 rfl) (Wk.slf0 1))) ?_
   refine zah (qd rfl rfl rfl) rfl rfl rfl (qj rfl (ev2 rfl) (ev1 rfl)) ?_
   refine za rfl (qF rfl (ev1 rfl) (ev3 rfl id)) ?_
   refine zaa 1 rfl ?_
   refine zab ?_
   refine zau ?_
   refine qo (rs1 rfl (qB rfl)) rfl ?_
   rw [show gu (kx x) = false by simpa using hk]
   rfl
 ·refine zac ?_
  refine zaa 1 rfl ?_
  refine za rfl (qj rfl (ev1 rfl) (ev1 rfl)) ?_
  refine zab ?_
  refine qf rfl (by simpa using he) ?_
  refine zao ?_
  refine zad ?_
  refine zam 1 ?_
  refine zac ?_
  refine za rfl (qe rfl kr (ev1 rfl) rfl rfl) ?_
  refine za rfl (zak [] [] [] rfl (ev1 rfl) (ec (ev1 rfl) en) rfl rfl (yU x) rfl rfl rfl rfl rfl rfl) ?_
  refine zal rfl (zan 2 rfl jZ rfl) ?_
  refine zaq rfl (ka rfl kr (ev1 rfl) (ev1 rfl) rfl rfl rfl rfl) ?_
  refine zab ?_
  refine zad ?_
  by_cases hk : gu (kx x) = true
  ·obtain ⟨hr, hfs, hst, hvB⟩ := snOk_iff.1 hk
   obtain ⟨q1, q2, q3, q4⟩ := gD hr
   have hib := zl hr hgx
   have hmr := Int.emod_nonneg m (show (4611686018427387904 : Int) ≠ 0 by decide)
   have hml := Int.emod_lt_of_pos m (show (0 : Int) < 4611686018427387904 by decide)
   have hsb : snB (1 + m % 4611686018427387904) = true := by unfold snB; simp; omega
   refine zac ?_
   refine za rfl (qe rfl kr (ev1 rfl) rfl rfl) ?_
   refine za rfl (zak [] [] [] rfl (ev1 rfl) (ec (ev1 rfl) en) rfl rfl (vZ (kx x) hk hf) rfl rfl rfl rfl rfl rfl) ?_
   refine zaa 5 rfl ?_
   refine zab ?_
   refine zad ?_
   refine zai ?_
   refine zaa 1 rfl ?_
   refine za rfl (qV rfl (ev1 rfl) (ev1 rfl)) ?_
   refine zab ?_
   refine qf rfl (rfl) ?_
   refine zao ?_
   refine zai ?_
   refine zaa 1 rfl ?_
   refine za rfl (Gm rfl (ev1 rfl) (ev1 rfl) (fun _ => ⟨by decide, hm.1⟩)) ?_
   refine za rfl (qc rfl (ev1 rfl) (ev1 rfl) (fun _ => IntWalk.u64_in _ (by omega))) ?_
   refine zaa 1 rfl ?_
   refine zab ?_
   refine zai ?_
   refine zaa 2 rfl ?_
   refine za rfl (zak [] [] [] rfl (ev1 rfl) (ec (ev1 rfl) (ec (ev1 rfl) en)) rfl rfl (X3 (1 + m % 4611686018427387904) (kG (kx x)) hsb (by omega) (by omega)) rfl rfl rfl rfl rfl rfl) ?_
   refine zaa 5 rfl ?_
   refine zab ?_
   refine zad ?_
   refine zam 1 ?_
   refine zac ?_
   refine za rfl (kH rfl fl61 uw) ?_
   refine zaa 1 rfl ?_
   refine za rfl (zak [] [] [] rfl (ev1 rfl) (ec (wQ (ev1 rfl) GT) (ec (ev1 rfl) en)) rfl rfl (J7 hsb (by omega) (by omega)) rfl rfl rfl rfl rfl rfl) ?_
   refine zaa 4 rfl ?_
   refine zal rfl (zan 3 rfl uw rfl) ?_
   refine zaq rfl (ka rfl jp (ev1 rfl) (ev1 rfl) rfl rfl rfl rfl) ?_
   refine zaa 2 rfl ?_
   refine zab ?_
   refine zai ?_
   refine za rfl (qe rfl jp (ev1 rfl) rfl rfl) ?_
   refine za rfl (zak [] [] [] rfl (ev1 rfl) (ec (ev1 rfl) en) rfl rfl (J6 hsb (by omega) (by omega)) rfl rfl rfl rfl rfl rfl) ?_
   refine zaa 5 rfl ?_
   refine zab ?_
   refine zad ?_
   refine zai ?_
   refine zaa 1 rfl ?_
   refine za rfl (qV rfl (ev1 rfl) (ev1 rfl)) ?_
   refine zaa 1 rfl ?_
   refine zah (qa rfl rfl rfl) rfl rfl rfl (zaj (.inl rfl) (ev1 rfl)) ?_
   refine zah (qa rfl rfl rfl) rfl rfl rfl (qV rfl (ev2 rfl) (ev1 rfl)) ?_
   refine za rfl (qK rfl (ev1 rfl) (ev3 rfl id)) ?_
   refine zaa 1 rfl ?_
   refine zah (qa rfl rfl rfl) rfl rfl rfl (zaj (.inl rfl) (ev1 rfl)) ?_
   refine zah (qa rfl rfl rfl) rfl rfl rfl (qV rfl (ev2 rfl) (ev1 rfl)) ?_
   refine za rfl (qK rfl (ev1 rfl) (ev3 rfl id)) ?_
   refine zaa 1 rfl ?_
   refine zah (qa rfl rfl rfl) rfl rfl rfl (zaj (.inl rfl) (ev1 rfl)) ?_
   refine zah (qa rfl rfl rfl) rfl rfl rfl (ku rfl (ev2 rfl)) ?_
   refine za rfl (qK rfl (ev1 rfl) (ev3 rfl id)) ?_
   refine zaa 1 rfl ?_
   refine zah (qa rfl rfl rfl) rfl rfl rfl (zaj (.inl rfl) (ev1 rfl)) ?_
   refine zah (qa rfl rfl rfl) rfl rfl rfl (zaj (.inl rfl) (ev1 rfl)) ?_
   refine zah (qa rfl rfl rfl) rfl rfl rfl (zak [] [] [] rfl (ev1 rfl) (ec (ev2 rfl) (ec (ev2 rfl) en)) rfl rfl (wp (kG (kx x)) (kG (kx x))) rfl rfl rfl rfl rfl rfl) ?_
   refine zah (qa rfl rfl rfl) rfl rfl rfl (ku rfl (ev2 rfl)) ?_
   refine za rfl (qK rfl (ev1 rfl) (ev3 rfl id)) ?_
   refine zab ?_
   refine qf rfl (by simp) ?_
   refine zao ?_
   refine zad ?_
   refine zam 1 ?_
   refine zac ?_
   refine zaa 1 rfl ?_
   refine za rfl (zak [] [] [] rfl (ev1 rfl) (ec (ev1 rfl) en) rfl rfl (wt hk hf hib hv9) rfl rfl rfl rfl rfl rfl) ?_
   refine zaa 3 rfl ?_
   refine zal rfl (zan 4 rfl jZ rfl) ?_
   refine zaq rfl (ka rfl kr (ev1 rfl) (ev1 rfl) rfl rfl rfl rfl) ?_
   refine zaa 1 rfl ?_
   refine zab ?_
   refine zai ?_
   refine zaa 1 rfl ?_
   refine za rfl (qj rfl (ev1 rfl) (ev1 rfl)) ?_
   refine zaa 1 rfl ?_
   refine zah (qd rfl rfl rfl) rfl rfl rfl (qe rfl kr (ev1 rfl) rfl rfl) ?_
   refine zah (qd rfl rfl rfl) rfl rfl rfl (qe rfl kr (ev1 rfl) rfl rfl) ?_
   refine zah (qd rfl rfl rfl) rfl rfl rfl (zak [] [] [] rfl (ev1 rfl) (ec (ev2 rfl) (ec (ev2 rfl) en)) rfl rfl (zX (kx x) (kx x)) rfl rfl rfl rfl rfl rfl) ?_
   refine za rfl (qF rfl (ev1 rfl) (ev3 rfl id)) ?_
   refine zaa 1 rfl ?_
   refine zab ?_
   refine zau ?_
   refine qo (rs1 rfl (qB rfl)) rfl ?_
   rw [ju]
   rfl
  ·refine zac ?_
   refine za rfl (qe rfl kr (ev1 rfl) rfl rfl) ?_
   refine za rfl (zak [] [] [] rfl (ev1 rfl) (ec (ev1 rfl) en) rfl rfl (zk (kx x) (by simpa using hk)) rfl rfl rfl rfl rfl rfl) ?_
   refine zaa 5 rfl ?_
   refine zab ?_
   refine zad ?_
   refine zai ?_
   refine zaa 1 rfl ?_
   refine za rfl (qV rfl (ev1 rfl) (ev1 rfl)) ?_
   refine zab ?_
   refine qt rfl (rfl) ?_
   refine zai ?_
   refine zaa 1 rfl ?_
   refine za rfl (qe rfl kr (ev1 rfl) rfl rfl) ?_
   refine za rfl (zak [] [] [] rfl (ev1 rfl) (ec (ev1 rfl) en) rfl rfl (yI (kx x)) rfl rfl rfl rfl rfl rfl) ?_
   refine za rfl (qj rfl (ev1 rfl) (ev1 rfl)) ?_
   refine zaa 1 rfl ?_
   refine zah (qd rfl rfl rfl) rfl rfl rfl (zaj (.inl rfl) (ev1 rfl)) ?_
   refine zah (qd rfl rfl rfl) rfl rfl rfl (qm rfl qg (wQ (ev2 rfl) (Wk.slf0 1))) ?_
   refine zah (qd rfl rfl rfl) rfl rfl rfl (qj rfl (ev2 rfl) (ev1 rfl)) ?_
   refine za rfl (qF rfl (ev1 rfl) (ev3 rfl id)) ?_
   refine zaa 1 rfl ?_
   refine zab ?_
   refine zau ?_
   refine qo (rs1 rfl (qB rfl)) rfl ?_
   rw [show gu (kx x) = false by simpa using hk]
   rfl
end Go.Proofs.YtofklkbfkoliiaaGreat
