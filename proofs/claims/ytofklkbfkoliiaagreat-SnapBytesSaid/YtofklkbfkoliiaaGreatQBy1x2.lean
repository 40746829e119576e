/- bytes of snapshots, and snapshots of bytes. No condition. -/
import Derived.Test.YtofklkbfkoliiaaGreatQBy1x1
import Derived.Test.YtofklkbfkoliiaaGreatRows
set_option maxRecDepth 4000
set_option maxHeartbeats 1000000
open Nat renaming zero_add → qbh, reduceAdd → qbj
open List renaming cons_append → qbp, nil_append → qbq, length_take → qbD
namespace Go.Proofs.YtofklkbfkoliiaaGreat
set_option linter.unusedVariables false
set_option linter.unusedSimpArgs false
open Go.RowKit
attribute [local irreducible] jk jG kB kG vo jh yM yf wy gu kw tkN kR kO yj qT kx
theorem un4 : Tryz.prog.underlying 4 = some .bool := by kernel_rfl
theorem W0 (x : SnM) (hf : 0 ≤ x.f) (y : SnM) (z : List Int) (hz : isB z) : DFun Tryz.prog 3 [.agg (snL x), .agg (snL y), .slf 1 (z).length ((z).flatMap uc8)] [] (.val (.bool true)) [] := by
 have hzb : isB (z.take 6000) := yb hz 6000
 have hzl : (z.take 6000).length ≤ 6000 := by rw [qbD]; omega
 obtain ⟨s1, e1, hR, hcase⟩ := K5 (b := (z.take 6000)) (by omega) hzb
 have hfa : 0 ≤ (kx x).f := by unfold kx; exact hf
 have hzf := fl8 z
 have hzm : (z.take 6000).length ≤ z.length := by rw [qbD]; omega
 refine zap (N := 123) 0 (by kernel_rfl) Tryz.func3 rfl rfl rfl (by simp only [fr0, qbh, qbj]; exact rfl) rfl fun s0 hs0 => ?_
 refine ko (t := 2) rfl fun hl2 hL2 => ?_
 refine zad ?_
 refine zam 2 ?_
 refine zac ?_
 refine zal rfl (qp 0 rfl (ev1 rfl) rfl) ?_
 refine zal rfl (qp 1 rfl (ev1 rfl) rfl) ?_
 refine zaa 1 rfl ?_
 refine zab ?_
 refine zad ?_
 refine zai ?_
 refine za rfl (zak [] [] [] rfl (ev1 rfl) en rfl rfl (J2) rfl rfl rfl rfl rfl rfl) ?_
 refine za rfl (ku rfl (ev1 rfl)) ?_
 refine zab ?_
 refine qf rfl (rfl) ?_
 refine zao ?_
 refine zad ?_
 refine zam 2 ?_
 refine qh [([0], []), ([], []), ([1], []), ([], []), ([2], [2]), ([3], [3]), ([2], [2]), ([3], [3])] qJ (by kernel_rfl) ?_
 refine zae rfl rfl (qe rfl kr (ev1 rfl) rfl rfl) ?_
 refine zae rfl rfl (zak [] [] [] rfl (ev1 rfl) (ec (ev1 rfl) en) rfl rfl (yU x) rfl rfl rfl rfl rfl rfl) ?_
 refine zae rfl rfl (qe rfl kr (ev1 rfl) rfl rfl) ?_
 refine zae rfl rfl (zak [] [] [] rfl (ev1 rfl) (ec (ev1 rfl) en) rfl rfl (yU y) rfl rfl rfl rfl rfl rfl) ?_
 refine gg rfl rfl (zan 2 rfl jZ rfl) rfl (by simp only [upd, zaf, zag]; exact rfl) ?_
 refine gg rfl rfl (zan 3 rfl jZ rfl) rfl (by simp only [upd, zaf, zag]; exact rfl) ?_
 refine jq rfl rfl (ka rfl kr (ev1 rfl) (ev1 rfl) rfl rfl rfl rfl) rfl (by simp only [upd, zaf, zag]; exact rfl) ?_
 refine jq rfl rfl (ka rfl kr (ev1 rfl) (ev1 rfl) rfl rfl rfl rfl) rfl (by simp only [upd, zaf, zag]; exact rfl) ?_
 refine ql ?_
 refine zai ?_
 refine za rfl (qe rfl kr (ev1 rfl) rfl rfl) ?_
 refine za rfl (zak [] [] [] rfl (ev1 rfl) (ec (ev1 rfl) en) rfl rfl (Qq (kx x)) rfl rfl rfl rfl rfl rfl) ?_
 refine zaa 1 rfl ?_
 refine zab ?_
 refine zad ?_
 refine zai ?_
 refine za rfl (qe rfl kr (ev1 rfl) rfl rfl) ?_
 refine za rfl (zak [] [] [] rfl (ev1 rfl) (ec (ev1 rfl) en) rfl rfl (yI (kx x)) rfl rfl rfl rfl rfl rfl) ?_
 refine zaa 1 rfl ?_
 refine zab ?_
 refine zad ?_
 refine qh [([], []), ([], []), ([], []), ([], []), ([], []), ([], []), ([], []), ([], []), ([], []), ([], []), ([], []), ([], []), ([], []), ([2], []), ([3], []), ([], []), ([2], []), ([3], []), ([], []), ([], []), ([], []), ([], []), ([2], []), ([0], []), ([], []), ([], []), ([], []), ([], [])] qJ (by kernel_rfl) ?_
 refine zae rfl rfl (zaj (.inl rfl) (ev1 rfl)) ?_
 refine zae rfl rfl (qj rfl (ev1 rfl) (ev1 rfl)) ?_
 refine zae rfl rfl (zaj (.inl rfl) (ev1 rfl)) ?_
 refine zae rfl rfl (Zo rfl un4 (ev1 rfl) (ev1 rfl)) ?_
 refine zae rfl rfl (zaj (.inl rfl) (ev1 rfl)) ?_
 refine zar (qa rfl rfl rfl) rfl rfl (zaj (.inl rfl) (ev1 rfl)) ?_
 refine zar (qa rfl rfl rfl) rfl rfl (qV rfl (ev2 rfl) (ev1 rfl)) ?_
 refine zar (qa rfl rfl rfl) rfl rfl (zaj (.inl rfl) (ev2 rfl)) ?_
 refine zar (jj rfl rfl rfl) rfl rfl (zaj (.inl rfl) (ev1 rfl)) ?_
 refine zar (jj rfl rfl rfl) rfl rfl (qV rfl (ev2 rfl) (ev1 rfl)) ?_
 refine zar (qa rfl rfl rfl) rfl rfl (qF rfl (ev2 rfl) (ev2 rfl)) ?_
 refine zae rfl rfl (qK rfl (ev1 rfl) (ev3 rfl id)) ?_
 refine zae rfl rfl (zaj (.inl rfl) (ev1 rfl)) ?_
 refine zar (qa rfl rfl rfl) rfl rfl (qe rfl kr (ev1 rfl) rfl rfl) ?_
 refine zar (qa rfl rfl rfl) rfl rfl (qe rfl kr (ev1 rfl) rfl rfl) ?_
 refine zar (qa rfl rfl rfl) rfl rfl (zak [] [] [] rfl (ev1 rfl) (ec (ev2 rfl) (ec (ev2 rfl) en)) rfl rfl (zX (kx x) (kx y)) rfl rfl rfl rfl rfl rfl) ?_
 refine zar (qa rfl rfl rfl) rfl rfl (qe rfl kr (ev1 rfl) rfl rfl) ?_
 refine zar (qa rfl rfl rfl) rfl rfl (qe rfl kr (ev1 rfl) rfl rfl) ?_
 refine zar (qa rfl rfl rfl) rfl rfl (zak [] [] [] rfl (ev1 rfl) (ec (ev2 rfl) (ec (ev2 rfl) en)) rfl rfl (yC (kx x) (kx y) (by unfold kx; show (x.ts.take 17).length ≤ _; rw [qbD]; omega)) rfl rfl rfl rfl rfl rfl) ?_
 refine zar (qa rfl rfl rfl) rfl rfl (Zo rfl un4 (ev2 rfl) (ev2 rfl)) ?_
 refine zae rfl rfl (qK rfl (ev1 rfl) (ev3 rfl id)) ?_
 refine zae rfl rfl (zaj (.inl rfl) (ev1 rfl)) ?_
 refine zar (qa rfl rfl rfl) rfl rfl (qe rfl kr (ev1 rfl) rfl rfl) ?_
 refine zar (qa rfl rfl rfl) rfl rfl (qe rfl kr (ev1 rfl) rfl rfl) ?_
 refine zar (qa rfl rfl rfl) rfl rfl (zak [] [] [] rfl (ev1 rfl) (ec (ev2 rfl) en) rfl rfl (yU x) rfl rfl rfl rfl rfl rfl) ?_
 refine zar (qa rfl rfl rfl) rfl rfl (zak [] [] [] rfl (ev1 rfl) (ec (ev2 rfl) (ec (ev2 rfl) en)) rfl rfl (zX (kx x) (kx x)) rfl rfl rfl rfl rfl rfl) ?_
 refine zar (qa rfl rfl rfl) rfl rfl (ku rfl (ev2 rfl)) ?_
 refine zae rfl rfl (qK rfl (ev1 rfl) (ev3 rfl id)) ?_
 refine ql ?_
 refine qf rfl (by rw [K2 _ (by decide), yH _ (by decide), ju]; cases gu (kx x) <;> simp [wv]) ?_
 refine zao ?_
 refine zad ?_
 by_cases hk : gu (kx x) = true
 ·refine zac ?_
  refine za rfl (qe rfl kr (ev1 rfl) rfl rfl) ?_
  refine za rfl (zak [] [] [] rfl (ev1 rfl) (ec (ev1 rfl) en) rfl rfl (vZ (kx x) hk hfa) rfl rfl rfl rfl rfl rfl) ?_
  refine zaa 5 rfl ?_
  refine zab ?_
  refine zai ?_
  refine zaa 1 rfl ?_
  refine zab ?_
  refine zai ?_
  refine zaa 1 rfl ?_
  refine zab ?_
  refine zad ?_
  refine zai ?_
  refine zaa 1 rfl ?_
  refine zab ?_
  refine qt rfl (hk) ?_
  refine zac ?_
  refine za rfl (qe rfl kr (ev1 rfl) rfl rfl) ?_
  refine za rfl (zak [] [] [] rfl (ev1 rfl) (ec (ev1 rfl) en) rfl rfl (Zx (kx x) hk hfa) rfl rfl rfl rfl rfl rfl) ?_
  refine zaa 2 rfl ?_
  refine zab ?_
  refine zad ?_
  refine zai ?_
  refine zaa 2 rfl ?_
  refine za rfl (qV rfl (ev1 rfl) (ev1 rfl)) ?_
  refine zaa 1 rfl ?_
  refine zah (qa rfl rfl rfl) rfl rfl rfl (zaj (.inl rfl) (ev1 rfl)) ?_
  refine zah (qa rfl rfl rfl) rfl rfl rfl (zaj (.inl rfl) (ev1 rfl)) ?_
  refine zah (qa rfl rfl rfl) rfl rfl rfl (zak [] [] [] rfl (ev1 rfl) (ec (ev2 rfl) (ec (ev2 rfl) en)) rfl rfl (wp (kG (kx x)) (kG (kx x))) rfl rfl rfl rfl rfl rfl) ?_
  refine zah (qa rfl rfl rfl) rfl rfl rfl (ku rfl (ev2 rfl)) ?_
  refine za rfl (qK rfl (ev1 rfl) (ev3 rfl id)) ?_
  refine zab ?_
  refine qf rfl (by simp) ?_
  refine zao ?_
  refine zad ?_
  by_cases he : e1 = 0
  ·subst he
   have hs : RdS (z.take 6000) s1 := by
    rcases hcase with ⟨_, h⟩ | ⟨h, _⟩
    ·exact h
    ·exact absurd h (by decide)
   obtain ⟨s2, hs2, hD⟩ : ∃ s, RdS (z.take 6000) s ∧ DFun Tryz.prog 18 [.slf 1 ((z.take 6000)).length (((z.take 6000)).flatMap uc8)] [] (.tup [.agg (snL s), .val (.bool true)]) [] := by
    rcases vA (b := (z.take 6000)) (by omega) hzb with h | ⟨h, _⟩
    ·exact h
    ·exact absurd hs (h _)
   obtain rfl : s2 = s1 := Qs hzb hs2 hs
   have hsl := (gD (snOk_iff.1 hs.ok).1).2.2.2
   refine zac ?_
   refine zaa 2 rfl ?_
   refine za rfl (qm rfl qg (ev1 rfl)) ?_
   refine za rfl (vh rfl (ev1 rfl) (ev1 rfl)) ?_
   refine za rfl ((gb (j := min z.length 6000) rfl qg (ev1 rfl) (qR (ev1 rfl)) (fun _ => by omega) (fun _ => by omega) (fun _ => rfl)).cast (d' := .slf 1 ((z.take 6000)).length (((z.take 6000)).flatMap uc8)) (by rw [uY])) ?_
   refine za rfl (zak [] [] [] rfl (ev1 rfl) (ec (ev1 rfl) en) rfl rfl (gC (z.take 6000) (by omega)) rfl rfl rfl rfl rfl rfl) ?_
   refine zaa 1 rfl ?_
   refine zab ?_
   refine zad ?_
   refine zam 1 ?_
   refine zac ?_
   refine zaa 1 rfl ?_
   refine za rfl (zak [] [] [] rfl (ev1 rfl) (ec (ev1 rfl) en) rfl rfl (hR) rfl rfl rfl rfl rfl rfl) ?_
   refine zaa 3 rfl ?_
   refine zal rfl (zan 4 rfl jZ rfl) ?_
   refine zaq rfl (ka rfl kr (ev1 rfl) (ev1 rfl) rfl rfl rfl rfl) ?_
   refine zaa 1 rfl ?_
   refine zab ?_
   refine zad ?_
   refine zam 1 ?_
   refine zac ?_
   refine zaa 1 rfl ?_
   refine za rfl (zak [] [] [] rfl (ev1 rfl) (ec (ev1 rfl) en) rfl rfl (hD) rfl rfl rfl rfl rfl rfl) ?_
   refine zaa 3 rfl ?_
   refine zal rfl (zan 5 rfl jZ rfl) ?_
   refine zaq rfl (ka rfl kr (ev1 rfl) (ev1 rfl) rfl rfl rfl rfl) ?_
   refine zaa 1 rfl ?_
   refine zab ?_
   refine zad ?_
   refine zai ?_
   refine zaa 1 rfl ?_
   refine za rfl (ku rfl (ev1 rfl)) ?_
   refine zab ?_
   refine qf rfl (rfl) ?_
   refine zao ?_
   refine zad ?_
   refine qh [([4], []), ([5], []), ([], []), ([], []), ([], []), ([], []), ([], []), ([], []), ([], []), ([], []), ([], []), ([], []), ([], []), ([], []), ([], []), ([], []), ([], []), ([], []), ([], []), ([], []), ([], []), ([], []), ([], []), ([], []), ([], []), ([2], []), ([0], []), ([], []), ([], []), ([], []), ([], [])] qJ (by kernel_rfl) ?_
   refine zae rfl rfl (qe rfl kr (ev1 rfl) rfl rfl) ?_
   refine zae rfl rfl (qe rfl kr (ev1 rfl) rfl rfl) ?_
   refine zae rfl rfl (zak [] [] [] rfl (ev1 rfl) (ec (ev1 rfl) (ec (ev1 rfl) en)) rfl rfl (yC s2 s2 (by omega)) rfl rfl rfl rfl rfl rfl) ?_
   refine zae rfl rfl (zaj (.inl rfl) (ev1 rfl)) ?_
   refine zar (qd rfl rfl rfl) rfl rfl (zaj (.inl rfl) (ev1 rfl)) ?_
   refine zar (qd rfl rfl rfl) rfl rfl (qj rfl (ev2 rfl) (ev1 rfl)) ?_
   refine zar (qd rfl rfl rfl) rfl rfl (zaj (.inl rfl) (ev1 rfl)) ?_
   refine zar (qd rfl rfl rfl) rfl rfl (GX rfl un4 (ev2 rfl) (ev2 rfl)) ?_
   refine zae rfl rfl (qF rfl (ev1 rfl) (ev3 rfl id)) ?_
   refine zae rfl rfl (zaj (.inl rfl) (ev1 rfl)) ?_
   refine zar (qd rfl rfl rfl) rfl rfl (zaj (.inl rfl) (ev1 rfl)) ?_
   refine zar (qd rfl rfl rfl) rfl rfl (zaj (.inl rfl) (ev2 rfl)) ?_
   refine zar (zz rfl rfl rfl) rfl rfl (zaj (.inl rfl) (ev1 rfl)) ?_
   refine zar (zz rfl rfl rfl) rfl rfl (qj rfl (ev2 rfl) (ev1 rfl)) ?_
   refine zar (qd rfl rfl rfl) rfl rfl (qK rfl (ev2 rfl) (ev2 rfl)) ?_
   refine zae rfl rfl (qF rfl (ev1 rfl) (ev3 rfl id)) ?_
   refine zae rfl rfl (zaj (.inl rfl) (ev1 rfl)) ?_
   refine zar (qd rfl rfl rfl) rfl rfl (zaj (.inl rfl) (ev1 rfl)) ?_
   refine zar (qd rfl rfl rfl) rfl rfl (zaj (.inl rfl) (ev1 rfl)) ?_
   refine zar (qd rfl rfl rfl) rfl rfl (zaj (.inl rfl) (ev1 rfl)) ?_
   refine zar (qd rfl rfl rfl) rfl rfl (qm rfl qg (ev2 rfl)) ?_
   refine zar (qd rfl rfl rfl) rfl rfl (gb (j := (z.take 6000).length) rfl qg (ev2 rfl) (qR (ev2 rfl)) (fun _ => by omega) (fun _ => by omega) (fun _ => rfl)) ?_
   refine zar (qd rfl rfl rfl) rfl rfl (zak [] [] [] rfl (ev1 rfl) (ec (ev2 rfl) (ec (ev2 rfl) en)) rfl rfl (wp (z.take 6000) (z.take (z.take 6000).length)) rfl rfl rfl rfl rfl rfl) ?_
   refine zae rfl rfl (qF rfl (ev1 rfl) (ev3 rfl id)) ?_
   refine zae rfl rfl (zaj (.inl rfl) (ev1 rfl)) ?_
   refine zar (qd rfl rfl rfl) rfl rfl (qe rfl kr (ev1 rfl) rfl rfl) ?_
   refine zar (qd rfl rfl rfl) rfl rfl (qe rfl kr (ev1 rfl) rfl rfl) ?_
   refine zar (qd rfl rfl rfl) rfl rfl (zak [] [] [] rfl (ev1 rfl) (ec (ev2 rfl) en) rfl rfl (yU x) rfl rfl rfl rfl rfl rfl) ?_
   refine zar (qd rfl rfl rfl) rfl rfl (zak [] [] [] rfl (ev1 rfl) (ec (ev2 rfl) (ec (ev2 rfl) en)) rfl rfl (yC (kx x) (kx x) (by unfold kx; show (x.ts.take 17).length ≤ _; rw [qbD]; omega)) rfl rfl rfl rfl rfl rfl) ?_
   refine zae rfl rfl (qF rfl (ev1 rfl) (ev3 rfl id)) ?_
   refine zae rfl rfl (zaj (.inr rfl) (ev1 rfl)) ?_
   refine ql ?_
   refine zau ?_
   refine qo (rs1 rfl (qB rfl)) rfl ?_
   rw [ju, ju, z1]
   simp
  ·obtain ⟨rfl, hsz, hno⟩ : e1 = 310 ∧ s1 = zSn ∧ ∀ t, ¬ RdS (z.take 6000) t := by
    rcases hcase with ⟨h, _⟩ | h
    ·exact absurd h he
    ·exact h
   subst hsz
   obtain ⟨s2, hs2, hD⟩ : ∃ s : SnM, s.ts.length ≤ 5000 ∧ DFun Tryz.prog 18 [.slf 1 ((z.take 6000)).length (((z.take 6000)).flatMap uc8)] [] (.tup [.agg (snL s), .val (.bool false)]) [] := by
    rcases vA (b := (z.take 6000)) (by omega) hzb with ⟨s, h, _⟩ | ⟨_, h⟩
    ·exact absurd h (hno _)
    ·exact h
   refine zac ?_
   refine zaa 2 rfl ?_
   refine za rfl (qm rfl qg (ev1 rfl)) ?_
   refine za rfl (vh rfl (ev1 rfl) (ev1 rfl)) ?_
   refine za rfl ((gb (j := min z.length 6000) rfl qg (ev1 rfl) (qR (ev1 rfl)) (fun _ => by omega) (fun _ => by omega) (fun _ => rfl)).cast (d' := .slf 1 ((z.take 6000)).length (((z.take 6000)).flatMap uc8)) (by rw [uY])) ?_
   refine za rfl (zak [] [] [] rfl (ev1 rfl) (ec (ev1 rfl) en) rfl rfl (gC (z.take 6000) (by omega)) rfl rfl rfl rfl rfl rfl) ?_
   refine zaa 1 rfl ?_
   refine zab ?_
   refine zad ?_
   refine zam 1 ?_
   refine zac ?_
   refine zaa 1 rfl ?_
   refine za rfl (zak [] [] [] rfl (ev1 rfl) (ec (ev1 rfl) en) rfl rfl (hR) rfl rfl rfl rfl rfl rfl) ?_
   refine zaa 3 rfl ?_
   refine zal rfl (zan 4 rfl jZ rfl) ?_
   refine zaq rfl (ka rfl kr (ev1 rfl) (ev1 rfl) rfl rfl rfl rfl) ?_
   refine zaa 1 rfl ?_
   refine zab ?_
   refine zad ?_
   refine zam 1 ?_
   refine zac ?_
   refine zaa 1 rfl ?_
   refine za rfl (zak [] [] [] rfl (ev1 rfl) (ec (ev1 rfl) en) rfl rfl (hD) rfl rfl rfl rfl rfl rfl) ?_
   refine zaa 3 rfl ?_
   refine zal rfl (zan 5 rfl jZ rfl) ?_
   refine zaq rfl (ka rfl kr (ev1 rfl) (ev1 rfl) rfl rfl rfl rfl) ?_
   refine zaa 1 rfl ?_
   refine zab ?_
   refine zad ?_
   refine zai ?_
   refine zaa 1 rfl ?_
   refine za rfl (ku rfl (ev1 rfl)) ?_
   refine zab ?_
   refine qt rfl (rfl) ?_
   refine zac ?_
   refine za rfl (kH rfl GV jZ) ?_
   refine zaq rfl (gt rfl kr (ev1 rfl) (wQ (ev1 rfl) (Wk.vagg _)) rfl rfl rfl rfl rfl) ?_
   refine zab ?_
   refine zad ?_
   refine jf 5 (KB Zy) rfl rfl (by simp only [qbp, qbq, zaf, zag, List.map]; exact rfl) ?_
   refine qh [([4], []), ([5], []), ([], []), ([], []), ([], []), ([], []), ([], []), ([], []), ([], []), ([], []), ([], []), ([], []), ([], []), ([], []), ([], []), ([], []), ([], []), ([], []), ([], []), ([], []), ([], []), ([], []), ([], []), ([], []), ([], []), ([2], []), ([0], []), ([], []), ([], []), ([], []), ([], [])] qJ (by kernel_rfl) ?_
   refine zae rfl rfl (qe rfl kr (ev1 rfl) rfl rfl) ?_
   refine zae rfl rfl (qe rfl kr (ev1 rfl) rfl rfl) ?_
   refine zae rfl rfl (zak [] [] [] rfl (ev1 rfl) (ec (ev1 rfl) (ec (ev1 rfl) en)) rfl rfl (yC zSn zSn (by decide)) rfl rfl rfl rfl rfl rfl) ?_
   refine zae rfl rfl (zaj (.inl rfl) (ev1 rfl)) ?_
   refine zar (qd rfl rfl rfl) rfl rfl (zaj (.inl rfl) (ev1 rfl)) ?_
   refine zar (qd rfl rfl rfl) rfl rfl (qj rfl (ev2 rfl) (ev1 rfl)) ?_
   refine zar (qd rfl rfl rfl) rfl rfl (zaj (.inl rfl) (ev1 rfl)) ?_
   refine zar (qd rfl rfl rfl) rfl rfl (GX rfl un4 (ev2 rfl) (ev2 rfl)) ?_
   refine zae rfl rfl (qF rfl (ev1 rfl) (ev3 rfl id)) ?_
   refine zae rfl rfl (zaj (.inl rfl) (ev1 rfl)) ?_
   refine zar (qd rfl rfl rfl) rfl rfl (zaj (.inl rfl) (ev1 rfl)) ?_
   refine zar (qd rfl rfl rfl) rfl rfl (zaj (.inl rfl) (ev2 rfl)) ?_
   refine zar (zz rfl rfl rfl) rfl rfl (zaj (.inl rfl) (ev1 rfl)) ?_
   refine zar (zz rfl rfl rfl) rfl rfl (qj rfl (ev2 rfl) (ev1 rfl)) ?_
   refine zar (qd rfl rfl rfl) rfl rfl (qK rfl (ev2 rfl) (ev2 rfl)) ?_
   refine zae rfl rfl (qF rfl (ev1 rfl) (ev3 rfl id)) ?_
   refine zae rfl rfl (zaj (.inl rfl) (ev1 rfl)) ?_
   refine zar (qd rfl rfl rfl) rfl rfl (zaj (.inl rfl) (ev1 rfl)) ?_
   refine zar (qd rfl rfl rfl) rfl rfl (zaj (.inl rfl) (ev1 rfl)) ?_
   refine zar (qd rfl rfl rfl) rfl rfl (zaj (.inl rfl) (ev1 rfl)) ?_
   refine zar (qd rfl rfl rfl) rfl rfl (qm rfl qg (ev2 rfl)) ?_
   refine zar (qd rfl rfl rfl) rfl rfl (gb (j := (z.take 6000).length) rfl qg (ev2 rfl) (qR (ev2 rfl)) (fun _ => by omega) (fun _ => by omega) (fun _ => rfl)) ?_
   refine zar (qd rfl rfl rfl) rfl rfl (zak [] [] [] rfl (ev1 rfl) (ec (ev2 rfl) (ec (ev2 rfl) en)) rfl rfl (wp (z.take 6000) (z.take (z.take 6000).length)) rfl rfl rfl rfl rfl rfl) ?_
   refine zae rfl rfl (qF rfl (ev1 rfl) (ev3 rfl id)) ?_
   refine zae rfl rfl (zaj (.inl rfl) (ev1 rfl)) ?_
   refine zar (qd rfl rfl rfl) rfl rfl (qe rfl kr (ev1 rfl) rfl rfl) ?_
   refine zar (qd rfl rfl rfl) rfl rfl (qe rfl kr (ev1 rfl) rfl rfl) ?_
   refine zar (qd rfl rfl rfl) rfl rfl (zak [] [] [] rfl (ev1 rfl) (ec (ev2 rfl) en) rfl rfl (yU x) rfl rfl rfl rfl rfl rfl) ?_
   refine zar (qd rfl rfl rfl) rfl rfl (zak [] [] [] rfl (ev1 rfl) (ec (ev2 rfl) (ec (ev2 rfl) en)) rfl rfl (yC (kx x) (kx x) (by unfold kx; show (x.ts.take 17).length ≤ _; rw [qbD]; omega)) rfl rfl rfl rfl rfl rfl) ?_
   refine zae rfl rfl (qF rfl (ev1 rfl) (ev3 rfl id)) ?_
   refine zae rfl rfl (zaj (.inr rfl) (ev1 rfl)) ?_
   refine ql ?_
   refine zau ?_
   refine qo (rs1 rfl (qB rfl)) rfl ?_
   rw [ju, ju, z1]
   simp
 ·refine zac ?_
  refine za rfl (qe rfl kr (ev1 rfl) rfl rfl) ?_
  refine za rfl (zak [] [] [] rfl (ev1 rfl) (ec (ev1 rfl) en) rfl rfl (zk (kx x) (by simpa using hk)) rfl rfl rfl rfl rfl rfl) ?_
  refine zaa 5 rfl ?_
  refine zab ?_
  refine zai ?_
  refine zaa 1 rfl ?_
  refine zab ?_
  refine zai ?_
  refine zaa 1 rfl ?_
  refine zab ?_
  refine zad ?_
  refine zai ?_
  refine zaa 1 rfl ?_
  refine zab ?_
  refine qf rfl (by simpa using hk) ?_
  refine zao ?_
  refine zad ?_
  refine zai ?_
  refine zaa 2 rfl ?_
  refine za rfl (qV rfl (ev1 rfl) (ev1 rfl)) ?_
  refine zaa 1 rfl ?_
  refine zah (qa rfl rfl rfl) rfl rfl rfl (zaj (.inl rfl) (ev1 rfl)) ?_
  refine zah (qa rfl rfl rfl) rfl rfl rfl (zaj (.inl rfl) (ev1 rfl)) ?_
  refine zah (qa rfl rfl rfl) rfl rfl rfl (zak [] [] [] rfl (ev1 rfl) (ec (Kv 1 (ev2 rfl)) (ec (Kv 1 (ev2 rfl)) en)) rfl rfl (wp [] []) rfl rfl rfl rfl rfl rfl) ?_
  refine zah (qa rfl rfl rfl) rfl rfl rfl (ku rfl (ev2 rfl)) ?_
  refine za rfl (qK rfl (ev1 rfl) (ev3 rfl id)) ?_
  refine zab ?_
  refine qf rfl (by simp) ?_
  refine zao ?_
  refine zad ?_
  by_cases he : e1 = 0
  ·subst he
   have hs : RdS (z.take 6000) s1 := by
    rcases hcase with ⟨_, h⟩ | ⟨h, _⟩
    ·exact h
    ·exact absurd h (by decide)
   obtain ⟨s2, hs2, hD⟩ : ∃ s, RdS (z.take 6000) s ∧ DFun Tryz.prog 18 [.slf 1 ((z.take 6000)).length (((z.take 6000)).flatMap uc8)] [] (.tup [.agg (snL s), .val (.bool true)]) [] := by
    rcases vA (b := (z.take 6000)) (by omega) hzb with h | ⟨h, _⟩
    ·exact h
    ·exact absurd hs (h _)
   obtain rfl : s2 = s1 := Qs hzb hs2 hs
   have hsl := (gD (snOk_iff.1 hs.ok).1).2.2.2
   refine zac ?_
   refine zaa 2 rfl ?_
   refine za rfl (qm rfl qg (ev1 rfl)) ?_
   refine za rfl (vh rfl (ev1 rfl) (ev1 rfl)) ?_
   refine za rfl ((gb (j := min z.length 6000) rfl qg (ev1 rfl) (qR (ev1 rfl)) (fun _ => by omega) (fun _ => by omega) (fun _ => rfl)).cast (d' := .slf 1 ((z.take 6000)).length (((z.take 6000)).flatMap uc8)) (by rw [uY])) ?_
   refine za rfl (zak [] [] [] rfl (ev1 rfl) (ec (ev1 rfl) en) rfl rfl (gC (z.take 6000) (by omega)) rfl rfl rfl rfl rfl rfl) ?_
   refine zaa 1 rfl ?_
   refine zab ?_
   refine zad ?_
   refine zam 1 ?_
   refine zac ?_
   refine zaa 1 rfl ?_
   refine za rfl (zak [] [] [] rfl (ev1 rfl) (ec (ev1 rfl) en) rfl rfl (hR) rfl rfl rfl rfl rfl rfl) ?_
   refine zaa 3 rfl ?_
   refine zal rfl (zan 4 rfl jZ rfl) ?_
   refine zaq rfl (ka rfl kr (ev1 rfl) (ev1 rfl) rfl rfl rfl rfl) ?_
   refine zaa 1 rfl ?_
   refine zab ?_
   refine zad ?_
   refine zam 1 ?_
   refine zac ?_
   refine zaa 1 rfl ?_
   refine za rfl (zak [] [] [] rfl (ev1 rfl) (ec (ev1 rfl) en) rfl rfl (hD) rfl rfl rfl rfl rfl rfl) ?_
   refine zaa 3 rfl ?_
   refine zal rfl (zan 5 rfl jZ rfl) ?_
   refine zaq rfl (ka rfl kr (ev1 rfl) (ev1 rfl) rfl rfl rfl rfl) ?_
   refine zaa 1 rfl ?_
   refine zab ?_
   refine zad ?_
   refine zai ?_
   refine zaa 1 rfl ?_
   refine za rfl (ku rfl (ev1 rfl)) ?_
   refine zab ?_
   refine qf rfl (rfl) ?_
   refine zao ?_
   refine zad ?_
   refine qh [([4], []), ([5], []), ([], []), ([], []), ([], []), ([], []), ([], []), ([], []), ([], []), ([], []), ([], []), ([], []), ([], []), ([], []), ([], []), ([], []), ([], []), ([], []), ([], []), ([], []), ([], []), ([], []), ([], []), ([], []), ([], []), ([2], []), ([0], []), ([], []), ([], []), ([], []), ([], [])] qJ (by kernel_rfl) ?_
   refine zae rfl rfl (qe rfl kr (ev1 rfl) rfl rfl) ?_
   refine zae rfl rfl (qe rfl kr (ev1 rfl) rfl rfl) ?_
   refine zae rfl rfl (zak [] [] [] rfl (ev1 rfl) (ec (ev1 rfl) (ec (ev1 rfl) en)) rfl rfl (yC s2 s2 (by omega)) rfl rfl rfl rfl rfl rfl) ?_
   refine zae rfl rfl (zaj (.inl rfl) (ev1 rfl)) ?_
   refine zar (qd rfl rfl rfl) rfl rfl (zaj (.inl rfl) (ev1 rfl)) ?_
   refine zar (qd rfl rfl rfl) rfl rfl (qj rfl (ev2 rfl) (ev1 rfl)) ?_
   refine zar (qd rfl rfl rfl) rfl rfl (zaj (.inl rfl) (ev1 rfl)) ?_
   refine zar (qd rfl rfl rfl) rfl rfl (GX rfl un4 (ev2 rfl) (ev2 rfl)) ?_
   refine zae rfl rfl (qF rfl (ev1 rfl) (ev3 rfl id)) ?_
   refine zae rfl rfl (zaj (.inl rfl) (ev1 rfl)) ?_
   refine zar (qd rfl rfl rfl) rfl rfl (zaj (.inl rfl) (ev1 rfl)) ?_
   refine zar (qd rfl rfl rfl) rfl rfl (zaj (.inl rfl) (ev2 rfl)) ?_
   refine zar (zz rfl rfl rfl) rfl rfl (zaj (.inl rfl) (ev1 rfl)) ?_
   refine zar (zz rfl rfl rfl) rfl rfl (qj rfl (ev2 rfl) (ev1 rfl)) ?_
   refine zar (qd rfl rfl rfl) rfl rfl (qK rfl (ev2 rfl) (ev2 rfl)) ?_
   refine zae rfl rfl (qF rfl (ev1 rfl) (ev3 rfl id)) ?_
   refine zae rfl rfl (zaj (.inl rfl) (ev1 rfl)) ?_
   refine zar (qd rfl rfl rfl) rfl rfl (zaj (.inl rfl) (ev1 rfl)) ?_
   refine zar (qd rfl rfl rfl) rfl rfl (zaj (.inl rfl) (ev1 rfl)) ?_
   refine zar (qd rfl rfl rfl) rfl rfl (zaj (.inl rfl) (ev1 rfl)) ?_
   refine zar (qd rfl rfl rfl) rfl rfl (qm rfl qg (ev2 rfl)) ?_
   refine zar (qd rfl rfl rfl) rfl rfl (gb (j := (z.take 6000).length) rfl qg (ev2 rfl) (qR (ev2 rfl)) (fun _ => by omega) (fun _ => by omega) (fun _ => rfl)) ?_
   refine zar (qd rfl rfl rfl) rfl rfl (zak [] [] [] rfl (ev1 rfl) (ec (ev2 rfl) (ec (ev2 rfl) en)) rfl rfl (wp (z.take 6000) (z.take (z.take 6000).length)) rfl rfl rfl rfl rfl rfl) ?_
   refine zae rfl rfl (qF rfl (ev1 rfl) (ev3 rfl id)) ?_
   refine zae rfl rfl (zaj (.inl rfl) (ev1 rfl)) ?_
   refine zar (qd rfl rfl rfl) rfl rfl (qe rfl kr (ev1 rfl) rfl rfl) ?_
   refine zar (qd rfl rfl rfl) rfl rfl (qe rfl kr (ev1 rfl) rfl rfl) ?_
   refine zar (qd rfl rfl rfl) rfl rfl (zak [] [] [] rfl (ev1 rfl) (ec (ev2 rfl) en) rfl rfl (yU x) rfl rfl rfl rfl rfl rfl) ?_
   refine zar (qd rfl rfl rfl) rfl rfl (zak [] [] [] rfl (ev1 rfl) (ec (ev2 rfl) (ec (ev2 rfl) en)) rfl rfl (yC (kx x) (kx x) (by unfold kx; show (x.ts.take 17).length ≤ _; rw [qbD]; omega)) rfl rfl rfl rfl rfl rfl) ?_
   refine zae rfl rfl (qF rfl (ev1 rfl) (ev3 rfl id)) ?_
   refine zae rfl rfl (zaj (.inr rfl) (ev1 rfl)) ?_
   refine ql ?_
   refine zau ?_
   refine qo (rs1 rfl (qB rfl)) rfl ?_
   rw [ju, ju, z1]
   simp
  ·obtain ⟨rfl, hsz, hno⟩ : e1 = 310 ∧ s1 = zSn ∧ ∀ t, ¬ RdS (z.take 6000) t := by
    rcases hcase with ⟨h, _⟩ | h
    ·exact absurd h he
    ·exact h
   subst hsz
   obtain ⟨s2, hs2, hD⟩ : ∃ s : SnM, s.ts.length ≤ 5000 ∧ DFun Tryz.prog 18 [.slf 1 ((z.take 6000)).length (((z.take 6000)).flatMap uc8)] [] (.tup [.agg (snL s), .val (.bool false)]) [] := by
    rcases vA (b := (z.take 6000)) (by omega) hzb with ⟨s, h, _⟩ | ⟨_, h⟩
    ·exact absurd h (hno _)
    ·exact h
   refine zac ?_
   refine zaa 2 rfl ?_
   refine za rfl (qm rfl qg (ev1 rfl)) ?_
   refine za rfl (vh rfl (ev1 rfl) (ev1 rfl)) ?_
   refine za rfl ((gb (j := min z.length 6000) rfl qg (ev1 rfl) (qR (ev1 rfl)) (fun _ => by omega) (fun _ => by omega) (fun _ => rfl)).cast (d' := .slf 1 ((z.take 6000)).length (((z.take 6000)).flatMap uc8)) (by rw [uY])) ?_
   refine za rfl (zak [] [] [] rfl (ev1 rfl) (ec (ev1 rfl) en) rfl rfl (gC (z.take 6000) (by omega)) rfl rfl rfl rfl rfl rfl) ?_
   refine zaa 1 rfl ?_
   refine zab ?_
   refine zad ?_
   refine zam 1 ?_
   refine zac ?_
   refine zaa 1 rfl ?_
   refine za rfl (zak [] [] [] rfl (ev1 rfl) (ec (ev1 rfl) en) rfl rfl (hR) rfl rfl rfl rfl rfl rfl) ?_
   refine zaa 3 rfl ?_
   refine zal rfl (zan 4 rfl jZ rfl) ?_
   refine zaq rfl (ka rfl kr (ev1 rfl) (ev1 rfl) rfl rfl rfl rfl) ?_
   refine zaa 1 rfl ?_
   refine zab ?_
   refine zad ?_
   refine zam 1 ?_
   refine zac ?_
   refine zaa 1 rfl ?_
   refine za rfl (zak [] [] [] rfl (ev1 rfl) (ec (ev1 rfl) en) rfl rfl (hD) rfl rfl rfl rfl rfl rfl) ?_
   refine zaa 3 rfl ?_
   refine zal rfl (zan 5 rfl jZ rfl) ?_
   refine zaq rfl (ka rfl kr (ev1 rfl) (ev1 rfl) rfl rfl rfl rfl) ?_
   refine zaa 1 rfl ?_
   refine zab ?_
   refine zad ?_
   refine zai ?_
   refine zaa 1 rfl ?_
   refine za rfl (ku rfl (ev1 rfl)) ?_
   refine zab ?_
   refine qt rfl (rfl) ?_
   refine zac ?_
   refine za rfl (kH rfl GV jZ) ?_
   refine zaq rfl (gt rfl kr (ev1 rfl) (wQ (ev1 rfl) (Wk.vagg _)) rfl rfl rfl rfl rfl) ?_
   refine zab ?_
   refine zad ?_
   refine jf 5 (KB Zy) rfl rfl (by simp only [qbp, qbq, zaf, zag, List.map]; exact rfl) ?_
   refine qh [([4], []), ([5], []), ([], []), ([], []), ([], []), ([], []), ([], []), ([], []), ([], []), ([], []), ([], []), ([], []), ([], []), ([], []), ([], []), ([], []), ([], []), ([], []), ([], []), ([], []), ([], []), ([], []), ([], []), ([], []), ([], []), ([2], []), ([0], []), ([], []), ([], []), ([], []), ([], [])] qJ (by kernel_rfl) ?_
   refine zae rfl rfl (qe rfl kr (ev1 rfl) rfl rfl) ?_
   refine zae rfl rfl (qe rfl kr (ev1 rfl) rfl rfl) ?_
   refine zae rfl rfl (zak [] [] [] rfl (ev1 rfl) (ec (ev1 rfl) (ec (ev1 rfl) en)) rfl rfl (yC zSn zSn (by decide)) rfl rfl rfl rfl rfl rfl) ?_
   refine zae rfl rfl (zaj (.inl rfl) (ev1 rfl)) ?_
   refine zar (qd rfl rfl rfl) rfl rfl (zaj (.inl rfl) (ev1 rfl)) ?_
   refine zar (qd rfl rfl rfl) rfl rfl (qj rfl (ev2 rfl) (ev1 rfl)) ?_
   refine zar (qd rfl rfl rfl) rfl rfl (zaj (.inl rfl) (ev1 rfl)) ?_
   refine zar (qd rfl rfl rfl) rfl rfl (GX rfl un4 (ev2 rfl) (ev2 rfl)) ?_
   refine zae rfl rfl (qF rfl (ev1 rfl) (ev3 rfl id)) ?_
   refine zae rfl rfl (zaj (.inl rfl) (ev1 rfl)) ?_
   refine zar (qd rfl rfl rfl) rfl rfl (zaj (.inl rfl) (ev1 rfl)) ?_
   refine zar (qd rfl rfl rfl) rfl rfl (zaj (.inl rfl) (ev2 rfl)) ?_
   refine zar (zz rfl rfl rfl) rfl rfl (zaj (.inl rfl) (ev1 rfl)) ?_
   refine zar (zz rfl rfl rfl) rfl rfl (qj rfl (ev2 rfl) (ev1 rfl)) ?_
   refine zar (qd rfl rfl rfl) rfl rfl (qK rfl (ev2 rfl) (ev2 rfl)) ?_
   refine zae rfl rfl (qF rfl (ev1 rfl) (ev3 rfl id)) ?_
   refine zae rfl rfl (zaj (.inl rfl) (ev1 rfl)) ?_
   refine zar (qd rfl rfl rfl) rfl rfl (zaj (.inl rfl) (ev1 rfl)) ?_
   refine zar (qd rfl rfl rfl) rfl rfl (zaj (.inl rfl) (ev1 rfl)) ?_
   refine zar (qd rfl rfl rfl) rfl rfl (zaj (.inl rfl) (ev1 rfl)) ?_
   refine zar (qd rfl rfl rfl) rfl rfl (qm rfl qg (ev2 rfl)) ?_
   refine zar (qd rfl rfl rfl) rfl rfl (gb (j := (z.take 6000).length) rfl qg (ev2 rfl) (qR (ev2 rfl)) (fun _ => by omega) (fun _ => by omega) (fun _ => rfl)) ?_
   refine zar (qd rfl rfl rfl) rfl rfl (zak [] [] [] rfl (ev1 rfl) (ec (ev2 rfl) (ec (ev2 rfl) en)) rfl rfl (wp (z.take 6000) (z.take (z.take 6000).length)) rfl rfl rfl rfl rfl rfl) ?_
   refine zae rfl rfl (qF rfl (ev1 rfl) (ev3 rfl id)) ?_
   refine zae rfl rfl (zaj (.inl rfl) (ev1 rfl)) ?_
   refine zar (qd rfl rfl rfl) rfl rfl (qe rfl kr (ev1 rfl) rfl rfl) ?_
   refine zar (qd rfl rfl rfl) rfl rfl (qe rfl kr (ev1 rfl) rfl rfl) ?_
   refine zar (qd rfl rfl rfl) rfl rfl (zak [] [] [] rfl (ev1 rfl) (ec (ev2 rfl) en) rfl rfl (yU x) rfl rfl rfl rfl rfl rfl) ?_
   refine zar (qd rfl rfl rfl) rfl rfl (zak [] [] [] rfl (ev1 rfl) (ec (ev2 rfl) (ec (ev2 rfl) en)) rfl rfl (yC (kx x) (kx x) (by unfold kx; show (x.ts.take 17).length ≤ _; rw [qbD]; omega)) rfl rfl rfl rfl rfl rfl) ?_
   refine zae rfl rfl (qF rfl (ev1 rfl) (ev3 rfl id)) ?_
   refine zae rfl rfl (zaj (.inr rfl) (ev1 rfl)) ?_
   refine ql ?_
   refine zau ?_
   refine qo (rs1 rfl (qB rfl)) rfl ?_
   rw [ju, ju, z1]
   simp
end Go.Proofs.YtofklkbfkoliiaaGreat
