/- more pieces put, in memory of their own; what is cut is one's own; piles, as the law looks at them; bytes of snapshots, and snapshots of bytes; piles, one piece more by one piece more. No condition. -/
import Derived.Test.YtofklkbfkoliiaaGreatV7
import Derived.Test.YtofklkbfkoliiaaGreatRows
set_option maxRecDepth 4000
set_option maxHeartbeats 1000000
open List renaming getElem?_eq_getElem → qbr, length_append → qbz, cons_append → qbD, nil_append → qbF, replicate → qbH, length_take → qbS, getD_eq_getElem?_getD → qbV, length_cons → qbW, mem_cons_self → qb1, mem_cons_of_mem → qb4, mem_of_getElem? → qb7, getElem?_map → qca, length_map → qcf, take_length → qch
open Nat renaming zero_add → qbs, reduceAdd → qbt, le_trans → qbK, le_refl → qbM, zero_le → qb3, mul_le_mul_right → qb6, succ_mul → qcg
open Bool renaming and_eq_true → qbu, or_eq_false_iff → qbv, not_eq_true' → qbx, not_eq_false' → qby, or_eq_true → qbE
open Option.some renaming inj → qbw
open Go.IntWalk renaming i64_in → qbB
open Int renaming not_lt → qbQ, not_le → qbR
namespace Go.Proofs.YtofklkbfkoliiaaGreat
set_option linter.unusedVariables false
set_option linter.unusedSimpArgs false
open Go.RowKit
attribute [local irreducible] tkN jC kG kU kH
structure FnM where
 sn : Int
 mn : Int
 ns : List (Option Nat)
 R : List (List Int)
def FnM.pi (s : FnM) : PiM := ⟨s.sn, s.mn, psN s.ns s.R⟩
def xO (s : FnM) (x : PcM) : FnM := if (kU s.pi x).1 = 0 then (if s.sn < x.sn then ⟨x.sn, x.mn, (qbH x.mn.toNat none).set x.ix.toNat (some s.R.length), s.R ++ [x.b]⟩ else ⟨s.sn, s.mn, s.ns.set x.ix.toNat (some s.R.length), s.R ++ [x.b]⟩) else s
def kF : List PcM → FnM → FnM
 | [], s => s
 | x :: r, s => kF r (xO s x)
theorem vR (l : List PcM) {k : Nat} (s : FnM) (h : k < l.length) : kF (l.take (k + 1)) s = xO (kF (l.take k) s) l[k] := by
 induction l generalizing k s with
 | nil => simp at h
 | cons x r ih =>
  cases k with
  | zero => simp [kF]
  | succ k =>
   rw [List.take_succ_cons, List.take_succ_cons, kF, kF, ih _ (by simpa using h)]
   rfl
theorem H3 (n : Nat) (R : List (List Int)) : psN (qbH n none) R = qbH n [] := by
 unfold psN
 rw [List.map_replicate]
 rfl
theorem VA (n : Nat) (R : List (List Int)) : okN (qbH n none) R := fun m hm => by
 cases (List.mem_replicate.1 hm).2
theorem H4 {s : FnM} (hok : okN s.ns s.R) (hp : kH s.pi = true) (x : PcM) : okN (xO s x).ns (xO s x).R ∧ (xO s x).pi = (kU s.pi x).2 := by
 unfold xO
 by_cases h0 : (kU s.pi x).1 = 0
 ·rw [if_pos h0]
  by_cases h : s.sn < x.sn
  ·rw [if_pos h]
   obtain ⟨hx, e⟩ := J6 hp x h0 h
   rw [e]
   refine ⟨Vy (VA _ _) (Vl hx) _, ?_⟩
   unfold FnM.pi
   dsimp only
   rw [Vz (VA _ _), H3]
  ·rw [if_neg h]
   obtain ⟨hx, h2, h3, _, e⟩ := z7 hp x h0 h
   rw [e]
   refine ⟨Vy hok (Vl hx) _, ?_⟩
   unfold FnM.pi
   dsimp only
   rw [Vz hok]
 ·rw [if_neg h0, zf hp x h0]
  exact ⟨hok, rfl⟩
theorem Kh {s : FnM} (hok : okN s.ns s.R) (hp : kH s.pi = true) (l : List PcM) : ∀ k, k ≤ l.length → okN (kF (l.take k) s).ns (kF (l.take k) s).R ∧ (kF (l.take k) s).pi = (qF (l.take k) (s.pi, 0)).1
 | 0, _ => ⟨hok, rfl⟩
 | k + 1, hk => by
  obtain ⟨h1, h2⟩ := Kh hok hp l k (by omega)
  rw [vR _ _ (by omega), k5 _ _ (by omega)]
  have hq := (wy hp (l.take k) 0).1
  rw [← h2] at hq
  obtain ⟨g1, g2⟩ := H4 h1 hq l[k]
  exact ⟨g1, by rw [g2, h2]⟩
def s0P (p : PiM) : FnM := ⟨p.sn, p.mn, (nsF (p.ps.take p.ps.length) ([], [])).1, (nsF (p.ps.take p.ps.length) ([], [])).2⟩
theorem Za (p : PiM) : okN (s0P p).ns (s0P p).R ∧ (s0P p).pi = p := by
 obtain ⟨h1, h2, h3⟩ := J9 (ps := p.ps) p.ps.length (qbM _)
 refine ⟨h2, ?_⟩
 unfold FnM.pi s0P
 dsimp only
 rw [h3, qch]
theorem Zb {ns : List (Option Nat)} {R : List (List Int)} {k : Nat} (h : k < (psN ns R).length) : ∃ o, ns[k]? = some o ∧ (psN ns R)[k] = YC R o := by
 have hk : k < ns.length := by rw [xa] at h; exact h
 refine ⟨ns[k], qbr hk, ?_⟩
 refine (List.getElem_eq_iff h).2 ?_
 unfold psN
 rw [qca, qbr hk]
 rfl
theorem qbl {ns : List (Option Nat)} {R : List (List Int)} (hok : okN ns R) {k : Nat} (h : k < (psN ns R).length) (he : emp (psN ns R)[k] = true) : ns[k]? = some none := by
 obtain ⟨o, h1, h2⟩ := Zb h
 cases o with
 | none => exact h1
 | some m =>
  obtain ⟨hm, hn⟩ := hok m (qb7 h1)
  rw [h2] at he
  have he : emp (R.getD m []) = true := he
  rw [qbV, qbr hm] at he
  rw [show (some R[m]).getD [] = R[m] from rfl, hn] at he
  cases he
theorem H5 {ns : List (Option Nat)} {R : List (List Int)} (hok : okN ns R) {k : Nat} (h : k < (psN ns R).length) (he : emp (psN ns R)[k] = false) : ∃ m, ns[k]? = some (some m) ∧ ∃ hm : m < R.length, emp R[m] = false := by
 obtain ⟨o, h1, h2⟩ := Zb h
 cases o with
 | none =>
  rw [h2] at he
  cases he
 | some m => exact ⟨m, h1, hok m (qb7 h1)⟩
theorem H6 (sn mn : Int) (ns : List (Option Nat)) (R : List (List Int)) (x : PcM) (hx : pcB x = false) : DFun Tryz.prog 76 [.loc 0 0, .agg (pcD x)] [.mix 118 [.val (.int .u64 sn), .val (.int .i64 mn), .arr 1], .arx 30 1 (ns).length ((ns).flatMap fun o => [cN 2 o]), .fam (jq (R))] (.val (.int .i64 311)) [.mix 118 [.val (.int .u64 sn), .val (.int .i64 mn), .arr 1], .arx 30 1 (ns).length ((ns).flatMap fun o => [cN 2 o]), .fam (jq (R))] := by
 refine qo (N := 9) 3 (by kernel_rfl) Tryz.func76 rfl rfl rfl (by simp only [fr0, qbs, qbt]; exact rfl) rfl fun s0 hs0 => ?_
 refine qz rfl hs0 ?_
 refine zao 2 ?_
 refine zac ?_
 refine zak rfl (qd 3 rfl (ev1 rfl) rfl) ?_
 refine zak rfl (zaq 4 rfl jT rfl) ?_
 refine zab ?_
 refine qr (l0 := [_]) rfl rfl rfl rfl rfl hs0 ?_
 refine za rfl (qV rfl en (ec (ev1 rfl) en)) ?_
 refine zab ⟨_, _, _, 5, ev1 rfl, qbK hs0 (by decide), rfl, ?_⟩
 have hs1 : s0.M.length ≤ 5 := qbK hs0 (by decide)
 refine qy rfl hs0 ?_
 refine zah ?_
 refine zaa 1 rfl ?_
 refine za rfl (qb rfl kI (ev1 rfl) rfl rfl) ?_
 refine ky rfl (qw [0, 1, 2] [] [] rfl (ev1 rfl) (ec (ev1 rfl) (ec (ev1 rfl) en)) rfl (by exact jd _ _ ⟨rfl, (by first | exact rfl | exact arx_fits rfl rfl (vwL_flat (fun _ => rfl) _) | exact kp rfl rfl (qf (fun _ => rfl) _) | exact qp rfl rfl (fun _ => rfl) | exact kr rfl rfl (fun _ => rfl) | exact qM rfl rfl rfl), rfl, trivial⟩) (HZ sn mn ns R x hx) rfl rfl rfl (by exact (wrc rfl (wrc (by first | exact rfl | exact kB (fun _ => rfl) | exact kg (qf (fun _ => rfl) _) | exact q9 (fun _ => rfl) | exact ki (fun _ => rfl) | exact sbN rfl) (wrc rfl rfl)))) rfl rfl) rfl ?_
 refine jH (qQ [4] [] rfl rfl rfl (jU _ _) rfl rfl rfl rfl rfl) ?_
 refine ko [0, 1, 2] (rs1 rfl (js qX rfl rfl rfl)) rfl rfl ?_ ⟨rfl, qM rfl rfl rfl, rfl, trivial⟩
 rfl
theorem H7 (sn mn : Int) (ns : List (Option Nat)) (R : List (List Int)) (x : PcM) (hx : pcB x = true) (h2 : x.sn < sn) : DFun Tryz.prog 76 [.loc 0 0, .agg (pcD x)] [.mix 118 [.val (.int .u64 sn), .val (.int .i64 mn), .arr 1], .arx 30 1 (ns).length ((ns).flatMap fun o => [cN 2 o]), .fam (jq (R))] (.val (.int .i64 241)) [.mix 118 [.val (.int .u64 sn), .val (.int .i64 mn), .arr 1], .arx 30 1 (ns).length ((ns).flatMap fun o => [cN 2 o]), .fam (jq (R))] := by
 refine qo (N := 9) 3 (by kernel_rfl) Tryz.func76 rfl rfl rfl (by simp only [fr0, qbs, qbt]; exact rfl) rfl fun s0 hs0 => ?_
 refine qz rfl hs0 ?_
 refine zao 2 ?_
 refine zac ?_
 refine zak rfl (qd 3 rfl (ev1 rfl) rfl) ?_
 refine zak rfl (zaq 4 rfl jT rfl) ?_
 refine zab ?_
 refine qr (l0 := [_]) rfl rfl rfl rfl rfl hs0 ?_
 refine za rfl (qV rfl en (ec (ev1 rfl) en)) ?_
 refine zab ⟨_, _, _, 5, ev1 rfl, qbK hs0 (by decide), rfl, ?_⟩
 have hs1 : s0.M.length ≤ 5 := qbK hs0 (by decide)
 refine qy rfl hs0 ?_
 refine zah ?_
 refine zaa 1 rfl ?_
 refine za rfl (qb rfl kI (ev1 rfl) rfl rfl) ?_
 refine ky rfl (qw [0, 1, 2] [] [] rfl (ev1 rfl) (ec (ev1 rfl) (ec (ev1 rfl) en)) rfl (by exact jd _ _ ⟨rfl, (by first | exact rfl | exact arx_fits rfl rfl (vwL_flat (fun _ => rfl) _) | exact kp rfl rfl (qf (fun _ => rfl) _) | exact qp rfl rfl (fun _ => rfl) | exact kr rfl rfl (fun _ => rfl) | exact qM rfl rfl rfl), rfl, trivial⟩) (H0 sn mn ns R x hx h2) rfl rfl rfl (by exact (wrc rfl (wrc (by first | exact rfl | exact kB (fun _ => rfl) | exact kg (qf (fun _ => rfl) _) | exact q9 (fun _ => rfl) | exact ki (fun _ => rfl) | exact sbN rfl) (wrc rfl rfl)))) rfl rfl) rfl ?_
 refine jH (qQ [4] [] rfl rfl rfl (jU _ _) rfl rfl rfl rfl rfl) ?_
 refine ko [0, 1, 2] (rs1 rfl (js qX rfl rfl rfl)) rfl rfl ?_ ⟨rfl, qM rfl rfl rfl, rfl, trivial⟩
 rfl
theorem H8 (sn mn : Int) (ns : List (Option Nat)) (R : List (List Int)) (x : PcM) (hx : pcB x = true) (h2 : x.sn = sn) (h3 : x.mn ≠ mn) : DFun Tryz.prog 76 [.loc 0 0, .agg (pcD x)] [.mix 118 [.val (.int .u64 sn), .val (.int .i64 mn), .arr 1], .arx 30 1 (ns).length ((ns).flatMap fun o => [cN 2 o]), .fam (jq (R))] (.val (.int .i64 311)) [.mix 118 [.val (.int .u64 sn), .val (.int .i64 mn), .arr 1], .arx 30 1 (ns).length ((ns).flatMap fun o => [cN 2 o]), .fam (jq (R))] := by
 refine qo (N := 9) 3 (by kernel_rfl) Tryz.func76 rfl rfl rfl (by simp only [fr0, qbs, qbt]; exact rfl) rfl fun s0 hs0 => ?_
 refine qz rfl hs0 ?_
 refine zao 2 ?_
 refine zac ?_
 refine zak rfl (qd 3 rfl (ev1 rfl) rfl) ?_
 refine zak rfl (zaq 4 rfl jT rfl) ?_
 refine zab ?_
 refine qr (l0 := [_]) rfl rfl rfl rfl rfl hs0 ?_
 refine za rfl (qV rfl en (ec (ev1 rfl) en)) ?_
 refine zab ⟨_, _, _, 5, ev1 rfl, qbK hs0 (by decide), rfl, ?_⟩
 have hs1 : s0.M.length ≤ 5 := qbK hs0 (by decide)
 refine qy rfl hs0 ?_
 refine zah ?_
 refine zaa 1 rfl ?_
 refine za rfl (qb rfl kI (ev1 rfl) rfl rfl) ?_
 refine ky rfl (qw [0, 1, 2] [] [] rfl (ev1 rfl) (ec (ev1 rfl) (ec (ev1 rfl) en)) rfl (by exact jd _ _ ⟨rfl, (by first | exact rfl | exact arx_fits rfl rfl (vwL_flat (fun _ => rfl) _) | exact kp rfl rfl (qf (fun _ => rfl) _) | exact qp rfl rfl (fun _ => rfl) | exact kr rfl rfl (fun _ => rfl) | exact qM rfl rfl rfl), rfl, trivial⟩) (H1 sn mn ns R x hx h2 h3) rfl rfl rfl (by exact (wrc rfl (wrc (by first | exact rfl | exact kB (fun _ => rfl) | exact kg (qf (fun _ => rfl) _) | exact q9 (fun _ => rfl) | exact ki (fun _ => rfl) | exact sbN rfl) (wrc rfl rfl)))) rfl rfl) rfl ?_
 refine jH (qQ [4] [] rfl rfl rfl (jU _ _) rfl rfl rfl rfl rfl) ?_
 refine ko [0, 1, 2] (rs1 rfl (js qX rfl rfl rfl)) rfl rfl ?_ ⟨rfl, qM rfl rfl rfl, rfl, trivial⟩
 rfl
theorem H9 (sn mn : Int) (ns : List (Option Nat)) (R : List (List Int)) (x : PcM) (hx : pcB x = true) (h2 : x.sn = sn) (h3 : x.mn = mn) (h4 : x.ix.toNat < ns.length) (m : Nat) (h5 : ns[x.ix.toNat]? = some (some m)) (hm : m < R.length) (he : emp R[m] = false) : DFun Tryz.prog 76 [.loc 0 0, .agg (pcD x)] [.mix 118 [.val (.int .u64 sn), .val (.int .i64 mn), .arr 1], .arx 30 1 (ns).length ((ns).flatMap fun o => [cN 2 o]), .fam (jq (R))] (.val (.int .i64 5)) [.mix 118 [.val (.int .u64 sn), .val (.int .i64 mn), .arr 1], .arx 30 1 (ns).length ((ns).flatMap fun o => [cN 2 o]), .fam (jq (R))] := by
 refine qo (N := 9) 3 (by kernel_rfl) Tryz.func76 rfl rfl rfl (by simp only [fr0, qbs, qbt]; exact rfl) rfl fun s0 hs0 => ?_
 refine qz rfl hs0 ?_
 refine zao 2 ?_
 refine zac ?_
 refine zak rfl (qd 3 rfl (ev1 rfl) rfl) ?_
 refine zak rfl (zaq 4 rfl jT rfl) ?_
 refine zab ?_
 refine qr (l0 := [_]) rfl rfl rfl rfl rfl hs0 ?_
 refine za rfl (qV rfl en (ec (ev1 rfl) en)) ?_
 refine zab ⟨_, _, _, 5, ev1 rfl, qbK hs0 (by decide), rfl, ?_⟩
 have hs1 : s0.M.length ≤ 5 := qbK hs0 (by decide)
 refine qy rfl hs0 ?_
 refine zah ?_
 refine zaa 1 rfl ?_
 refine za rfl (qb rfl kI (ev1 rfl) rfl rfl) ?_
 refine ky rfl (qw [0, 1, 2] [] [] rfl (ev1 rfl) (ec (ev1 rfl) (ec (ev1 rfl) en)) rfl (by exact jd _ _ ⟨rfl, (by first | exact rfl | exact arx_fits rfl rfl (vwL_flat (fun _ => rfl) _) | exact kp rfl rfl (qf (fun _ => rfl) _) | exact qp rfl rfl (fun _ => rfl) | exact kr rfl rfl (fun _ => rfl) | exact qM rfl rfl rfl), rfl, trivial⟩) (H2 sn mn ns R x hx h2 h3 h4 m h5 hm he) rfl rfl rfl (by exact (wrc rfl (wrc (by first | exact rfl | exact kB (fun _ => rfl) | exact kg (qf (fun _ => rfl) _) | exact q9 (fun _ => rfl) | exact ki (fun _ => rfl) | exact sbN rfl) (wrc rfl rfl)))) rfl rfl) rfl ?_
 refine jH (qQ [4] [] rfl rfl rfl (jU _ _) rfl rfl rfl rfl rfl) ?_
 refine ko [0, 1, 2] (rs1 rfl (js qX rfl rfl rfl)) rfl rfl ?_ ⟨rfl, qM rfl rfl rfl, rfl, trivial⟩
 rfl
theorem qbm (sn mn : Int) (ns : List (Option Nat)) (R : List (List Int)) (x : PcM) (hx : pcB x = true) (h2 : x.sn = sn) (h3 : x.mn = mn) (h4 : x.ix.toNat < ns.length) (h5 : ns[x.ix.toNat]? = some none) : DFun Tryz.prog 76 [.loc 0 0, .agg (pcD x)] [.mix 118 [.val (.int .u64 sn), .val (.int .i64 mn), .arr 1], .arx 30 1 (ns).length ((ns).flatMap fun o => [cN 2 o]), .fam (jq (R))] (.val (.int .i64 0)) [.mix 118 [.val (.int .u64 sn), .val (.int .i64 mn), .arr 1], .arx 30 1 (ns.length) ((ns.set x.ix.toNat (some R.length)).flatMap fun o => [cN 2 o]), .fam (jq (R ++ [x.b]))] := by
 refine qo (N := 9) 3 (by kernel_rfl) Tryz.func76 rfl rfl rfl (by simp only [fr0, qbs, qbt]; exact rfl) rfl fun s0 hs0 => ?_
 refine qz rfl hs0 ?_
 refine zao 2 ?_
 refine zac ?_
 refine zak rfl (qd 3 rfl (ev1 rfl) rfl) ?_
 refine zak rfl (zaq 4 rfl jT rfl) ?_
 refine zab ?_
 refine qr (l0 := [_]) rfl rfl rfl rfl rfl hs0 ?_
 refine za rfl (qV rfl en (ec (ev1 rfl) en)) ?_
 refine zab ⟨_, _, _, 5, ev1 rfl, qbK hs0 (by decide), rfl, ?_⟩
 have hs1 : s0.M.length ≤ 5 := qbK hs0 (by decide)
 refine qy rfl hs0 ?_
 refine zah ?_
 refine zaa 1 rfl ?_
 refine za rfl (qb rfl kI (ev1 rfl) rfl rfl) ?_
 refine zak rfl (zaj [0, 1, 2] [] [] rfl (ev1 rfl) (ec (ev1 rfl) (ec (ev1 rfl) en)) rfl (by exact jd _ _ ⟨rfl, (by first | exact rfl | exact arx_fits rfl rfl (vwL_flat (fun _ => rfl) _) | exact kp rfl rfl (qf (fun _ => rfl) _) | exact qp rfl rfl (fun _ => rfl) | exact kr rfl rfl (fun _ => rfl) | exact qM rfl rfl rfl), rfl, trivial⟩) (qbj sn mn ns R x hx h2 h3 h4 h5) rfl rfl rfl (by exact (wrc rfl (wrc (by first | exact rfl | exact kB (fun _ => rfl) | exact kg (qf (fun _ => rfl) _) | exact q9 (fun _ => rfl) | exact ki (fun _ => rfl) | exact sbN rfl) (wrc rfl rfl)))) rfl rfl) ?_
 refine zab ?_
 refine zah ?_
 refine zas rfl (qK rfl qX (ev1 rfl) (ev1 rfl) rfl) ?_
 refine zab ?_
 refine qa ?_
 refine jH (kL [4] [] rfl rfl (wN _) rfl rfl rfl rfl rfl) ?_
 refine ko [0, 1, 2] (rs1 rfl (js qX rfl rfl rfl)) rfl rfl ?_ ⟨rfl, qM rfl rfl rfl, rfl, trivial⟩
 rfl
theorem qbn (sn mn : Int) (ns : List (Option Nat)) (R : List (List Int)) (x : PcM) (hx : pcB x = true) (h2 : sn < x.sn) : DFun Tryz.prog 76 [.loc 0 0, .agg (pcD x)] [.mix 118 [.val (.int .u64 sn), .val (.int .i64 mn), .arr 1], .arx 30 1 (ns).length ((ns).flatMap fun o => [cN 2 o]), .fam (jq (R))] (.val (.int .i64 0)) [.mix 118 [.val (.int .u64 x.sn), .val (.int .i64 x.mn), .arr 3], .arx 30 1 (ns).length ((ns).flatMap fun o => [cN 2 o]), .fam (jq (R ++ [x.b])), .arx 30 1 (x.mn.toNat) (((qbH x.mn.toNat (none : Option Nat)).set x.ix.toNat (some R.length)).flatMap fun o => [cN 2 o])] := by
 refine qo (N := 9) 3 (by kernel_rfl) Tryz.func76 rfl rfl rfl (by simp only [fr0, qbs, qbt]; exact rfl) rfl fun s0 hs0 => ?_
 refine qz rfl hs0 ?_
 refine zao 2 ?_
 refine zac ?_
 refine zak rfl (qd 3 rfl (ev1 rfl) rfl) ?_
 refine zak rfl (zaq 4 rfl jT rfl) ?_
 refine zab ?_
 refine qr (l0 := [_]) rfl rfl rfl rfl rfl hs0 ?_
 refine za rfl (qV rfl en (ec (ev1 rfl) en)) ?_
 refine zab ⟨_, _, _, 5, ev1 rfl, qbK hs0 (by decide), rfl, ?_⟩
 have hs1 : s0.M.length ≤ 5 := qbK hs0 (by decide)
 refine qy rfl hs0 ?_
 refine zae ?_
 refine zao 1 ?_
 refine zac ?_
 refine zaa 1 rfl ?_
 refine za rfl (qb rfl kI (ev1 rfl) rfl rfl) ?_
 refine zak rfl (zaj [0, 1, 2] [] [5] rfl (ev1 rfl) (ec (ev1 rfl) (ec (ev1 rfl) en)) rfl (by exact jd _ _ ⟨rfl, (by first | exact rfl | exact arx_fits rfl rfl (vwL_flat (fun _ => rfl) _) | exact kp rfl rfl (qf (fun _ => rfl) _) | exact qp rfl rfl (fun _ => rfl) | exact kr rfl rfl (fun _ => rfl) | exact qM rfl rfl rfl), rfl, trivial⟩) (qbk sn mn ns R x hx h2) rfl rfl rfl (by exact (wrc rfl (wrc (by first | exact rfl | exact kB (fun _ => rfl) | exact kg (qf (fun _ => rfl) _) | exact q9 (fun _ => rfl) | exact ki (fun _ => rfl) | exact sbN rfl) (wrc rfl (wrc (by first | exact rfl | exact kB (fun _ => rfl) | exact kg (qf (fun _ => rfl) _) | exact q9 (fun _ => rfl) | exact ki (fun _ => rfl) | exact sbN rfl) rfl))))) rfl rfl) ?_
 refine zab ?_
 refine zah ?_
 refine zas rfl (qK rfl qX (ev1 rfl) (ev1 rfl) rfl) ?_
 refine zab ?_
 refine qa ?_
 refine jH (kL [4] [] rfl rfl (wN _) rfl rfl rfl rfl rfl) ?_
 refine ko [0, 1, 2, 5] (rs1 rfl (js qX rfl rfl rfl)) rfl rfl ?_ ⟨rfl, qM rfl rfl rfl, rfl, qM rfl rfl rfl, trivial⟩
 rfl
theorem qbo (s : FnM) (x : PcM) (hok : okN s.ns s.R) (hp : kH s.pi = true) (e : Int) (he : e ≠ 0) (h : kU s.pi x = (e, s.pi)) : DFun Tryz.prog 76 [.loc 0 0, .agg (pcD x)] [.mix 118 [.val (.int .u64 s.sn), .val (.int .i64 s.mn), .arr 1], .arx 30 1 (s.ns).length ((s.ns).flatMap fun o => [cN 2 o]), .fam (jq (s.R))] (.val (.int .i64 e)) [.mix 118 [.val (.int .u64 s.sn), .val (.int .i64 s.mn), .arr 1], .arx 30 1 (s.ns).length ((s.ns).flatMap fun o => [cN 2 o]), .fam (jq (s.R))] := by
 rcases j7 hp x with ⟨_, _, h1⟩ | ⟨_, _, _, _, h1⟩ | ⟨e1, _, h1, g⟩
 ·rw [h1] at h; exact absurd (congrArg Prod.fst h).symm he
 ·rw [h1] at h; exact absurd (congrArg Prod.fst h).symm he
 ·obtain rfl : e1 = e := by rw [h1] at h; exact congrArg Prod.fst h
  rcases g with ⟨a, rfl⟩ | ⟨a, b, rfl⟩ | ⟨a, b, c, rfl⟩ | ⟨a, b, c, ⟨d, f⟩, rfl⟩
  ·exact H6 s.sn s.mn s.ns s.R x a
  ·exact H7 s.sn s.mn s.ns s.R x a b
  ·exact H8 s.sn s.mn s.ns s.R x a b c
  ·obtain ⟨m, h5, hm, hem⟩ := H5 hok (show x.ix.toNat < (psN s.ns s.R).length from d) f
   have d' : x.ix.toNat < s.ns.length := by rw [← xa s.ns s.R]; exact d
   exact H9 s.sn s.mn s.ns s.R x a b c d' m h5 hm hem
theorem Aa (p : PiM) (hn : p.ps.length ≤ 5000) (hb : ∀ b ∈ p.ps, b.length ≤ 100000) (hp : kH p = true) (l : List PcM) (hl : l.length ≤ 100000) : DFun Tryz.prog 37 [.agg (piD p), .slm 4 l.length (l.flatMap pcD)] [.fam (jq ([]))] (.tup [.agg [.val (.int .u64 (kF l (s0P p)).sn), .val (.int .i64 (kF l (s0P p)).mn), .arr 1], .val (.int .i64 ((qF l (p, 0)).2 : Nat)), .val (.int .i64 0)]) [.fam (jq ((kF l (s0P p)).R)), .arx 30 1 ((kF l (s0P p)).ns).length (((kF l (s0P p)).ns).flatMap fun o => [cN 0 o])] := by
 obtain ⟨hsa, hsb⟩ := Za p
 have hps : kH (s0P p).pi = true := by rw [hsb]; exact hp
 refine qo (N := 34) 1 (by kernel_rfl) Tryz.func37 rfl rfl rfl (by simp only [fr0, qbs, qbt]; exact rfl) rfl fun s0 hs0 => ?_
 refine qz rfl hs0 ?_
 refine zao 3 ?_
 refine zac ?_
 refine zak rfl (qd 1 rfl (ev1 rfl) rfl) ?_
 refine zak rfl (zaq 2 rfl jR rfl) ?_
 refine zaa 1 rfl ?_
 refine zak rfl (zaq 3 rfl jT rfl) ?_
 refine zab ?_
 refine qr (l0 := [_]) rfl rfl rfl rfl rfl hs0 ?_
 refine za rfl (qV rfl en (ec (ev1 rfl) en)) ?_
 refine zab ⟨_, _, _, 4, ev1 rfl, qbK hs0 (by decide), rfl, ?_⟩
 have hs1 : s0.M.length ≤ 4 := qbK hs0 (by decide)
 refine qy rfl hs0 ?_
 refine zae ?_
 refine zao 2 ?_
 refine zac ?_
 refine za rfl (qb rfl qS (ev1 rfl) rfl rfl) ?_
 refine zak rfl (zaj [0] [] [4, 5] rfl (ev1 rfl) (ec (ev1 rfl) en) rfl rfl (qbi p hn hb hp) rfl rfl rfl (by exact (wrc rfl (wrc rfl (wrc (by first | exact rfl | exact kB (fun _ => rfl) | exact kg (qf (fun _ => rfl) _) | exact q9 (fun _ => rfl) | exact ki (fun _ => rfl) | exact sbN rfl) rfl)))) rfl rfl) ?_
 refine zaa 1 rfl ?_
 refine zab ?_
 refine zah ?_
 refine zaa 1 rfl ?_
 refine za rfl (qV rfl (ec (ev1 rfl) en) en) ?_
 refine zaa 1 rfl ?_
 refine zab ?_
 refine zae ?_
 refine zah ?_
 refine zaa 1 rfl ?_
 refine za rfl (kE rfl ye (ev1 rfl)) ?_
 refine zaa 1 rfl ?_
 refine zab ?_
 refine zat ?_
 refine qI ⟨hs1, rfl⟩ (α := Nat) (fun k => [(5, .val (.int .i64 ((qF (l.take k) (p, 0)).2 : Nat))), (18, .val (.int .i64 (k : Int)))]) [(4, _), (6, _), (7, _), (8, _), (16, _), (17, _)] (fun k => [(0, .fam (jq ((kF (l.take k) (s0P p)).R))), (4, .mix 118 [.val (.int .u64 (kF (l.take k) (s0P p)).sn), .val (.int .i64 (kF (l.take k) (s0P p)).mn), .arr 5]), (5, .arx 30 1 ((kF (l.take k) (s0P p)).ns).length (((kF (l.take k) (s0P p)).ns).flatMap fun o => [cN 0 o]))]) [.hole, _, _, _, .hole, .hole] (fun k => k ≤ l.length) (fun k => l.length - k) 0 [0, 1, 2, 3, 4, 5] (qb3 _) rfl ⟨rfl, rfl, rfl, rfl, rfl, rfl, trivial⟩ ⟨rfl, rfl, trivial⟩ ⟨by rfl, rfl, rfl, rfl, by rfl, by exact qM rfl rfl rfl, trivial⟩ ?_
 intro k hx
 simp only [upd, zaf, zag, qbD, qbF]
 have hk := hx
 obtain ⟨hok, hpi⟩ := Kh hsa hps l k hk
 rw [hsb] at hpi
 obtain ⟨hqk, hqn⟩ := wy hp (l.take k) 0
 rw [← hpi] at hqk
 rw [qbS] at hqn
 refine zah ?_
 refine za rfl (qv rfl (ev1 rfl) (ev1 rfl)) ?_
 refine zab ?_
 refine zae ?_
 refine qh rfl (fun c1 => ?_) (fun c1 => ?_)
 ·try simp only [decide_eq_true_eq, decide_eq_false_iff_not, beq_iff_eq, bne_iff_ne, beq_eq_false_iff_ne, bne_eq_false_iff_eq, qbx, qby, qbu, qbE, qbv, ne_eq, Decidable.not_not, qbQ, qbR] at c1
  refine zar ?_
  refine zae ?_
  refine zat ?_
  refine zae ?_
  refine zao 1 ?_
  refine zac ?_
  refine za rfl (gN (k) (by decide) rfl ye (ev1 rfl) (ev1 rfl) (fun _ => rfl) (by omega) (fun _ => rfl)) ?_
  refine za rfl (gO rfl kI (ev1 rfl) rfl rfl) ?_
  refine zak rfl (zaq 6 rfl wu rfl) ?_
  refine zas rfl (kw rfl kI (ev1 rfl) (ev1 rfl) rfl rfl rfl rfl) ?_
  refine zab ?_
  refine zae ?_
  by_cases h0 : (kU (kF (l.take k) (s0P p)).pi l[k]).1 = 0
  ·by_cases h2 : (kF (l.take k) (s0P p)).sn < l[k].sn
   ·obtain ⟨hx, hq2⟩ := J6 hqk l[k] h0 h2
    have hq1 : kF (l.take (k + 1)) (s0P p) = xO (kF (l.take k) (s0P p)) l[k] := vR _ _ (by omega)
    unfold xO at hq1
    rw [if_pos h0, if_pos h2] at hq1
    have hc1 : (qF (l.take (k + 1)) (p, 0)).2 = (qF (l.take k) (p, 0)).2 := by rw [k5 _ _ (by omega), ← hpi]; exact if_pos h0
    refine zao 1 ?_
    refine zac ?_
    refine zaa 1 rfl ?_
    refine za rfl (qb rfl kI (ev1 rfl) rfl rfl) ?_
    refine zak rfl (zaj [4, 5, 0] [] [7] rfl (ev1 rfl) (ec (ev1 rfl) en) rfl (by exact jd _ _ ⟨rfl, (by first | exact rfl | exact arx_fits rfl rfl (vwL_flat (fun _ => rfl) _) | exact kp rfl rfl (qf (fun _ => rfl) _) | exact qp rfl rfl (fun _ => rfl) | exact kr rfl rfl (fun _ => rfl) | exact qM rfl rfl rfl), rfl, trivial⟩) (qbn (kF (l.take k) (s0P p)).sn (kF (l.take k) (s0P p)).mn (kF (l.take k) (s0P p)).ns (kF (l.take k) (s0P p)).R l[k] hx h2) rfl rfl rfl (by exact (wrc rfl (wrc (by first | exact rfl | exact kB (fun _ => rfl) | exact kg (qf (fun _ => rfl) _) | exact q9 (fun _ => rfl) | exact ki (fun _ => rfl) | exact sbN rfl) (wrc rfl (wrc (by first | exact rfl | exact kB (fun _ => rfl) | exact kg (qf (fun _ => rfl) _) | exact q9 (fun _ => rfl) | exact ki (fun _ => rfl) | exact sbN rfl) rfl))))) rfl rfl) ?_
    refine za rfl (qT rfl (ev1 rfl) (ev1 rfl)) ?_
    refine zab ?_
    refine qc rfl (rfl) ?_
    refine zar ?_
    refine zac ?_
    refine za rfl (ql rfl (ev1 rfl) (ev1 rfl) (fun _ => qbB _ (by omega))) ?_
    refine zaa 1 rfl ?_
    refine zab ?_
    refine ⟨k + 1, [0, 1, 2, 3, 4, 7], by omega, by simp only []; omega, rfl, ⟨by rw [hc1]; rfl, rfl, rfl, rfl, rfl, rfl, rfl, rfl, trivial⟩, ⟨by rw [hq1]; rfl, rfl, rfl, rfl, by rw [hq1]; rfl, by rw [hq1]; exact qM (by simp) rfl rfl, trivial⟩⟩
   ·obtain ⟨hx, h3, h4, ⟨h5, h6⟩, hq2⟩ := z7 hqk l[k] h0 h2
    have h7 := qbl hok h5 h6
    have h8 : l[k].ix.toNat < (kF (l.take k) (s0P p)).ns.length := by rw [← xa (kF (l.take k) (s0P p)).ns (kF (l.take k) (s0P p)).R]; exact h5
    have hq1 : kF (l.take (k + 1)) (s0P p) = xO (kF (l.take k) (s0P p)) l[k] := vR _ _ (by omega)
    unfold xO at hq1
    rw [if_pos h0, if_neg h2] at hq1
    have hc1 : (qF (l.take (k + 1)) (p, 0)).2 = (qF (l.take k) (p, 0)).2 := by rw [k5 _ _ (by omega), ← hpi]; exact if_pos h0
    refine zac ?_
    refine zaa 1 rfl ?_
    refine za rfl (qb rfl kI (ev1 rfl) rfl rfl) ?_
    refine zak rfl (zaj [4, 5, 0] [] [] rfl (ev1 rfl) (ec (ev1 rfl) en) rfl (by exact jd _ _ ⟨rfl, (by first | exact rfl | exact arx_fits rfl rfl (vwL_flat (fun _ => rfl) _) | exact kp rfl rfl (qf (fun _ => rfl) _) | exact qp rfl rfl (fun _ => rfl) | exact kr rfl rfl (fun _ => rfl) | exact qM rfl rfl rfl), rfl, trivial⟩) (qbm (kF (l.take k) (s0P p)).sn (kF (l.take k) (s0P p)).mn (kF (l.take k) (s0P p)).ns (kF (l.take k) (s0P p)).R l[k] hx h3 h4 h8 h7) rfl rfl rfl (by exact (wrc rfl (wrc (by first | exact rfl | exact kB (fun _ => rfl) | exact kg (qf (fun _ => rfl) _) | exact q9 (fun _ => rfl) | exact ki (fun _ => rfl) | exact sbN rfl) (wrc rfl rfl)))) rfl rfl) ?_
    refine za rfl (qT rfl (ev1 rfl) (ev1 rfl)) ?_
    refine zab ?_
    refine qc rfl (rfl) ?_
    refine zar ?_
    refine zac ?_
    refine za rfl (ql rfl (ev1 rfl) (ev1 rfl) (fun _ => qbB _ (by omega))) ?_
    refine zaa 1 rfl ?_
    refine zab ?_
    refine ⟨k + 1, [0, 1, 2, 3, 4, 5], by omega, by simp only []; omega, rfl, ⟨by rw [hc1]; rfl, rfl, rfl, rfl, rfl, rfl, rfl, rfl, trivial⟩, ⟨by rw [hq1]; rfl, rfl, rfl, rfl, by rw [hq1]; rfl, by rw [hq1]; exact qM (by simp) rfl rfl, trivial⟩⟩
  ·have hpe := zf hqk l[k] h0
   obtain ⟨e, he⟩ : ∃ e, (kU (kF (l.take k) (s0P p)).pi l[k]).1 = e := ⟨_, rfl⟩
   have hq1 : kF (l.take (k + 1)) (s0P p) = xO (kF (l.take k) (s0P p)) l[k] := vR _ _ (by omega)
   unfold xO at hq1
   rw [if_neg h0] at hq1
   rw [he] at hpe h0
   have hc1 : (qF (l.take (k + 1)) (p, 0)).2 = (qF (l.take k) (p, 0)).2 + 1 := by rw [k5 _ _ (by omega), ← hpi]; exact if_neg (by rw [he]; exact h0)
   refine zac ?_
   refine zaa 1 rfl ?_
   refine za rfl (qb rfl kI (ev1 rfl) rfl rfl) ?_
   refine zak rfl (zaj [4, 5, 0] [] [] rfl (ev1 rfl) (ec (ev1 rfl) en) rfl (by exact jd _ _ ⟨rfl, (by first | exact rfl | exact arx_fits rfl rfl (vwL_flat (fun _ => rfl) _) | exact kp rfl rfl (qf (fun _ => rfl) _) | exact qp rfl rfl (fun _ => rfl) | exact kr rfl rfl (fun _ => rfl) | exact qM rfl rfl rfl), rfl, trivial⟩) (qbo (kF (l.take k) (s0P p)) l[k] hok hqk e h0 hpe) rfl rfl rfl (by exact (wrc rfl (wrc (by first | exact rfl | exact kB (fun _ => rfl) | exact kg (qf (fun _ => rfl) _) | exact q9 (fun _ => rfl) | exact ki (fun _ => rfl) | exact sbN rfl) (wrc rfl rfl)))) rfl rfl) ?_
   refine za rfl (qT rfl (ev1 rfl) (ev1 rfl)) ?_
   refine zab ?_
   refine qJ rfl (by simpa using h0) ?_
   refine zac ?_
   refine zaa 1 rfl ?_
   refine za rfl (ql rfl (ev1 rfl) (ev1 rfl) (fun _ => qbB _ (by omega))) ?_
   refine zaa 1 rfl ?_
   refine zab ?_
   refine zac ?_
   refine za rfl (ql rfl (ev1 rfl) (ev1 rfl) (fun _ => qbB _ (by omega))) ?_
   refine zaa 1 rfl ?_
   refine zab ?_
   refine ⟨k + 1, [0, 1, 2, 3, 4, 5], by omega, by simp only []; omega, rfl, ⟨by rw [hc1]; rfl, rfl, rfl, rfl, rfl, rfl, rfl, rfl, trivial⟩, ⟨by rw [hq1]; rfl, rfl, rfl, rfl, by rw [hq1]; rfl, by rw [hq1]; exact qM (by simp) rfl rfl, trivial⟩⟩
 ·try simp only [decide_eq_true_eq, decide_eq_false_iff_not, beq_iff_eq, bne_iff_ne, beq_eq_false_iff_ne, bne_eq_false_iff_eq, qbx, qby, qbu, qbE, qbv, ne_eq, Decidable.not_not, qbQ, qbR] at c1
  refine qD ?_
  refine zae ?_
  obtain rfl : k = l.length := by omega
  rw [qch]
  refine zac ?_
  refine zaa 1 rfl ?_
  refine za rfl (qt rfl (ev1 rfl) (fun s v h => by cases h; exact ⟨_, rfl⟩)) ?_
  refine za rfl (zam rfl ka (ev1 rfl)) ?_
  refine za rfl (qb rfl qS (ev1 rfl) rfl rfl) ?_
  refine zaa 1 rfl ?_
  refine zas rfl (kw rfl qS (ev1 rfl) (ev1 rfl) rfl rfl rfl rfl) ?_
  refine zaa 1 rfl ?_
  refine zas rfl (qK rfl qX (ev1 rfl) (ev1 rfl) rfl) ?_
  refine zab ?_
  refine qa ?_
  refine jH (kL [3] [] rfl rfl (xE _) rfl rfl rfl rfl rfl) ?_
  refine ko [0, 5] (rs3 rfl (y0 qS rfl rfl rfl) (qL rfl) (js qX rfl rfl rfl)) rfl rfl ?_ ⟨?_, ?_, trivial⟩
  rfl
  all_goals first | exact rfl | exact qM rfl rfl rfl
end Go.Proofs.YtofklkbfkoliiaaGreat
namespace Go.Proofs.YtofklkbfkoliiaaGreat
set_option linter.unusedVariables false
set_option linter.unusedSimpArgs false
open Go.RowKit
attribute [local irreducible] tkN jC kG mnN Yu Jc
theorem xF (l : List Int) : DFun Tryz.prog 15 [.slf 1 (l).length ((l).flatMap uc8), .slf 1 (l).length ((l).flatMap uc8)] [] (.val (.bool true)) [] := by
 have h := JU l l
 rw [decide_eq_true rfl] at h
 exact h
def yT (Q : List (List Int)) : List Nat := Q.map List.length
theorem Zc {Q : List (List Int)} {k : Nat} {r : List Int} (hk : k < Q.length) (h : r.length = Q[k].length) : yT (Q.set k r) = yT Q := by
 unfold yT
 rw [List.map_set]
 refine List.ext_getElem (by simp) fun i h1 h2 => ?_
 by_cases e : k = i
 ·subst e
  rw [List.getElem_set_self, List.getElem_map, h]
 ·rw [List.getElem_set_ne e]
end Go.Proofs.YtofklkbfkoliiaaGreat
namespace Go.Proofs.YtofklkbfkoliiaaGreat
set_option linter.unusedVariables false
set_option linter.unusedSimpArgs false
open Go.RowKit
theorem Jk (p : PiM) : (kC p).ps.length ≤ 5000 ∧ (∀ b ∈ (kC p).ps, b.length ≤ 100000) := by
 unfold kC
 dsimp only
 refine ⟨by rw [qcf, qbS]; omega, fun b hb => ?_⟩
 obtain ⟨c, _, rfl⟩ := List.mem_map.1 hb
 rw [qbS]
 omega
theorem VB (l : List PcM) : (ku l).length ≤ 12 := by
 unfold ku
 rw [qcf, qbS]
 omega
theorem VC {ps : List (List Int)} {n : Nat} (h : ∀ b ∈ ps, b.length ≤ n) : ps.flatten.length ≤ ps.length * n := by
 induction ps with
 | nil => simp
 | cons b r ih =>
  have h1 := h b (qb1 ..)
  have h2 := ih fun c hc => h c (qb4 _ hc)
  rw [List.flatten_cons, qbz, qbW, qcg]
  omega
theorem Zd (p : PiM) : (kC p).ps.flatten.length ≤ 100000000 := by
 have h := VC (ps := (kC p).ps) (n := 300) (by
  unfold kC
  dsimp only
  intro b hb
  obtain ⟨c, _, rfl⟩ := List.mem_map.1 hb
  rw [qbS]
  omega)
 have h2 : (kC p).ps.length ≤ 66 := by
  unfold kC
  rw [qcf, qbS]
  omega
 have := qb6 300 h2
 omega
theorem wR {p : PiM} (h : kH p = true) : p.ps.flatten.length ≤ 100000000 := by
 obtain ⟨h1, h2⟩ := gV h
 have h3 := VC h2
 have := qb6 256 h1
 omega
theorem WH (ps : List (List Int)) : ∀ i : Int, 0 ≤ i → jD ps i = -1 ∨ 0 ≤ jD ps i := by
 induction ps with
 | nil => intro i _; exact .inl rfl
 | cons b r ih =>
  intro i hi
  rw [jD]
  by_cases h : emp b = true
  ·rw [if_pos h]; exact .inr hi
  ·rw [if_neg h]; exact ih _ (by omega)
theorem vo {p : PiM} (hp : kH p = true) : yq p = (max (dNx p) 0, decide (0 ≤ dNx p)) ∧ gi p = decide (dNx p < 0) := by
 unfold yq gi dNx
 cases h : noB p with
 | true =>
  rw [noB_iff.1 h]
  exact ⟨rfl, rfl⟩
 | false =>
  have hz : p ≠ zPi := fun e => by
   have := noB_iff.2 e
   rw [h] at this
   cases this
  have hmn : p.mn ≠ 0 := by
   rcases AI hp with g | g
   ·exact absurd g hz
   ·omega
  rw [if_neg (by decide), hp, if_pos rfl, if_neg hmn]
  rcases WH p.ps 0 (Int.le_refl _) with g | g
  ·rw [g]
   exact ⟨rfl, rfl⟩
  ·rw [if_neg (show ¬ jD p.ps 0 < 0 by omega), if_pos g, decide_eq_true g, decide_eq_false (show ¬ jD p.ps 0 < 0 by omega)]
   refine ⟨?_, rfl⟩
   rw [show max (jD p.ps 0) 0 = jD p.ps 0 by omega]
theorem qbp {p : PiM} (hp : kH p = false) : yq p = (0, false) ∧ gi p = false := by
 have h : noB p = false := by
  cases h : noB p with
  | false => rfl
  | true =>
   have := piOk_iff.2 (.inl h)
   rw [hp] at this
   cases this
 unfold yq gi
 rw [h, hp]
 refine ⟨?_, by simp⟩
 rw [if_neg (by decide)]
 split <;> rfl
theorem Jl {A Q : List (List Int)} (h : yT Q = yT A) : Q.length = A.length := by
 have := congrArg List.length h
 unfold yT at this
 rwa [qcf, qcf] at this
theorem YH {A Q : List (List Int)} (h : yT Q = yT A) {k : Nat} (hk : k < Q.length) (hm : k < A.length) : Q[k].length = A[k].length := by
 have e : (yT Q)[k]? = (yT A)[k]? := by rw [h]
 unfold yT at e
 rw [qca, qca, qbr hk, qbr hm] at e
 exact qbw e
theorem Ze {σ : List Nat} {V : Nat → Bool} {M : List Blk} {T : TypeId} {i j : Nat} {s : FnM} (hok : okN s.ns s.R) (hp : pos σ i = none) (hV : V i = true) (hM : M[i]? = some (.arx T 1 s.ns.length (s.ns.flatMap fun o => [cN j o]))) (hpj : pos σ j = none) (hVj : V j = true) (hMj : M[j]? = some (.fam (jq s.R))) : vw σ V M (.agg [.val (.int .u64 s.sn), .val (.int .i64 s.mn), .arr i]) = some (.agg (piD s.pi)) := by
 have h1 : vw σ V M (.arr i) = some (.slm 1 s.ns.length (s.ns.flatMap fun o => [rwB (YC s.R o)])) := ZG hp hV hM fun o ho => by
  cases o with
  | none => rfl
  | some m =>
   obtain ⟨hm, _⟩ := hok m ho
   have h2 := Ux (k := m) hpj hVj hMj (vQ hm)
   show yk σ V M [.farr j m] = some [rwB (s.R.getD m [])]
   rw [qbV, qbr hm]
   unfold yk; unfold yk
   rw [h2]
   rfl
 have h3 : (s.ns.flatMap fun o => [rwB (YC s.R o)]) = s.pi.ps.flatMap fun b => [rwB b] := by
  unfold FnM.pi psN
  rw [List.flatMap_map]
 have h4 : s.ns.length = s.pi.ps.length := (xa s.ns s.R).symm
 rw [h3, h4] at h1
 have h2 := gu (σ := σ) (V := V) (M := M) (d := .val (.int .u64 s.sn)) rfl (gu (d := .val (.int .i64 s.mn)) rfl (gu h1 (show vwL σ V M [] = some [] from rfl)))
 unfold vw
 rw [h2]
 rfl
theorem Ab {s : FnM} (hok : okN s.ns s.R) (hp : kH s.pi = true) {i m : Nat} (h : s.ns[i]? = some (some m)) : ∃ hm : m < s.R.length, s.R[m].length ≤ 256 := by
 obtain ⟨hm, _⟩ := hok m (qb7 h)
 refine ⟨hm, (gV hp).2 _ ?_⟩
 show s.R[m] ∈ psN s.ns s.R
 unfold psN
 refine List.mem_map.2 ⟨some m, qb7 h, ?_⟩
 show s.R.getD m [] = _
 rw [qbV, qbr hm]
 rfl
theorem WI {ns : List (Option Nat)} {i : Nat} (hi : i < ns.length) (h : ¬ ns[i]? = some none) : ∃ m, ns[i]? = some (some m) := by
 rw [qbr hi] at h ⊢
 cases e : ns[i] with
 | none => rw [e] at h; exact absurd rfl h
 | some m => exact ⟨m, rfl⟩
theorem VD {p : PiM} (h : kH p = true) : p.ps.length ≤ 5000 ∧ ∀ b ∈ p.ps, b.length ≤ 100000 := by
 have := gV h
 exact ⟨by omega, fun b hb => by have := this.2 b hb; omega⟩
end Go.Proofs.YtofklkbfkoliiaaGreat
namespace Go.Proofs.YtofklkbfkoliiaaGreat
set_option linter.unusedVariables false
set_option linter.unusedSimpArgs false
open Go.RowKit
attribute [local irreducible] gg kU qF gj Yu kH yq gi Yw uw kG tkN jl k7 vL kK
theorem un4 : Tryz.prog.underlying 4 = some .bool := by kernel_rfl
end Go.Proofs.YtofklkbfkoliiaaGreat
namespace Go.Proofs.YtofklkbfkoliiaaGreat
set_option linter.unusedVariables false
set_option linter.unusedSimpArgs false
open Go.RowKit
attribute [local irreducible] tkN jC kG kU kH yq gi dNx jD
theorem Ac (p : PiM) (l : List PcM) (hp : kH (kC p) = false) : DFun Tryz.prog 5 [.agg (piD p), .slm 4 (l).length ((l).flatMap pcD)] [] (.val (.bool true)) [] := by
 obtain ⟨hn0, hb0⟩ := Jk p
 have hL12 := VB l
 obtain ⟨hnx, hwn⟩ := qbp hp
 have hfl := Zd p
 refine zap (N := 214) 0 (by kernel_rfl) Tryz.func5 rfl rfl rfl (by simp only [fr0, qbs, qbt]; exact rfl) rfl fun s0 hs0 => ?_
 refine gM (t := 1) rfl fun hl1 hL1 => ?_
 refine zae ?_
 refine zao 1 ?_
 refine zac ?_
 refine zak rfl (qd 0 rfl (ev1 rfl) rfl) ?_
 refine zaa 1 rfl ?_
 refine zab ?_
 refine zae ?_
 refine zah ?_
 refine za rfl (zaj [] [] [] rfl (ev1 rfl) en rfl rfl (Je) rfl rfl rfl rfl rfl rfl) ?_
 refine za rfl (kv rfl (ev1 rfl)) ?_
 refine zab ?_
 refine qc rfl (rfl) ?_
 refine zar ?_
 refine zae ?_
 refine zao 1 ?_
 refine zac ?_
 refine za rfl (qb rfl qS (ev1 rfl) rfl rfl) ?_
 refine za rfl (zaj [] [] [] rfl (ev1 rfl) (ec (ev1 rfl) en) rfl rfl (X8 p) rfl rfl rfl rfl rfl rfl) ?_
 refine zaa 1 rfl ?_
 refine za rfl (zaj [] [] [] rfl (ev1 rfl) (ec (ev1 rfl) en) rfl rfl (Qu l) rfl rfl rfl rfl rfl rfl) ?_
 refine zak rfl (zaq 1 rfl jR rfl) ?_
 refine zas rfl (kw rfl qS (ev1 rfl) (ev1 rfl) rfl rfl rfl rfl) ?_
 refine zaa 1 rfl ?_
 refine zab ?_
 refine zah ?_
 refine za rfl (qb rfl qS (ev1 rfl) rfl rfl) ?_
 refine za rfl ((zaj [] [] [] rfl (ev1 rfl) (ec (ev1 rfl) en) rfl rfl (Vw (kC p) hn0) rfl rfl rfl rfl rfl rfl).cast (d' := .val (.bool false)) (by rw [hp])) ?_
 refine zaa 1 rfl ?_
 refine zab ?_
 refine zae ?_
 refine zah ?_
 refine za rfl (qb rfl qS (ev1 rfl) rfl rfl) ?_
 refine za rfl ((zaj [] [] [] rfl (ev1 rfl) (ec (ev1 rfl) en) rfl rfl (ww (kC p) hn0) rfl rfl rfl rfl rfl rfl).cast (d' := .val (.int .i64 312)) (by rw [hp]; rfl)) ?_
 refine zaa 1 rfl ?_
 refine zab ?_
 refine zah ?_
 refine zaa 1 rfl ?_
 refine za rfl (qm rfl (ev1 rfl) (ev1 rfl)) ?_
 refine zaa 1 rfl ?_
 refine za rfl (yu rfl un4 (ev1 rfl) (ev1 rfl)) ?_
 refine zaa 1 rfl ?_
 refine zai (qe rfl rfl rfl) rfl rfl rfl (zal (.inl rfl) (ev1 rfl)) ?_
 refine zai (qe rfl rfl rfl) rfl rfl rfl (qT rfl (ev2 rfl) (ev1 rfl)) ?_
 refine zai (qe rfl rfl rfl) rfl rfl rfl (zal (.inl rfl) (ev2 rfl)) ?_
 refine zai (qO rfl rfl rfl) rfl rfl rfl (zal (.inl rfl) (ev1 rfl)) ?_
 refine zai (qO rfl rfl rfl) rfl rfl rfl (qT rfl (ev2 rfl) (ev1 rfl)) ?_
 refine zai (qe rfl rfl rfl) rfl rfl rfl (qC rfl (ev2 rfl) (ev2 rfl)) ?_
 refine za rfl (kx rfl (ev1 rfl) (ev3 rfl id)) ?_
 refine zab ?_
 refine qc rfl (rfl) ?_
 refine zar ?_
 refine zae ?_
 refine zao 1 ?_
 refine zac ?_
 refine za rfl (qb rfl qS (ev1 rfl) rfl rfl) ?_
 refine zak rfl (zaq 2 rfl jR rfl) ?_
 refine zas rfl (kw rfl qS (ev1 rfl) (ev1 rfl) rfl rfl rfl rfl) ?_
 refine zaa 1 rfl ?_
 refine zab ?_
 refine zae ?_
 refine zah ?_
 refine zaa 1 rfl ?_
 refine za rfl (kE rfl ye (ev1 rfl)) ?_
 refine zaa 1 rfl ?_
 refine zab ?_
 refine zat ?_
 refine qI ⟨hs0, rfl⟩ (α := Nat) (fun k => [(10, .val (.int .i64 (k : Int))), (54, .val (.int .i64 (k : Int)))]) [(1, _), (2, _), (5, _), (6, _), (7, _), (9, _), (52, _), (53, _)] (fun k => []) [_, _, _] (fun k => k ≤ (ku l).length) (fun k => (ku l).length - k) 0 [0, 1, 2] (qb3 _) rfl ⟨rfl, rfl, rfl, rfl, rfl, rfl, rfl, rfl, trivial⟩ ⟨rfl, rfl, trivial⟩ ⟨rfl, rfl, rfl, trivial⟩ ?_
 intro k hx
 simp only [upd, zaf, zag, qbD, qbF]
 have hk := hx
 refine zah ?_
 refine za rfl (qv rfl (ev1 rfl) (ev1 rfl)) ?_
 refine zab ?_
 refine zae ?_
 refine qh rfl (fun c3 => ?_) (fun c3 => ?_)
 ·try simp only [decide_eq_true_eq, decide_eq_false_iff_not, beq_iff_eq, bne_iff_ne, beq_eq_false_iff_ne, bne_eq_false_iff_eq, qbx, qby, qbu, qbE, qbv, ne_eq, Decidable.not_not, qbQ, qbR] at c3
  refine zar ?_
  refine zae ?_
  refine zat ?_
  refine zae ?_
  refine zao 1 ?_
  refine zac ?_
  refine za rfl (gN (k) (by decide) rfl ye (ev1 rfl) (ev1 rfl) (fun _ => rfl) (by omega) (fun _ => rfl)) ?_
  refine za rfl (gO rfl kI (ev1 rfl) rfl rfl) ?_
  refine zak rfl (zaq 3 rfl wu rfl) ?_
  refine zas rfl (kw rfl kI (ev1 rfl) (ev1 rfl) rfl rfl rfl rfl) ?_
  refine zab ?_
  refine zae ?_
  refine zah ?_
  refine za rfl (qb rfl kI (ev1 rfl) rfl rfl) ?_
  refine za rfl (zaj [] [] [] rfl (ev1 rfl) (ec (ev1 rfl) en) rfl rfl (gB (ku l)[k]) rfl rfl rfl rfl rfl rfl) ?_
  refine zaa 1 rfl ?_
  refine zab ?_
  refine zah ?_
  refine zaa 1 rfl ?_
  refine za rfl (qm rfl (ev1 rfl) (ev1 rfl)) ?_
  refine za rfl (qb rfl kI (ev1 rfl) rfl rfl) ?_
  refine za rfl (zaj [] [] [] rfl (ev1 rfl) (ec (ev1 rfl) en) rfl rfl (yr (ku l)[k]) rfl rfl rfl rfl rfl rfl) ?_
  refine za rfl (yu rfl un4 (ev1 rfl) (ev1 rfl)) ?_
  refine zaa 1 rfl ?_
  refine zai (qe rfl rfl rfl) rfl rfl rfl (zal (.inl rfl) (ev1 rfl)) ?_
  refine zai (qe rfl rfl rfl) rfl rfl rfl (qT rfl (ev2 rfl) (ev1 rfl)) ?_
  refine zai (qe rfl rfl rfl) rfl rfl rfl (zal (.inl rfl) (ev2 rfl)) ?_
  refine zai (qO rfl rfl rfl) rfl rfl rfl (zal (.inl rfl) (ev1 rfl)) ?_
  refine zai (qO rfl rfl rfl) rfl rfl rfl (qT rfl (ev2 rfl) (ev1 rfl)) ?_
  refine zai (qe rfl rfl rfl) rfl rfl rfl (qC rfl (ev2 rfl) (ev2 rfl)) ?_
  refine za rfl (kx rfl (ev1 rfl) (ev3 rfl id)) ?_
  refine zab ?_
  refine qc rfl (by cases h : pcB (ku l)[k] <;> rfl) ?_
  refine zar ?_
  refine zae ?_
  refine zao 1 ?_
  refine zac ?_
  refine za rfl (qb rfl qS (ev1 rfl) rfl rfl) ?_
  refine za rfl (qb rfl kI (ev1 rfl) rfl rfl) ?_
  refine za rfl (zaj [] [] [] rfl (ev1 rfl) (ec (ev1 rfl) (ec (ev1 rfl) en)) rfl rfl (Hx (kC p) hn0 hb0 hp (ku l)[k]) rfl rfl rfl rfl rfl rfl) ?_
  refine zaa 3 rfl ?_
  refine zak rfl (zaq 4 rfl jR rfl) ?_
  refine zas rfl (qY rfl qS (ev1 rfl) (ev1 rfl) rfl rfl rfl rfl) ?_
  refine zaa 1 rfl ?_
  refine zab ?_
  refine zae ?_
  refine zao 1 ?_
  refine zac ?_
  refine zak rfl (zaq 5 rfl jR rfl) ?_
  refine zab ?_
  refine zah ?_
  refine zaa 1 rfl ?_
  refine zab ?_
  refine zae ?_
  refine zah ?_
  refine zaa 1 rfl ?_
  refine zab ?_
  refine qc rfl (rfl) ?_
  refine zar ?_
  refine zae ?_
  refine zah ?_
  refine zaa 2 rfl ?_
  refine za rfl (qT rfl (ev1 rfl) (ev1 rfl)) ?_
  refine zaa 1 rfl ?_
  refine zai (qe rfl rfl rfl) rfl rfl rfl (kT rfl qS (ev1 rfl) rfl rfl) ?_
  refine zai (qe rfl rfl rfl) rfl rfl rfl (kT rfl qS (ev1 rfl) rfl rfl) ?_
  refine zai (qe rfl rfl rfl) rfl rfl rfl (zaj [] [] [] rfl (ev1 rfl) (ec (vg (ev2 rfl) xr) (ec (vg (ev2 rfl) xr) en)) rfl rfl (Jh zPi zPi (by decide)) rfl rfl rfl rfl rfl rfl) ?_
  refine zai (qe rfl rfl rfl) rfl rfl rfl (kv rfl (ev2 rfl)) ?_
  refine za rfl (kx rfl (ev1 rfl) (ev3 rfl id)) ?_
  refine zab ?_
  refine qc rfl (rfl) ?_
  refine zar ?_
  refine zae ?_
  refine zah ?_
  refine zaa 1 rfl ?_
  refine za rfl (qm rfl (ev1 rfl) (ev1 rfl)) ?_
  refine zab ?_
  refine qc rfl (rfl) ?_
  refine zac ?_
  refine zaa 1 rfl ?_
  refine za rfl (ql rfl (ev1 rfl) (ev1 rfl) (fun _ => qbB _ (by omega))) ?_
  refine zaa 1 rfl ?_
  refine zab ?_
  refine zah ?_
  refine za rfl (qb rfl qS (ev1 rfl) rfl rfl) ?_
  refine za rfl (zaj [] [] [] rfl (ev1 rfl) (ec (ev1 rfl) en) rfl rfl (z8 (kC p) hn0) rfl rfl rfl rfl rfl rfl) ?_
  refine zaa 1 rfl ?_
  refine za rfl ((jN rfl (ev1 rfl) rfl).cast (d' := .val (.int .i64 0)) (by rw [hnx])) ?_
  refine za rfl ((jN rfl (ev1 rfl) rfl).cast (d' := .val (.bool false)) (by rw [hnx])) ?_
  refine zaa 2 rfl ?_
  refine zab ?_
  refine zah ?_
  refine zaa 1 rfl ?_
  refine zab ?_
  refine zae ?_
  refine zah ?_
  refine zaa 1 rfl ?_
  refine zab ?_
  refine qc rfl (rfl) ?_
  refine zar ?_
  refine zae ?_
  refine zah ?_
  refine zaa 2 rfl ?_
  refine za rfl (jh rfl (ev1 rfl) (ev1 rfl)) ?_
  refine za rfl (yu rfl un4 (ev1 rfl) (ev1 rfl)) ?_
  refine zaa 1 rfl ?_
  refine zai (qe rfl rfl rfl) rfl rfl rfl (zal (.inl rfl) (ev1 rfl)) ?_
  refine zai (qe rfl rfl rfl) rfl rfl rfl (zal (.inl rfl) (ev1 rfl)) ?_
  refine zai (qe rfl rfl rfl) rfl rfl rfl (YQ rfl (ev2 rfl) (ev1 rfl)) ?_
  refine zai (qe rfl rfl rfl) rfl rfl rfl (qT rfl (ev2 rfl) (ev2 rfl)) ?_
  refine za rfl (kx rfl (ev1 rfl) (ev3 rfl id)) ?_
  refine zab ?_
  refine qc rfl (rfl) ?_
  refine zar ?_
  refine zah ?_
  refine za rfl (qb rfl qS (ev1 rfl) rfl rfl) ?_
  refine za rfl (zaj [] [] [] rfl (ev1 rfl) (ec (ev1 rfl) en) rfl rfl (zg (kC p) hn0 hwn) rfl rfl rfl rfl rfl rfl) ?_
  refine zaa 5 rfl ?_
  refine zab ?_
  refine zah ?_
  refine zaa 3 rfl ?_
  refine zai (qn rfl rfl rfl) rfl rfl rfl (zal (.inl rfl) (ev1 rfl)) ?_
  refine zai (qn rfl rfl rfl) rfl rfl rfl (qv rfl (ev2 rfl) (ev1 rfl)) ?_
  refine za rfl (qC rfl (ev1 rfl) (ev3 rfl id)) ?_
  refine za rfl (yu rfl un4 (ev1 rfl) (ev1 rfl)) ?_
  refine zaa 1 rfl ?_
  refine zai (qe rfl rfl rfl) rfl rfl rfl (zal (.inl rfl) (ev1 rfl)) ?_
  refine zai (qe rfl rfl rfl) rfl rfl rfl (zal (.inl rfl) (ev2 rfl)) ?_
  refine zai (qO rfl rfl rfl) rfl rfl rfl (zal (.inl rfl) (ev1 rfl)) ?_
  refine zai (qO rfl rfl rfl) rfl rfl rfl (zam rfl kt (ev1 rfl)) ?_
  refine zai (qO rfl rfl rfl) rfl rfl rfl (zan rfl jp (ev2 rfl) rfl rfl) ?_
  refine zai (qO rfl rfl rfl) rfl rfl rfl (zaj [] [] [] rfl (ev1 rfl) (ec (ev2 rfl) en) rfl rfl (yS (kC p).ps _ _ rfl rfl hfl) rfl rfl rfl rfl rfl rfl) ?_
  refine zai (qO rfl rfl rfl) rfl rfl rfl (zaj [] [] [] rfl (ev1 rfl) (ec (vg (ev2 rfl) (Wk.slf0 1)) (ec (ev2 rfl) en)) rfl rfl (JU [] (kC p).ps.flatten) rfl rfl rfl rfl rfl rfl) ?_
  refine zai (qO rfl rfl rfl) rfl rfl rfl (kv rfl (ev2 rfl)) ?_
  refine zai (qe rfl rfl rfl) rfl rfl rfl (qC rfl (ev2 rfl) (ev2 rfl)) ?_
  refine za rfl (kx rfl (ev1 rfl) (ev3 rfl id)) ?_
  refine zaa 1 rfl ?_
  refine zai (qe rfl rfl rfl) rfl rfl rfl (zal (.inl rfl) (ev1 rfl)) ?_
  refine zai (qe rfl rfl rfl) rfl rfl rfl (kv rfl (ev2 rfl)) ?_
  refine zai (qe rfl rfl rfl) rfl rfl rfl (zal (.inl rfl) (ev2 rfl)) ?_
  refine zai (qO rfl rfl rfl) rfl rfl rfl (zal (.inl rfl) (ev1 rfl)) ?_
  refine zai (qO rfl rfl rfl) rfl rfl rfl (qE rfl qG (vg (ev2 rfl) (Wk.slf0 1))) ?_
  refine zai (qO rfl rfl rfl) rfl rfl rfl (kA rfl (ev2 rfl) (ev1 rfl)) ?_
  refine zai (qe rfl rfl rfl) rfl rfl rfl (qC rfl (ev2 rfl) (ev2 rfl)) ?_
  refine za rfl (kx rfl (ev1 rfl) (ev3 rfl id)) ?_
  refine zab ?_
  refine qc rfl (rfl) ?_
  refine zar ?_
  refine zac ?_
  refine za rfl (ql rfl (ev1 rfl) (ev1 rfl) (fun _ => qbB _ (by omega))) ?_
  refine zaa 1 rfl ?_
  refine zab ?_
  refine ⟨k + 1, [0, 1, 2], by omega, by simp only []; omega, rfl, ⟨rfl, rfl, rfl, rfl, rfl, rfl, rfl, rfl, rfl, rfl, trivial⟩, ⟨rfl, rfl, rfl, trivial⟩⟩
 ·try simp only [decide_eq_true_eq, decide_eq_false_iff_not, beq_iff_eq, bne_iff_ne, beq_eq_false_iff_ne, bne_eq_false_iff_eq, qbx, qby, qbu, qbE, qbv, ne_eq, Decidable.not_not, qbQ, qbR] at c3
  refine qD ?_
  refine zae ?_
  refine zao 1 ?_
  refine zac ?_
  refine za rfl (qb rfl qS (ev1 rfl) rfl rfl) ?_
  refine zaa 1 rfl ?_
  refine za rfl (zaj [] [] [] rfl (ev1 rfl) (ec (ev1 rfl) (ec (ev1 rfl) en)) rfl rfl (XM (kC p) hn0 hp (ku l)) rfl rfl rfl rfl rfl rfl) ?_
  refine zaa 4 rfl ?_
  refine zak rfl (zaq 3 rfl jR rfl) ?_
  refine zas rfl (qY rfl qS (ev1 rfl) (ev1 rfl) rfl rfl rfl rfl) ?_
  refine zaa 2 rfl ?_
  refine zab ?_
  refine zae ?_
  refine zah ?_
  refine zaa 1 rfl ?_
  refine za rfl (kv rfl (ev1 rfl)) ?_
  refine zab ?_
  refine qJ rfl (rfl) ?_
  refine zah ?_
  refine zaa 1 rfl ?_
  refine za rfl (qm rfl (ev1 rfl) (ev1 rfl)) ?_
  refine zaa 1 rfl ?_
  refine zai (qn rfl rfl rfl) rfl rfl rfl (zal (.inl rfl) (ev1 rfl)) ?_
  refine zai (qn rfl rfl rfl) rfl rfl rfl (qm rfl (ev2 rfl) (ev1 rfl)) ?_
  refine za rfl (qC rfl (ev1 rfl) (ev3 rfl id)) ?_
  refine zaa 1 rfl ?_
  refine zai (qn rfl rfl rfl) rfl rfl rfl (kT rfl qS (ev1 rfl) rfl rfl) ?_
  refine zai (qn rfl rfl rfl) rfl rfl rfl (k8 rfl J4 jR) ?_
  refine zai (qn rfl rfl rfl) rfl rfl rfl (zaj [] [] [] rfl (ev1 rfl) (ec (vg (ev2 rfl) xr) (ec (vg (ev2 rfl) xr) en)) rfl rfl (Jh zPi zPi (by decide)) rfl rfl rfl rfl rfl rfl) ?_
  refine za rfl (qC rfl (ev1 rfl) (ev3 rfl id)) ?_
  refine zaa 1 rfl ?_
  refine zab ?_
  refine qa ?_
  refine qx (rs1 rfl (qL rfl)) rfl ?_
  rfl
theorem Ad (p : PiM) (l : List PcM) (hp : kH (kC p) = true) : DFun Tryz.prog 5 [.agg (piD p), .slm 4 (l).length ((l).flatMap pcD)] [] (.val (.bool true)) [] := by
 obtain ⟨hn0, hb0⟩ := Jk p
 have hL12 := VB l
 refine zap (N := 214) 0 (by kernel_rfl) Tryz.func5 rfl rfl rfl (by simp only [fr0, qbs, qbt]; exact rfl) rfl fun s0 hs0 => ?_
 refine gM (t := 1) rfl fun hl1 hL1 => ?_
 refine zae ?_
 refine zao 1 ?_
 refine zac ?_
 refine zak rfl (qd 0 rfl (ev1 rfl) rfl) ?_
 refine zaa 1 rfl ?_
 refine zab ?_
 refine zae ?_
 refine zae ?_
 refine ym ?_
 refine JK 1 rfl (by simp only [qbD, qbF, zaf, zag]; exact rfl) ?_
 refine zac ?_
 refine za rfl (zaj [] [] [] rfl (ev1 rfl) en rfl rfl (Je) rfl rfl rfl rfl rfl rfl) ?_
 refine za rfl (kv rfl (ev1 rfl)) ?_
 refine zab ?_
 refine qc rfl (rfl) ?_
 refine zar ?_
 refine zae ?_
 refine zao 1 ?_
 refine zac ?_
 refine za rfl (qb rfl qS (ev1 rfl) rfl rfl) ?_
 refine za rfl (zaj [] [] [] rfl (ev1 rfl) (ec (ev1 rfl) en) rfl rfl (X8 p) rfl rfl rfl rfl rfl rfl) ?_
 refine zaa 1 rfl ?_
 refine za rfl (zaj [] [] [] rfl (ev1 rfl) (ec (ev1 rfl) en) rfl rfl (Qu l) rfl rfl rfl rfl rfl rfl) ?_
 refine zak rfl (zaq 2 rfl jR rfl) ?_
 refine zas rfl (kw rfl qS (ev1 rfl) (ev1 rfl) rfl rfl rfl rfl) ?_
 refine zaa 1 rfl ?_
 refine zab ?_
 refine zah ?_
 refine za rfl (qb rfl qS (ev1 rfl) rfl rfl) ?_
 refine za rfl ((zaj [] [] [] rfl (ev1 rfl) (ec (ev1 rfl) en) rfl rfl (Vw (kC p) hn0) rfl rfl rfl rfl rfl rfl).cast (d' := .val (.bool true)) (by rw [hp])) ?_
 refine zaa 1 rfl ?_
 refine zab ?_
 refine zae ?_
 refine zah ?_
 refine za rfl (qb rfl qS (ev1 rfl) rfl rfl) ?_
 refine za rfl ((zaj [] [] [] rfl (ev1 rfl) (ec (ev1 rfl) en) rfl rfl (ww (kC p) hn0) rfl rfl rfl rfl rfl rfl).cast (d' := .val (.int .i64 0)) (by rw [hp]; rfl)) ?_
 refine zaa 1 rfl ?_
 refine zab ?_
 refine zah ?_
 refine zaa 1 rfl ?_
 refine za rfl (qm rfl (ev1 rfl) (ev1 rfl)) ?_
 refine zaa 1 rfl ?_
 refine za rfl (yu rfl un4 (ev1 rfl) (ev1 rfl)) ?_
 refine zaa 1 rfl ?_
 refine zai (qe rfl rfl rfl) rfl rfl rfl (zal (.inl rfl) (ev1 rfl)) ?_
 refine zai (qe rfl rfl rfl) rfl rfl rfl (qT rfl (ev2 rfl) (ev1 rfl)) ?_
 refine zai (qe rfl rfl rfl) rfl rfl rfl (zal (.inl rfl) (ev2 rfl)) ?_
 refine zai (qO rfl rfl rfl) rfl rfl rfl (zal (.inl rfl) (ev1 rfl)) ?_
 refine zai (qO rfl rfl rfl) rfl rfl rfl (qT rfl (ev2 rfl) (ev1 rfl)) ?_
 refine zai (qe rfl rfl rfl) rfl rfl rfl (qC rfl (ev2 rfl) (ev2 rfl)) ?_
 refine za rfl (kx rfl (ev1 rfl) (ev3 rfl id)) ?_
 refine zab ?_
 refine qc rfl (rfl) ?_
 refine zar ?_
 refine zae ?_
 refine zao 1 ?_
 refine zac ?_
 refine za rfl (qb rfl qS (ev1 rfl) rfl rfl) ?_
 refine zak rfl (zaq 3 rfl jR rfl) ?_
 refine zas rfl (kw rfl qS (ev1 rfl) (ev1 rfl) rfl rfl rfl rfl) ?_
 refine zaa 1 rfl ?_
 refine zab ?_
 refine zae ?_
 refine zah ?_
 refine zaa 1 rfl ?_
 refine za rfl (kE rfl ye (ev1 rfl)) ?_
 refine zaa 1 rfl ?_
 refine zab ?_
 refine zat ?_
 refine qI ⟨hs0, rfl⟩ (α := Nat) (fun k => [(10, .val (.int .i64 ((qF ((ku l).take k) ((kC p), 0)).2 : Nat))), (54, .val (.int .i64 (k : Int)))]) [(1, _), (2, _), (5, _), (6, _), (7, _), (9, _), (52, _), (53, _)] (fun k => [(3, .mix 61 (piD (qF ((ku l).take k) ((kC p), 0)).1))]) [_, _, _, .hole] (fun k => k ≤ (ku l).length) (fun k => (ku l).length - k) 0 [0, 1, 2, 3] (qb3 _) rfl ⟨rfl, rfl, rfl, rfl, rfl, rfl, rfl, rfl, trivial⟩ ⟨rfl, rfl, trivial⟩ ⟨rfl, rfl, rfl, by rfl, trivial⟩ ?_
 intro k hx
 simp only [upd, zaf, zag, qbD, qbF]
 have hk := hx
 obtain ⟨hqk, hqn⟩ := wy hp ((ku l).take k) 0
 rw [qbS] at hqn
 refine zah ?_
 refine za rfl (qv rfl (ev1 rfl) (ev1 rfl)) ?_
 refine zab ?_
 refine zae ?_
 refine qh rfl (fun c3 => ?_) (fun c3 => ?_)
 ·try simp only [decide_eq_true_eq, decide_eq_false_iff_not, beq_iff_eq, bne_iff_ne, beq_eq_false_iff_ne, bne_eq_false_iff_eq, qbx, qby, qbu, qbE, qbv, ne_eq, Decidable.not_not, qbQ, qbR] at c3
  refine zar ?_
  refine zae ?_
  refine zat ?_
  refine zae ?_
  refine zao 1 ?_
  refine zac ?_
  refine za rfl (gN (k) (by decide) rfl ye (ev1 rfl) (ev1 rfl) (fun _ => rfl) (by omega) (fun _ => rfl)) ?_
  refine za rfl (gO rfl kI (ev1 rfl) rfl rfl) ?_
  refine zak rfl (zaq 4 rfl wu rfl) ?_
  refine zas rfl (kw rfl kI (ev1 rfl) (ev1 rfl) rfl rfl rfl rfl) ?_
  refine zab ?_
  refine zae ?_
  refine zah ?_
  refine za rfl (qb rfl kI (ev1 rfl) rfl rfl) ?_
  refine za rfl (zaj [] [] [] rfl (ev1 rfl) (ec (ev1 rfl) en) rfl rfl (gB (ku l)[k]) rfl rfl rfl rfl rfl rfl) ?_
  refine zaa 1 rfl ?_
  refine zab ?_
  refine zah ?_
  refine zaa 1 rfl ?_
  refine za rfl (qm rfl (ev1 rfl) (ev1 rfl)) ?_
  refine za rfl (qb rfl kI (ev1 rfl) rfl rfl) ?_
  refine za rfl (zaj [] [] [] rfl (ev1 rfl) (ec (ev1 rfl) en) rfl rfl (yr (ku l)[k]) rfl rfl rfl rfl rfl rfl) ?_
  refine za rfl (yu rfl un4 (ev1 rfl) (ev1 rfl)) ?_
  refine zaa 1 rfl ?_
  refine zai (qe rfl rfl rfl) rfl rfl rfl (zal (.inl rfl) (ev1 rfl)) ?_
  refine zai (qe rfl rfl rfl) rfl rfl rfl (qT rfl (ev2 rfl) (ev1 rfl)) ?_
  refine zai (qe rfl rfl rfl) rfl rfl rfl (zal (.inl rfl) (ev2 rfl)) ?_
  refine zai (qO rfl rfl rfl) rfl rfl rfl (zal (.inl rfl) (ev1 rfl)) ?_
  refine zai (qO rfl rfl rfl) rfl rfl rfl (qT rfl (ev2 rfl) (ev1 rfl)) ?_
  refine zai (qe rfl rfl rfl) rfl rfl rfl (qC rfl (ev2 rfl) (ev2 rfl)) ?_
  refine za rfl (kx rfl (ev1 rfl) (ev3 rfl id)) ?_
  refine zab ?_
  refine qc rfl (by cases h : pcB (ku l)[k] <;> rfl) ?_
  refine zar ?_
  refine zae ?_
  by_cases h0 : (kU (qF ((ku l).take k) ((kC p), 0)).1 (ku l)[k]).1 = 0
  ·have hq1 : (qF ((ku l).take (k + 1)) ((kC p), 0)).1 = (kU (qF ((ku l).take k) ((kC p), 0)).1 (ku l)[k]).2 := by rw [k5 _ _ (by omega)]
   have hc1 : (qF ((ku l).take (k + 1)) ((kC p), 0)).2 = (qF ((ku l).take k) ((kC p), 0)).2 := by rw [k5 _ _ (by omega)]; exact if_pos h0
   have hqk2 : kH (kU (qF ((ku l).take k) ((kC p), 0)).1 (ku l)[k]).2 = true := XL hqk rfl
   obtain ⟨hs3, hs4⟩ := VD hqk
   obtain ⟨hs5, hs6⟩ := VD hqk2
   refine zao 1 ?_
   refine zac ?_
   refine za rfl (qb rfl qS (ev1 rfl) rfl rfl) ?_
   refine za rfl (qb rfl kI (ev1 rfl) rfl rfl) ?_
   refine za rfl (zaj [] [] [] rfl (ev1 rfl) (ec (ev1 rfl) (ec (ev1 rfl) en)) rfl rfl (Vn (qF ((ku l).take k) ((kC p), 0)).1 hs3 hs4 hqk (ku l)[k] h0) rfl rfl rfl rfl rfl rfl) ?_
   refine zaa 3 rfl ?_
   refine zak rfl (zaq 5 rfl jR rfl) ?_
   refine zas rfl (kw rfl qS (ev1 rfl) (ev1 rfl) rfl rfl rfl rfl) ?_
   refine zaa 1 rfl ?_
   refine zab ?_
   refine zae ?_
   refine zao 1 ?_
   refine zac ?_
   refine zak rfl (zaq 6 rfl jR rfl) ?_
   refine zab ?_
   refine zah ?_
   refine zaa 1 rfl ?_
   refine zab ?_
   refine zae ?_
   refine zah ?_
   refine zaa 1 rfl ?_
   refine zab ?_
   refine qJ rfl (rfl) ?_
   refine zac ?_
   refine za rfl (qb rfl qS (ev1 rfl) rfl rfl) ?_
   refine za rfl (qb rfl kI (ev1 rfl) rfl rfl) ?_
   refine za rfl (zaj [] [] [] rfl (ev1 rfl) (ec (ev1 rfl) (ec (ev1 rfl) en)) rfl rfl (HY (qF ((ku l).take k) ((kC p), 0)).1 hs3 hs4 hqk (ku l)[k] h0) rfl rfl rfl rfl rfl rfl) ?_
   refine zaa 3 rfl ?_
   refine zas rfl (kw rfl qS (ev1 rfl) (ev1 rfl) rfl rfl rfl rfl) ?_
   refine zaa 1 rfl ?_
   refine zab ?_
   refine zae ?_
   refine zah ?_
   refine zaa 2 rfl ?_
   refine za rfl (qT rfl (ev1 rfl) (ev1 rfl)) ?_
   refine zaa 1 rfl ?_
   refine zai (qe rfl rfl rfl) rfl rfl rfl (qb rfl qS (ev1 rfl) rfl rfl) ?_
   refine zai (qe rfl rfl rfl) rfl rfl rfl (qb rfl qS (ev1 rfl) rfl rfl) ?_
   refine zai (qe rfl rfl rfl) rfl rfl rfl (zaj [] [] [] rfl (ev1 rfl) (ec (ev2 rfl) (ec (ev2 rfl) en)) rfl rfl (Jh (kU (qF ((ku l).take k) ((kC p), 0)).1 (ku l)[k]).2 (kU (qF ((ku l).take k) ((kC p), 0)).1 (ku l)[k]).2 hs5) rfl rfl rfl rfl rfl rfl) ?_
   refine zai (qe rfl rfl rfl) rfl rfl rfl (kv rfl (ev2 rfl)) ?_
   refine za rfl (kx rfl (ev1 rfl) (ev3 rfl id)) ?_
   refine zab ?_
   refine qc rfl (by simp) ?_
   refine zar ?_
   refine zae ?_
   refine zah ?_
   refine zaa 1 rfl ?_
   refine za rfl (qm rfl (ev1 rfl) (ev1 rfl)) ?_
   refine zab ?_
   refine qJ rfl (rfl) ?_
   refine zac ?_
   refine za rfl (qb rfl qS (ev1 rfl) rfl rfl) ?_
   refine zas rfl (wK rfl qS (ev1 rfl) (ev1 rfl) rfl rfl rfl rfl) ?_
   refine zab ?_
   refine zah ?_
   refine za rfl (qb rfl qS (ev1 rfl) rfl rfl) ?_
   refine za rfl (zaj [] [] [] rfl (ev1 rfl) (ec (ev1 rfl) en) rfl rfl (z8 (kU (qF ((ku l).take k) ((kC p), 0)).1 (ku l)[k]).2 hs5) rfl rfl rfl rfl rfl rfl) ?_
   refine zaa 5 rfl ?_
   refine zab ?_
   refine zah ?_
   refine zaa 1 rfl ?_
   refine zab ?_
   refine zae ?_
   refine zah ?_
   refine zaa 1 rfl ?_
   refine zab ?_
   refine qJ rfl (rfl) ?_
   refine zac ?_
   refine za rfl (qb rfl qS (ev1 rfl) rfl rfl) ?_
   refine za rfl (zaj [] [] [] rfl (ev1 rfl) (ec (ev1 rfl) en) rfl rfl (Vx (kU (qF ((ku l).take k) ((kC p), 0)).1 (ku l)[k]).2 hs5) rfl rfl rfl rfl rfl rfl) ?_
   refine zaa 1 rfl ?_
   refine zab ?_
   refine zae ?_
   refine zah ?_
   refine zaa 2 rfl ?_
   refine za rfl (jh rfl (ev1 rfl) (ev1 rfl)) ?_
   refine za rfl (yu rfl un4 (ev1 rfl) (ev1 rfl)) ?_
   refine zaa 1 rfl ?_
   refine zai (qe rfl rfl rfl) rfl rfl rfl (zal (.inl rfl) (ev1 rfl)) ?_
   refine zai (qe rfl rfl rfl) rfl rfl rfl (zal (.inl rfl) (ev1 rfl)) ?_
   refine zai (qe rfl rfl rfl) rfl rfl rfl (YQ rfl (ev2 rfl) (ev1 rfl)) ?_
   refine zai (qe rfl rfl rfl) rfl rfl rfl (qT rfl (ev2 rfl) (ev2 rfl)) ?_
   refine za rfl (kx rfl (ev1 rfl) (ev3 rfl id)) ?_
   refine zab ?_
   refine qc rfl (by rw [(vo hqk2).1]; simp) ?_
   refine zar ?_
   refine zae ?_
   by_cases hw : gi (kU (qF ((ku l).take k) ((kC p), 0)).1 (ku l)[k]).2 = true
   ·refine zac ?_
    refine za rfl (qb rfl qS (ev1 rfl) rfl rfl) ?_
    refine za rfl (zaj [] [] [] rfl (ev1 rfl) (ec (ev1 rfl) en) rfl rfl (J7 (kU (qF ((ku l).take k) ((kC p), 0)).1 (ku l)[k]).2 hs5 hw (wR hqk2)) rfl rfl rfl rfl rfl rfl) ?_
    refine zaa 5 rfl ?_
    refine zab ?_
    refine zah ?_
    refine zaa 3 rfl ?_
    refine zai (qn rfl rfl rfl) rfl rfl rfl (zal (.inl rfl) (ev1 rfl)) ?_
    refine zai (qn rfl rfl rfl) rfl rfl rfl (qv rfl (ev2 rfl) (ev1 rfl)) ?_
    refine za rfl (qC rfl (ev1 rfl) (ev3 rfl id)) ?_
    refine za rfl (yu rfl un4 (ev1 rfl) (ev1 rfl)) ?_
    refine zaa 1 rfl ?_
    refine zai (qe rfl rfl rfl) rfl rfl rfl (zal (.inl rfl) (ev1 rfl)) ?_
    refine zai (qe rfl rfl rfl) rfl rfl rfl (zal (.inl rfl) (ev2 rfl)) ?_
    refine zai (qO rfl rfl rfl) rfl rfl rfl (zal (.inl rfl) (ev1 rfl)) ?_
    refine zai (qO rfl rfl rfl) rfl rfl rfl (zam rfl kt (ev1 rfl)) ?_
    refine zai (qO rfl rfl rfl) rfl rfl rfl (zan rfl jp (ev2 rfl) rfl rfl) ?_
    refine zai (qO rfl rfl rfl) rfl rfl rfl (zaj [] [] [] rfl (ev1 rfl) (ec (ev2 rfl) en) rfl rfl (yS (kU (qF ((ku l).take k) ((kC p), 0)).1 (ku l)[k]).2.ps _ _ rfl rfl (wR hqk2)) rfl rfl rfl rfl rfl rfl) ?_
    refine zai (qO rfl rfl rfl) rfl rfl rfl (zaj [] [] [] rfl (ev1 rfl) (ec (ev2 rfl) (ec (ev2 rfl) en)) rfl rfl (xF (kU (qF ((ku l).take k) ((kC p), 0)).1 (ku l)[k]).2.ps.flatten) rfl rfl rfl rfl rfl rfl) ?_
    refine zai (qO rfl rfl rfl) rfl rfl rfl (kv rfl (ev2 rfl)) ?_
    refine zai (qe rfl rfl rfl) rfl rfl rfl (qC rfl (ev2 rfl) (ev2 rfl)) ?_
    refine za rfl (kx rfl (ev1 rfl) (ev3 rfl id)) ?_
    refine zaa 1 rfl ?_
    refine zai (qe rfl rfl rfl) rfl rfl rfl (zal (.inl rfl) (ev1 rfl)) ?_
    refine zai (qe rfl rfl rfl) rfl rfl rfl (kv rfl (ev2 rfl)) ?_
    refine zai (qe rfl rfl rfl) rfl rfl rfl (zal (.inl rfl) (ev2 rfl)) ?_
    refine zai (qO rfl rfl rfl) rfl rfl rfl (zal (.inl rfl) (ev1 rfl)) ?_
    refine zai (qO rfl rfl rfl) rfl rfl rfl (qE rfl qG (ev2 rfl)) ?_
    refine zai (qO rfl rfl rfl) rfl rfl rfl (kA rfl (ev2 rfl) (ev1 rfl)) ?_
    refine zai (qe rfl rfl rfl) rfl rfl rfl (qC rfl (ev2 rfl) (ev2 rfl)) ?_
    refine za rfl (kx rfl (ev1 rfl) (ev3 rfl id)) ?_
    refine zab ?_
    refine qc rfl (by rw [← (vo hqk2).2, hw]; rfl) ?_
    refine zar ?_
    refine zac ?_
    refine za rfl (ql rfl (ev1 rfl) (ev1 rfl) (fun _ => qbB _ (by omega))) ?_
    refine zaa 1 rfl ?_
    refine zab ?_
    refine ⟨k + 1, [0, 1, 2, 3], by omega, by simp only []; omega, rfl, ⟨by rw [hc1]; rfl, rfl, rfl, rfl, rfl, rfl, rfl, rfl, rfl, rfl, trivial⟩, ⟨rfl, rfl, rfl, by rw [hq1]; rfl, trivial⟩⟩
   ·refine zac ?_
    refine za rfl (qb rfl qS (ev1 rfl) rfl rfl) ?_
    refine za rfl (zaj [] [] [] rfl (ev1 rfl) (ec (ev1 rfl) en) rfl rfl (zg (kU (qF ((ku l).take k) ((kC p), 0)).1 (ku l)[k]).2 hs5 (by simpa using hw)) rfl rfl rfl rfl rfl rfl) ?_
    refine zaa 5 rfl ?_
    refine zab ?_
    refine zah ?_
    refine zaa 3 rfl ?_
    refine zai (qn rfl rfl rfl) rfl rfl rfl (zal (.inl rfl) (ev1 rfl)) ?_
    refine zai (qn rfl rfl rfl) rfl rfl rfl (qv rfl (ev2 rfl) (ev1 rfl)) ?_
    refine za rfl (qC rfl (ev1 rfl) (ev3 rfl id)) ?_
    refine za rfl (yu rfl un4 (ev1 rfl) (ev1 rfl)) ?_
    refine zaa 1 rfl ?_
    refine zai (qe rfl rfl rfl) rfl rfl rfl (zal (.inl rfl) (ev1 rfl)) ?_
    refine zai (qe rfl rfl rfl) rfl rfl rfl (zal (.inl rfl) (ev2 rfl)) ?_
    refine zai (qO rfl rfl rfl) rfl rfl rfl (zal (.inl rfl) (ev1 rfl)) ?_
    refine zai (qO rfl rfl rfl) rfl rfl rfl (zam rfl kt (ev1 rfl)) ?_
    refine zai (qO rfl rfl rfl) rfl rfl rfl (zan rfl jp (ev2 rfl) rfl rfl) ?_
    refine zai (qO rfl rfl rfl) rfl rfl rfl (zaj [] [] [] rfl (ev1 rfl) (ec (ev2 rfl) en) rfl rfl (yS (kU (qF ((ku l).take k) ((kC p), 0)).1 (ku l)[k]).2.ps _ _ rfl rfl (wR hqk2)) rfl rfl rfl rfl rfl rfl) ?_
    refine zai (qO rfl rfl rfl) rfl rfl rfl (zaj [] [] [] rfl (ev1 rfl) (ec (vg (ev2 rfl) (Wk.slf0 1)) (ec (ev2 rfl) en)) rfl rfl (JU [] (kU (qF ((ku l).take k) ((kC p), 0)).1 (ku l)[k]).2.ps.flatten) rfl rfl rfl rfl rfl rfl) ?_
    refine zai (qO rfl rfl rfl) rfl rfl rfl (kv rfl (ev2 rfl)) ?_
    refine zai (qe rfl rfl rfl) rfl rfl rfl (qC rfl (ev2 rfl) (ev2 rfl)) ?_
    refine za rfl (kx rfl (ev1 rfl) (ev3 rfl id)) ?_
    refine zaa 1 rfl ?_
    refine zai (qe rfl rfl rfl) rfl rfl rfl (zal (.inl rfl) (ev1 rfl)) ?_
    refine zai (qe rfl rfl rfl) rfl rfl rfl (kv rfl (ev2 rfl)) ?_
    refine zai (qe rfl rfl rfl) rfl rfl rfl (zal (.inl rfl) (ev2 rfl)) ?_
    refine zai (qO rfl rfl rfl) rfl rfl rfl (zal (.inl rfl) (ev1 rfl)) ?_
    refine zai (qO rfl rfl rfl) rfl rfl rfl (qE rfl qG (vg (ev2 rfl) (Wk.slf0 1))) ?_
    refine zai (qO rfl rfl rfl) rfl rfl rfl (kA rfl (ev2 rfl) (ev1 rfl)) ?_
    refine zai (qe rfl rfl rfl) rfl rfl rfl (qC rfl (ev2 rfl) (ev2 rfl)) ?_
    refine za rfl (kx rfl (ev1 rfl) (ev3 rfl id)) ?_
    refine zab ?_
    refine qc rfl (by rw [← (vo hqk2).2, show gi (kU (qF ((ku l).take k) ((kC p), 0)).1 (ku l)[k]).2 = false by simpa using hw]; rfl) ?_
    refine zar ?_
    refine zac ?_
    refine za rfl (ql rfl (ev1 rfl) (ev1 rfl) (fun _ => qbB _ (by omega))) ?_
    refine zaa 1 rfl ?_
    refine zab ?_
    refine ⟨k + 1, [0, 1, 2, 3], by omega, by simp only []; omega, rfl, ⟨by rw [hc1]; rfl, rfl, rfl, rfl, rfl, rfl, rfl, rfl, rfl, rfl, trivial⟩, ⟨rfl, rfl, rfl, by rw [hq1]; rfl, trivial⟩⟩
  ·obtain ⟨e, he⟩ : ∃ e, (kU (qF ((ku l).take k) ((kC p), 0)).1 (ku l)[k]).1 = e := ⟨_, rfl⟩
   have hpe := zf hqk (ku l)[k] h0
   have hq1 : (qF ((ku l).take (k + 1)) ((kC p), 0)).1 = (qF ((ku l).take k) ((kC p), 0)).1 := by rw [k5 _ _ (by omega), hpe]
   have hc1 : (qF ((ku l).take (k + 1)) ((kC p), 0)).2 = (qF ((ku l).take k) ((kC p), 0)).2 + 1 := by rw [k5 _ _ (by omega)]; exact if_neg h0
   rw [he] at h0
   obtain ⟨hs3, hs4⟩ := VD hqk
   refine zao 1 ?_
   refine zac ?_
   refine za rfl (qb rfl qS (ev1 rfl) rfl rfl) ?_
   refine za rfl (qb rfl kI (ev1 rfl) rfl rfl) ?_
   refine za rfl (zaj [] [] [] rfl (ev1 rfl) (ec (ev1 rfl) (ec (ev1 rfl) en)) rfl rfl (Vm (qF ((ku l).take k) ((kC p), 0)).1 hs3 hs4 hqk (ku l)[k] e h0 he) rfl rfl rfl rfl rfl rfl) ?_
   refine zaa 3 rfl ?_
   refine zak rfl (zaq 5 rfl jR rfl) ?_
   refine zas rfl (kw rfl qS (ev1 rfl) (ev1 rfl) rfl rfl rfl rfl) ?_
   refine zaa 1 rfl ?_
   refine zab ?_
   refine zae ?_
   refine zao 1 ?_
   refine zac ?_
   refine zak rfl (zaq 6 rfl jR rfl) ?_
   refine zab ?_
   refine zah ?_
   refine zaa 1 rfl ?_
   refine zab ?_
   refine zae ?_
   refine zah ?_
   refine zaa 1 rfl ?_
   refine zab ?_
   refine qJ rfl (rfl) ?_
   refine zac ?_
   refine za rfl (qb rfl qS (ev1 rfl) rfl rfl) ?_
   refine za rfl (qb rfl kI (ev1 rfl) rfl rfl) ?_
   refine za rfl (zaj [] [] [] rfl (ev1 rfl) (ec (ev1 rfl) (ec (ev1 rfl) en)) rfl rfl (HX (qF ((ku l).take k) ((kC p), 0)).1 hs3 hs4 hqk (ku l)[k] e h0 he) rfl rfl rfl rfl rfl rfl) ?_
   refine zaa 3 rfl ?_
   refine zas rfl (kw rfl qS (ev1 rfl) (ev1 rfl) rfl rfl rfl rfl) ?_
   refine zaa 1 rfl ?_
   refine zab ?_
   refine zae ?_
   refine zah ?_
   refine zaa 2 rfl ?_
   refine za rfl (qT rfl (ev1 rfl) (ev1 rfl)) ?_
   refine zaa 1 rfl ?_
   refine zai (qe rfl rfl rfl) rfl rfl rfl (qb rfl qS (ev1 rfl) rfl rfl) ?_
   refine zai (qe rfl rfl rfl) rfl rfl rfl (qb rfl qS (ev1 rfl) rfl rfl) ?_
   refine zai (qe rfl rfl rfl) rfl rfl rfl (zaj [] [] [] rfl (ev1 rfl) (ec (ev2 rfl) (ec (ev2 rfl) en)) rfl rfl (Jh zPi zPi (by decide)) rfl rfl rfl rfl rfl rfl) ?_
   refine zai (qe rfl rfl rfl) rfl rfl rfl (kv rfl (ev2 rfl)) ?_
   refine za rfl (kx rfl (ev1 rfl) (ev3 rfl id)) ?_
   refine zab ?_
   refine qc rfl (by simp) ?_
   refine zar ?_
   refine zae ?_
   refine zah ?_
   refine zaa 1 rfl ?_
   refine za rfl (qm rfl (ev1 rfl) (ev1 rfl)) ?_
   refine zab ?_
   refine qc rfl (by simpa using h0) ?_
   refine zac ?_
   refine zaa 1 rfl ?_
   refine za rfl (ql rfl (ev1 rfl) (ev1 rfl) (fun _ => qbB _ (by omega))) ?_
   refine zaa 1 rfl ?_
   refine zab ?_
   refine zah ?_
   refine za rfl (qb rfl qS (ev1 rfl) rfl rfl) ?_
   refine za rfl (zaj [] [] [] rfl (ev1 rfl) (ec (ev1 rfl) en) rfl rfl (z8 (qF ((ku l).take k) ((kC p), 0)).1 hs3) rfl rfl rfl rfl rfl rfl) ?_
   refine zaa 5 rfl ?_
   refine zab ?_
   refine zah ?_
   refine zaa 1 rfl ?_
   refine zab ?_
   refine zae ?_
   refine zah ?_
   refine zaa 1 rfl ?_
   refine zab ?_
   refine qJ rfl (rfl) ?_
   refine zac ?_
   refine za rfl (qb rfl qS (ev1 rfl) rfl rfl) ?_
   refine za rfl (zaj [] [] [] rfl (ev1 rfl) (ec (ev1 rfl) en) rfl rfl (Vx (qF ((ku l).take k) ((kC p), 0)).1 hs3) rfl rfl rfl rfl rfl rfl) ?_
   refine zaa 1 rfl ?_
   refine zab ?_
   refine zae ?_
   refine zah ?_
   refine zaa 2 rfl ?_
   refine za rfl (jh rfl (ev1 rfl) (ev1 rfl)) ?_
   refine za rfl (yu rfl un4 (ev1 rfl) (ev1 rfl)) ?_
   refine zaa 1 rfl ?_
   refine zai (qe rfl rfl rfl) rfl rfl rfl (zal (.inl rfl) (ev1 rfl)) ?_
   refine zai (qe rfl rfl rfl) rfl rfl rfl (zal (.inl rfl) (ev1 rfl)) ?_
   refine zai (qe rfl rfl rfl) rfl rfl rfl (YQ rfl (ev2 rfl) (ev1 rfl)) ?_
   refine zai (qe rfl rfl rfl) rfl rfl rfl (qT rfl (ev2 rfl) (ev2 rfl)) ?_
   refine za rfl (kx rfl (ev1 rfl) (ev3 rfl id)) ?_
   refine zab ?_
   refine qc rfl (by rw [(vo hqk).1]; simp) ?_
   refine zar ?_
   refine zae ?_
   by_cases hw : gi (qF ((ku l).take k) ((kC p), 0)).1 = true
   ·refine zac ?_
    refine za rfl (qb rfl qS (ev1 rfl) rfl rfl) ?_
    refine za rfl (zaj [] [] [] rfl (ev1 rfl) (ec (ev1 rfl) en) rfl rfl (J7 (qF ((ku l).take k) ((kC p), 0)).1 hs3 hw (wR hqk)) rfl rfl rfl rfl rfl rfl) ?_
    refine zaa 5 rfl ?_
    refine zab ?_
    refine zah ?_
    refine zaa 3 rfl ?_
    refine zai (qn rfl rfl rfl) rfl rfl rfl (zal (.inl rfl) (ev1 rfl)) ?_
    refine zai (qn rfl rfl rfl) rfl rfl rfl (qv rfl (ev2 rfl) (ev1 rfl)) ?_
    refine za rfl (qC rfl (ev1 rfl) (ev3 rfl id)) ?_
    refine za rfl (yu rfl un4 (ev1 rfl) (ev1 rfl)) ?_
    refine zaa 1 rfl ?_
    refine zai (qe rfl rfl rfl) rfl rfl rfl (zal (.inl rfl) (ev1 rfl)) ?_
    refine zai (qe rfl rfl rfl) rfl rfl rfl (zal (.inl rfl) (ev2 rfl)) ?_
    refine zai (qO rfl rfl rfl) rfl rfl rfl (zal (.inl rfl) (ev1 rfl)) ?_
    refine zai (qO rfl rfl rfl) rfl rfl rfl (zam rfl kt (ev1 rfl)) ?_
    refine zai (qO rfl rfl rfl) rfl rfl rfl (zan rfl jp (ev2 rfl) rfl rfl) ?_
    refine zai (qO rfl rfl rfl) rfl rfl rfl (zaj [] [] [] rfl (ev1 rfl) (ec (ev2 rfl) en) rfl rfl (yS (qF ((ku l).take k) ((kC p), 0)).1.ps _ _ rfl rfl (wR hqk)) rfl rfl rfl rfl rfl rfl) ?_
    refine zai (qO rfl rfl rfl) rfl rfl rfl (zaj [] [] [] rfl (ev1 rfl) (ec (ev2 rfl) (ec (ev2 rfl) en)) rfl rfl (xF (qF ((ku l).take k) ((kC p), 0)).1.ps.flatten) rfl rfl rfl rfl rfl rfl) ?_
    refine zai (qO rfl rfl rfl) rfl rfl rfl (kv rfl (ev2 rfl)) ?_
    refine zai (qe rfl rfl rfl) rfl rfl rfl (qC rfl (ev2 rfl) (ev2 rfl)) ?_
    refine za rfl (kx rfl (ev1 rfl) (ev3 rfl id)) ?_
    refine zaa 1 rfl ?_
    refine zai (qe rfl rfl rfl) rfl rfl rfl (zal (.inl rfl) (ev1 rfl)) ?_
    refine zai (qe rfl rfl rfl) rfl rfl rfl (kv rfl (ev2 rfl)) ?_
    refine zai (qe rfl rfl rfl) rfl rfl rfl (zal (.inl rfl) (ev2 rfl)) ?_
    refine zai (qO rfl rfl rfl) rfl rfl rfl (zal (.inl rfl) (ev1 rfl)) ?_
    refine zai (qO rfl rfl rfl) rfl rfl rfl (qE rfl qG (ev2 rfl)) ?_
    refine zai (qO rfl rfl rfl) rfl rfl rfl (kA rfl (ev2 rfl) (ev1 rfl)) ?_
    refine zai (qe rfl rfl rfl) rfl rfl rfl (qC rfl (ev2 rfl) (ev2 rfl)) ?_
    refine za rfl (kx rfl (ev1 rfl) (ev3 rfl id)) ?_
    refine zab ?_
    refine qc rfl (by rw [← (vo hqk).2, hw]; rfl) ?_
    refine zar ?_
    refine zac ?_
    refine za rfl (ql rfl (ev1 rfl) (ev1 rfl) (fun _ => qbB _ (by omega))) ?_
    refine zaa 1 rfl ?_
    refine zab ?_
    refine ⟨k + 1, [0, 1, 2, 3], by omega, by simp only []; omega, rfl, ⟨by rw [hc1]; rfl, rfl, rfl, rfl, rfl, rfl, rfl, rfl, rfl, rfl, trivial⟩, ⟨rfl, rfl, rfl, by rw [hq1]; rfl, trivial⟩⟩
   ·refine zac ?_
    refine za rfl (qb rfl qS (ev1 rfl) rfl rfl) ?_
    refine za rfl (zaj [] [] [] rfl (ev1 rfl) (ec (ev1 rfl) en) rfl rfl (zg (qF ((ku l).take k) ((kC p), 0)).1 hs3 (by simpa using hw)) rfl rfl rfl rfl rfl rfl) ?_
    refine zaa 5 rfl ?_
    refine zab ?_
    refine zah ?_
    refine zaa 3 rfl ?_
    refine zai (qn rfl rfl rfl) rfl rfl rfl (zal (.inl rfl) (ev1 rfl)) ?_
    refine zai (qn rfl rfl rfl) rfl rfl rfl (qv rfl (ev2 rfl) (ev1 rfl)) ?_
    refine za rfl (qC rfl (ev1 rfl) (ev3 rfl id)) ?_
    refine za rfl (yu rfl un4 (ev1 rfl) (ev1 rfl)) ?_
    refine zaa 1 rfl ?_
    refine zai (qe rfl rfl rfl) rfl rfl rfl (zal (.inl rfl) (ev1 rfl)) ?_
    refine zai (qe rfl rfl rfl) rfl rfl rfl (zal (.inl rfl) (ev2 rfl)) ?_
    refine zai (qO rfl rfl rfl) rfl rfl rfl (zal (.inl rfl) (ev1 rfl)) ?_
    refine zai (qO rfl rfl rfl) rfl rfl rfl (zam rfl kt (ev1 rfl)) ?_
    refine zai (qO rfl rfl rfl) rfl rfl rfl (zan rfl jp (ev2 rfl) rfl rfl) ?_
    refine zai (qO rfl rfl rfl) rfl rfl rfl (zaj [] [] [] rfl (ev1 rfl) (ec (ev2 rfl) en) rfl rfl (yS (qF ((ku l).take k) ((kC p), 0)).1.ps _ _ rfl rfl (wR hqk)) rfl rfl rfl rfl rfl rfl) ?_
    refine zai (qO rfl rfl rfl) rfl rfl rfl (zaj [] [] [] rfl (ev1 rfl) (ec (vg (ev2 rfl) (Wk.slf0 1)) (ec (ev2 rfl) en)) rfl rfl (JU [] (qF ((ku l).take k) ((kC p), 0)).1.ps.flatten) rfl rfl rfl rfl rfl rfl) ?_
    refine zai (qO rfl rfl rfl) rfl rfl rfl (kv rfl (ev2 rfl)) ?_
    refine zai (qe rfl rfl rfl) rfl rfl rfl (qC rfl (ev2 rfl) (ev2 rfl)) ?_
    refine za rfl (kx rfl (ev1 rfl) (ev3 rfl id)) ?_
    refine zaa 1 rfl ?_
    refine zai (qe rfl rfl rfl) rfl rfl rfl (zal (.inl rfl) (ev1 rfl)) ?_
    refine zai (qe rfl rfl rfl) rfl rfl rfl (kv rfl (ev2 rfl)) ?_
    refine zai (qe rfl rfl rfl) rfl rfl rfl (zal (.inl rfl) (ev2 rfl)) ?_
    refine zai (qO rfl rfl rfl) rfl rfl rfl (zal (.inl rfl) (ev1 rfl)) ?_
    refine zai (qO rfl rfl rfl) rfl rfl rfl (qE rfl qG (vg (ev2 rfl) (Wk.slf0 1))) ?_
    refine zai (qO rfl rfl rfl) rfl rfl rfl (kA rfl (ev2 rfl) (ev1 rfl)) ?_
    refine zai (qe rfl rfl rfl) rfl rfl rfl (qC rfl (ev2 rfl) (ev2 rfl)) ?_
    refine za rfl (kx rfl (ev1 rfl) (ev3 rfl id)) ?_
    refine zab ?_
    refine qc rfl (by rw [← (vo hqk).2, show gi (qF ((ku l).take k) ((kC p), 0)).1 = false by simpa using hw]; rfl) ?_
    refine zar ?_
    refine zac ?_
    refine za rfl (ql rfl (ev1 rfl) (ev1 rfl) (fun _ => qbB _ (by omega))) ?_
    refine zaa 1 rfl ?_
    refine zab ?_
    refine ⟨k + 1, [0, 1, 2, 3], by omega, by simp only []; omega, rfl, ⟨by rw [hc1]; rfl, rfl, rfl, rfl, rfl, rfl, rfl, rfl, rfl, rfl, trivial⟩, ⟨rfl, rfl, rfl, by rw [hq1]; rfl, trivial⟩⟩
 ·try simp only [decide_eq_true_eq, decide_eq_false_iff_not, beq_iff_eq, bne_iff_ne, beq_eq_false_iff_ne, bne_eq_false_iff_eq, qbx, qby, qbu, qbE, qbv, ne_eq, Decidable.not_not, qbQ, qbR] at c3
  refine qD ?_
  refine zae ?_
  obtain rfl : k = (ku l).length := by omega
  rw [qch] at hqk hqn ⊢
  obtain ⟨hsa, hsb⟩ := Za (kC p)
  obtain ⟨hoA, hpA⟩ := Kh hsa (by rw [hsb]; exact hp) (ku l) _ (qbM _)
  rw [qch, hsb] at hpA
  rw [qch] at hoA
  have hqA : kH (kF (ku l) (s0P (kC p))).pi = true := by rw [hpA]; exact hqk
  have hsM := (VD hqk).1
  have hnl : (kF (ku l) (s0P (kC p))).ns.length ≤ 5000 := by rw [← xa (kF (ku l) (s0P (kC p))).ns (kF (ku l) (s0P (kC p))).R]; show (kF (ku l) (s0P (kC p))).pi.ps.length ≤ 5000; rw [hpA]; exact hsM
  refine zao 2 ?_
  refine zac ?_
  refine za rfl (qb rfl qS (ev1 rfl) rfl rfl) ?_
  refine zaa 1 rfl ?_
  refine zak rfl (zaj [1] [] [4] rfl (ev1 rfl) (ec (ev1 rfl) (ec (ev1 rfl) en)) rfl rfl (Aa (kC p) hn0 hb0 hp (ku l) (by omega)) rfl rfl rfl (by exact (wrc rfl (wrc (by first | exact rfl | exact kB (fun _ => rfl) | exact kg (qf (fun _ => rfl) _) | exact q9 (fun _ => rfl) | exact ki (fun _ => rfl) | exact sbN rfl) rfl))) rfl rfl) ?_
  refine zaa 4 rfl ?_
  refine zak rfl (zaq 5 rfl jR rfl) ?_
  refine zas rfl (kw rfl qS (ev1 rfl) (ev1 rfl) rfl rfl rfl rfl) ?_
  refine zaa 2 rfl ?_
  refine zab ?_
  refine zae ?_
  refine zah ?_
  refine zaa 1 rfl ?_
  refine za rfl (kv rfl (ev1 rfl)) ?_
  refine zab ?_
  refine qc rfl (rfl) ?_
  refine zar ?_
  refine zae ?_
  refine zah ?_
  refine zaa 1 rfl ?_
  refine za rfl (qT rfl (ev1 rfl) (ev1 rfl)) ?_
  refine zaa 1 rfl ?_
  refine zai (qe rfl rfl rfl) rfl rfl rfl (zal (.inl rfl) (ev1 rfl)) ?_
  refine zai (qe rfl rfl rfl) rfl rfl rfl (zal (.inl rfl) (ev1 rfl)) ?_
  refine zai (qe rfl rfl rfl) rfl rfl rfl (qT rfl (ev2 rfl) (ev2 rfl)) ?_
  refine za rfl (kx rfl (ev1 rfl) (ev3 rfl id)) ?_
  refine zaa 1 rfl ?_
  refine zai (qe rfl rfl rfl) rfl rfl rfl (qb rfl qS (ev1 rfl) rfl rfl) ?_
  refine zai (qe rfl rfl rfl) rfl rfl rfl (qb rfl qS (ev1 rfl) rfl rfl) ?_
  refine zai (qe rfl rfl rfl) rfl rfl rfl (zaj [] [4, 1] [] rfl (ev1 rfl) (ec (ev2 rfl) (ec (ev2 rfl) en)) (gu (by rw [← hpA]; exact Ze hoA rfl rfl rfl rfl rfl rfl) (gu rfl rfl)) rfl (Jh (qF (ku l) ((kC p), 0)).1 (qF (ku l) ((kC p), 0)).1 hsM) rfl rfl rfl rfl rfl rfl) ?_
  refine zai (qe rfl rfl rfl) rfl rfl rfl (kv rfl (ev2 rfl)) ?_
  refine za rfl (kx rfl (ev1 rfl) (ev3 rfl id)) ?_
  refine zab ?_
  refine qc rfl (by simp) ?_
  refine zar ?_
  refine zae ?_
  refine zah ?_
  refine za rfl (zam rfl kt (ev1 rfl)) ?_
  refine za rfl (zan rfl jp (ev1 rfl) rfl rfl) ?_
  refine za rfl (Zv rfl kO (ev1 rfl) rfl) ?_
  refine zaa 1 rfl ?_
  refine zab ?_
  refine zat ?_
  refine qI ⟨hs0, rfl⟩ (α := Nat × List (List Int)) (fun x_ => [(187, .val (.int .i64 (x_.1 : Int)))]) [(1, _), (2, _), (5, _), (6, _), (185, _), (186, _)] (fun x_ => [(1, .fam (jq x_.2))]) [_, .hole, _, _, _, _] (fun x_ => x_.1 ≤ (kF (ku l) (s0P (kC p))).ns.length ∧ yT x_.2 = yT (kF (ku l) (s0P (kC p))).R) (fun x_ => (kF (ku l) (s0P (kC p))).ns.length - x_.1) (0, (kF (ku l) (s0P (kC p))).R) [0, 1, 2, 3, 4, 5] (⟨qb3 _, rfl⟩) rfl ⟨rfl, rfl, rfl, rfl, rfl, rfl, trivial⟩ ⟨rfl, trivial⟩ ⟨rfl, rfl, rfl, rfl, qM rfl rfl rfl, rfl, trivial⟩ ?_
  intro x_ hx
  simp only [upd, zaf, zag, qbD, qbF]
  obtain ⟨i, Q⟩ := x_
  obtain ⟨g1, g2⟩ := hx
  dsimp only at g1 g2 ⊢
  have hQn := Jl g2
  refine zah ?_
  refine za rfl (qv rfl (ev1 rfl) (ev1 rfl)) ?_
  refine zab ?_
  refine zae ?_
  refine qh rfl (fun c21 => ?_) (fun c21 => ?_)
  ·try simp only [decide_eq_true_eq, decide_eq_false_iff_not, beq_iff_eq, bne_iff_ne, beq_eq_false_iff_ne, bne_eq_false_iff_eq, qbx, qby, qbu, qbE, qbv, ne_eq, Decidable.not_not, qbQ, qbR] at c21
   refine zar ?_
   refine zae ?_
   refine zat ?_
   refine zae ?_
   by_cases hno : (kF (ku l) (s0P (kC p))).ns[i]? = some none
   ·refine zac ?_
    refine za rfl (ge (i) rfl kO (ev1 rfl) (ev1 rfl) rfl (fun _ => rfl) (fun _ => by omega)) ?_
    refine za rfl ((wm rfl kD (ev1 rfl) rfl (YF hno)).cast (d' := .slf 1 (([] : List Int)).length ((([] : List Int)).flatMap uc8)) (rfl)) ?_
    refine zaa 1 rfl ?_
    refine zab ?_
    refine zah ?_
    refine zaa 1 rfl ?_
    refine za rfl (qE rfl qG (ev1 rfl)) ?_
    refine zaa 1 rfl ?_
    refine zab ?_
    refine zat ?_
    refine yK (kY ?_)
    refine zah ?_
    refine za rfl (qv rfl (ev1 rfl) (ev1 rfl)) ?_
    refine zab ?_
    refine zae ?_
    refine qc rfl (rfl) ?_
    refine qD ?_
    refine zac ?_
    refine za rfl (ql rfl (ev1 rfl) (ev1 rfl) (fun _ => qbB _ (by omega))) ?_
    refine zaa 1 rfl ?_
    refine zab ?_
    refine ⟨(i + 1, Q), [0, 1, 2, 3, 4, 5], ⟨by dsimp only; omega, g2⟩, by dsimp only; omega, rfl, ⟨rfl, rfl, rfl, rfl, rfl, rfl, rfl, trivial⟩, ⟨rfl, rfl, rfl, rfl, qM rfl rfl rfl, rfl, trivial⟩⟩
   ·obtain ⟨m, hmi⟩ := WI (show i < (kF (ku l) (s0P (kC p))).ns.length by omega) hno
    obtain ⟨hm, hm256⟩ := Ab hoA hqA hmi
    have hk1 : m < Q.length := by omega
    have hkl := YH g2 hk1 hm
    refine zac ?_
    refine za rfl (ge (i) rfl kO (ev1 rfl) (ev1 rfl) rfl (fun _ => rfl) (fun _ => by omega)) ?_
    refine za rfl ((wm rfl kD (ev1 rfl) rfl (YF hmi)).cast (d' := (.farr 1 m)) (rfl)) ?_
    refine zaa 1 rfl ?_
    refine zab ?_
    refine zah ?_
    refine zaa 1 rfl ?_
    refine za rfl (QT rfl qG (ev1 rfl) rfl (vQ hk1)) ?_
    refine zaa 1 rfl ?_
    refine zab ?_
    refine zat ?_
    refine qI ⟨hs0, rfl⟩ (α := Nat × List (List Int)) (fun y_ => [(193, .val (.int .i64 (y_.1 : Int)))]) [(1, _), (2, _), (5, _), (6, _), (27, _), (185, _), (186, _), (187, _), (192, _)] (fun y_ => [(1, .fam (jq y_.2))]) [_, .hole, _, _, _, _] (fun y_ => y_.1 ≤ Q[m].length ∧ yT y_.2 = yT (kF (ku l) (s0P (kC p))).R) (fun y_ => Q[m].length - y_.1) (0, Q) [0, 1, 2, 3, 4, 5] (⟨qb3 _, g2⟩) rfl ⟨rfl, rfl, rfl, rfl, rfl, rfl, rfl, rfl, rfl, trivial⟩ ⟨rfl, trivial⟩ ⟨rfl, rfl, rfl, rfl, qM rfl rfl rfl, rfl, trivial⟩ ?_
    intro y_ hx
    simp only [upd, zaf, zag, qbD, qbF]
    obtain ⟨j, q⟩ := y_
    obtain ⟨g3, g4⟩ := hx
    dsimp only at g3 g4 ⊢
    have hqn2 := Jl g4
    have hk2 : m < q.length := by omega
    have hql : q[m].length = Q[m].length := (YH g4 hk2 hm).trans hkl.symm
    refine zah ?_
    refine za rfl (qv rfl (ev1 rfl) (ev1 rfl)) ?_
    refine zab ?_
    refine zae ?_
    refine qh rfl (fun c23 => ?_) (fun c23 => ?_)
    ·try simp only [decide_eq_true_eq, decide_eq_false_iff_not, beq_iff_eq, bne_iff_ne, beq_eq_false_iff_ne, bne_eq_false_iff_eq, qbx, qby, qbu, qbE, qbv, ne_eq, Decidable.not_not, qbQ, qbR] at c23
     refine zar ?_
     refine zae ?_
     refine zat ?_
     refine zae ?_
     have hj2 : j < q[m].length := by omega
     refine zac ?_
     refine zaa 2 rfl ?_
     refine zab ?_
     refine zac ?_
     refine zaa 2 rfl ?_
     refine za rfl (Uv (j) rfl qG (ev1 rfl) (ev1 rfl) rfl (vQ hk2) (fun _ => rfl) (fun _ => by omega)) ?_
     refine za rfl (ZE rfl tb5 (ev1 rfl) rfl (vQ hk2) (fun _ => rfl) (by omega) rfl) ?_
     refine za rfl (WR rfl (ev1 rfl) (ev1 rfl)) ?_
     refine za rfl (Uv (j) rfl qG (ev1 rfl) (ev1 rfl) rfl (vQ hk2) (fun _ => rfl) (fun _ => by omega)) ?_
     refine zas rfl (ZF (IntKind.u8.wrap (q[m][j] + 1)) rfl tb5 (ev1 rfl) (ev1 rfl) rfl (vQ hk2) rfl (fun _ => rfl) (by omega) rfl) ?_
     refine zab ?_
     refine zac ?_
     refine za rfl (ql rfl (ev1 rfl) (ev1 rfl) (fun _ => qbB _ (by omega))) ?_
     refine zaa 1 rfl ?_
     refine zab ?_
     refine ⟨(j + 1, q.set m (q[m].set j (IntKind.u8.wrap (q[m][j] + 1)))), [0, 1, 2, 3, 4, 5], ⟨by dsimp only; omega, (Zc hk2 (by simp)).trans g4⟩, by dsimp only; omega, rfl, ⟨rfl, rfl, rfl, rfl, rfl, rfl, rfl, rfl, rfl, rfl, trivial⟩, ⟨rfl, congrArg (fun b => some (Blk.fam b)) (X4 (by simp)), rfl, rfl, qM rfl rfl rfl, rfl, trivial⟩⟩
    ·try simp only [decide_eq_true_eq, decide_eq_false_iff_not, beq_iff_eq, bne_iff_ne, beq_eq_false_iff_ne, bne_eq_false_iff_eq, qbx, qby, qbu, qbE, qbv, ne_eq, Decidable.not_not, qbQ, qbR] at c23
     refine qD ?_
     refine zac ?_
     refine za rfl (ql rfl (ev1 rfl) (ev1 rfl) (fun _ => qbB _ (by omega))) ?_
     refine zaa 1 rfl ?_
     refine zab ?_
     refine ⟨(i + 1, q), [0, 1, 2, 3, 4, 5], ⟨by dsimp only; omega, g4⟩, by dsimp only; omega, rfl, ⟨rfl, rfl, rfl, rfl, rfl, rfl, rfl, trivial⟩, ⟨rfl, rfl, rfl, rfl, qM rfl rfl rfl, rfl, trivial⟩⟩
  ·try simp only [decide_eq_true_eq, decide_eq_false_iff_not, beq_iff_eq, bne_iff_ne, beq_eq_false_iff_ne, bne_eq_false_iff_eq, qbx, qby, qbu, qbE, qbv, ne_eq, Decidable.not_not, qbQ, qbR] at c21
   refine qD ?_
   refine zae ?_
   refine qg [([2], []), ([0], []), ([], []), ([], []), ([], []), ([], []), ([], []), ([], []), ([], []), ([], []), ([], [])] qP (by kernel_rfl) ?_
   refine zad rfl rfl (qb rfl qS (ev1 rfl) rfl rfl) ?_
   refine zad rfl rfl (qb rfl qS (ev1 rfl) rfl rfl) ?_
   refine zad rfl rfl (zaj [] [] [] rfl (ev1 rfl) (ec (ev1 rfl) en) rfl rfl (X8 p) rfl rfl rfl rfl rfl rfl) ?_
   refine zad rfl rfl (zaj [] [] [] rfl (ev1 rfl) (ec (ev1 rfl) (ec (ev1 rfl) en)) rfl rfl (Jh (kC p) (kC p) hn0) rfl rfl rfl rfl rfl rfl) ?_
   refine zad rfl rfl (zal (.inl rfl) (ev1 rfl)) ?_
   refine qj (qn rfl rfl rfl) rfl rfl (zal (.inl rfl) (ev1 rfl)) ?_
   refine qj (qn rfl rfl rfl) rfl rfl (zal (.inl rfl) (ev1 rfl)) ?_
   refine qj (qn rfl rfl rfl) rfl rfl (zaj [] [] [] rfl (ev1 rfl) (ec (ev2 rfl) en) rfl rfl (Qu l) rfl rfl rfl rfl rfl rfl) ?_
   refine qj (qn rfl rfl rfl) rfl rfl (zaj [] [] [] rfl (ev1 rfl) (ec (ev2 rfl) (ec (ev2 rfl) (ec (ev1 rfl) en))) rfl rfl (eqf_d (ku l) (ku l)) rfl rfl rfl rfl rfl rfl) ?_
   refine zad rfl rfl (qC rfl (ev1 rfl) (ev3 rfl id)) ?_
   refine zad rfl rfl (zal (.inr rfl) (ev1 rfl)) ?_
   refine qk ?_
   refine qa ?_
   refine qx (rs1 rfl (qL rfl)) rfl ?_
   simp
theorem Ae (p : PiM) (l : List PcM) : DFun Tryz.prog 5 [.agg (piD p), .slm 4 (l).length ((l).flatMap pcD)] [] (.val (.bool true)) [] := by
 cases h : kH (kC p) with
 | false => exact Ac p l h
 | true => exact Ad p l h
end Go.Proofs.YtofklkbfkoliiaaGreat
