/- places gone through, up to a line; a canvas drawn on; what draws; strokes, lines, rectangles; what holds ahead of each law: drawing; painted twice; arguments that are opened; the variable that stays; strokes, by the document; strokes and lines, by the document; a brush that is opened. No condition. -/
import Derived.Test.YtjgnalfnginjbaaGreatDoorK5
import Derived.Test.YtjgnalfnginjbaaGreatDoorRows
import Derived.SevenTiedAt
namespace Go.Proofs.YtjgnalfnginjbaaGreatDoor
set_option maxRecDepth 4000
set_option linter.unusedVariables false
set_option linter.unusedSimpArgs false
open Go.RowKit
noncomputable def alrA : Code := rfA (pth [1, 1, 0] (bodyOf Tryz.f125))
noncomputable def alrB : Code := rfB (pth [1, 1, 0] (bodyOf Tryz.f125))
set_option maxRecDepth 4000 in
set_option maxHeartbeats 1000000 in
theorem span_p_y (w h : Int) (ds : List D) (ts : List TL) (hr : RowOk ds ts) (hc : CvOk w h ts) (cc : C4) (s : Sp) (hs : rchS s ∧ s.f ≤ s.t) (hy : s.y < h * 8) (P : List P2) (hnd : (P ++ s.pts).Nodup) (hon : ∀ k : Nat, k < s.wd → onS w h (s.f + (k : Int)) s.y = true) : DRound Tryz.prog 0 [.val (.agg (s3 s).toArray)] [.lp 23 [(2, .loc 1 0)] #[7] alrA alrB .ready none, .mix 53 [.yld 2], .lp 33 [(2, .loc 3 0), (3, .loc 4 0), (4, .loc 5 0)] #[10] pxrA pxrB .ready none, .flat 3 [.int .i64 (h * 8)], .mix 85 [cvD w h ds], .mix 148 [.yld 6], .lp 18 [(3, .loc 7 0), (5, .loc 8 0)] #[10, 11] earA earB .ready none, .mix 88 [.fn (.func 86) [] [.loc 10 0]], .mix 124 [.hnd 9], .obj (mapQ p2 c4 (mpK false w ts cc (P))), .flat 27 (c4 cc)] true [.lp 23 [(2, .loc 1 0)] #[7] alrA alrB .ready none, .mix 53 [.yld 2], .lp 33 [(2, .loc 3 0), (3, .loc 4 0), (4, .loc 5 0)] #[10] pxrA pxrB .ready none, .flat 3 [.int .i64 (h * 8)], .mix 85 [cvD w h ds], .mix 148 [.yld 6], .lp 18 [(3, .loc 7 0), (5, .loc 8 0)] #[10, 11] earA earB .ready none, .mix 88 [.fn (.func 86) [] [.loc 10 0]], .mix 124 [.hnd 9], .obj (mapQ p2 c4 (mpK false w ts cc (P ++ s.pts))), .flat 27 (c4 cc)] := by
  obtain ⟨hrs, hft⟩ := hs
  have hr2 := hrs
  unfold rchS at hr2
  have hwd : (s.wd : Int) = s.t - s.f + 1 := by unfold Sp.wd; omega
  have hpw := pts_wd s
  refine dround_go 11 rfl rfl (by simp) rfl rfl fun s0 hs0 => ?_
  refine zai 1 (by simp only [holes, List.cons_append, List.nil_append]; exact rfl) ?_
  refine zad ?_
  refine zaj rfl rfl rfl (op_alloc 11 rfl zr32 rfl) (by simp only [upd, zaa, za]; exact rfl) ?_
  refine walk_s rfl rfl (op_stwa rfl tb32 (ev1 rfl) (ev1 rfl) rfl rfl rfl rfl) (by simp only [upd, zaa, za]; exact rfl) ?_
  refine zae ?_
  refine ⟨rfl, ?_⟩
  simp only [zaa, za]
  refine dwp_block ?_
  refine zaf ?_
  refine zad ?_
  refine zab rfl rfl rfl (op_fa rfl fo32_1 (ev1 rfl)) ?_
  refine zab rfl rfl rfl (op_ldo rfl tb3 (ev1 rfl) rfl rfl) ?_
  refine zab rfl rfl rfl (zac (.inr rfl) (ev1 rfl)) ?_
  refine zae ?_
  refine dwp_block ?_
  refine dwp_loopS ⟨hs0, rfl⟩ (α := Nat) (fun k => [(4, .val (.int .i64 (s.f + (k : Int))))]) [(2, _), (3, _)] (fun k => [(9, .obj (mapQ p2 c4 (mpK false w ts cc (P ++ s.pts.take k))))]) [_, _, _, _, _, _, _, _, _, .hole, _, _] (fun k => k ≤ s.wd) (fun k => s.wd - k) 0 [0, 1, 2, 3, 4, 5, 6, 7, 8, 9, 10, 11] (Nat.zero_le _) rfl ⟨rfl, rfl, trivial⟩ ⟨congrArg (fun z => some (D.val (.int .i64 z))) (by first | rfl | omega), trivial⟩ ⟨rfl, rfl, rfl, rfl, rfl, rfl, rfl, rfl, rfl, by rw [List.take_zero, List.append_nil]; rfl, rfl, rfl, trivial⟩ ?_
  intro k hx
  simp only [upd, zaa, za, List.cons_append, List.nil_append]
  have hk0 := hx
  refine zaf ?_
  refine zaf ?_
  refine zad ?_
  refine zab rfl rfl rfl (zac (.inl rfl) (ev1 rfl)) ?_
  refine zab rfl rfl rfl (op_fa rfl fo32_2 (ev1 rfl)) ?_
  refine zab rfl rfl rfl (op_ldo rfl tb3 (ev1 rfl) rfl rfl) ?_
  refine zab rfl rfl rfl (op_leq rfl (ev1 rfl) (ev1 rfl)) ?_
  refine zae ?_
  refine dwp_cond rfl (fun c1 => ?_) (fun c1 => ?_)
  · try simp only [decide_eq_true_eq, decide_eq_false_iff_not, beq_iff_eq, bne_iff_ne, beq_eq_false_iff_ne, bne_eq_false_iff_eq, Bool.not_eq_true', Bool.not_eq_false', Bool.and_eq_true, Bool.or_eq_true, Bool.or_eq_false_iff, ne_eq, Decidable.not_not, Int.not_lt, Int.not_le] at c1
    refine zal ?_
    refine zaf ?_
    refine dwp_block ?_
    refine zaf ?_
    have hk : k < s.wd := by omega
    have hfr := fresh (q := (⟨s.f + (k : Int), s.y⟩ : P2)) hnd (show k < s.pts.length by rw [hpw]; exact hk) (by simp [Sp.pts])
    refine zad ?_
    refine zab rfl rfl rfl (op_ldm rfl tb53 (ev1 rfl) rfl rfl) ?_
    refine zab rfl rfl rfl (zac (.inl rfl) (ev1 rfl)) ?_
    refine zab rfl rfl rfl (op_fa rfl fo32_0 (ev1 rfl)) ?_
    refine zab rfl rfl rfl (op_ldo rfl tb3 (ev1 rfl) rfl rfl) ?_
    refine zab rfl rfl rfl (op_build (ps := [(0, .tmp 17), (1, .tmp 19)]) rfl fl51 zr51 (vc (ev1 rfl) (vc (ev1 rfl) vn)) rfl rfl) ?_
    refine zaj rfl rfl rfl (op_y (i := 0) [2, 3, 4, 5, 6, 7, 8, 9, 10] [] [] rfl (ev1 rfl) (ec (ev1 rfl) en) rfl rfl rfl (pxRound_p_go w h ds ts hr hc cc ⟨s.f + (k : Int), s.y⟩ _ hy (hon k hk) (by rw [mpK_keys]; exact hfr)) rfl rfl rfl rfl rfl) (by simp only [upd, zaa, za]; exact rfl) ?_
    refine zab rfl rfl rfl (op_not rfl (ev1 rfl)) ?_
    refine zae ?_
    refine dwp_if_f rfl (rfl) ?_
    refine zal ?_
    refine zad ?_
    refine zab rfl rfl rfl (zac (.inl rfl) (ev1 rfl)) ?_
    refine zab rfl rfl rfl (op_add' rfl (ev1 rfl) (ev1 rfl) (fun _ => IntWalk.i64_in _ (by omega))) ?_
    refine zab rfl rfl rfl (zac (.inr rfl) (ev1 rfl)) ?_
    refine zae ?_
    refine ⟨k + 1, [0, 1, 2, 3, 4, 5, 6, 7, 8, 9, 10, 11], by omega, by simp only []; omega, rfl, ⟨congrArg (fun z => some (D.val (.int .i64 z))) (by first | rfl | omega), rfl, rfl, trivial⟩, ⟨rfl, rfl, rfl, rfl, rfl, rfl, rfl, rfl, rfl, by rw [pts_add hk, ← List.append_assoc, ← mpK_add]; rfl, rfl, rfl, trivial⟩⟩
  · try simp only [decide_eq_true_eq, decide_eq_false_iff_not, beq_iff_eq, bne_iff_ne, beq_eq_false_iff_ne, bne_eq_false_iff_eq, Bool.not_eq_true', Bool.not_eq_false', Bool.and_eq_true, Bool.or_eq_true, Bool.or_eq_false_iff, ne_eq, Decidable.not_not, Int.not_lt, Int.not_le] at c1
    refine dwp_exit ?_
    obtain rfl : k = s.wd := by omega
    rw [show s.pts.take s.wd = s.pts from List.take_of_length_le (by omega)]
    refine ⟨by first | rfl | assumption | simp_all, rfl, [0, 1, 2, 3, 4, 5, 6, 7, 8, 9, 10], rfl, ⟨rfl, rfl, rfl, rfl, rfl, rfl, rfl, rfl, rfl, rfl, rfl, trivial⟩⟩
set_option maxRecDepth 4000 in
set_option maxHeartbeats 1000000 in
theorem span_p_n (w h : Int) (ds : List D) (ts : List TL) (hr : RowOk ds ts) (hc : CvOk w h ts) (cc : C4) (s : Sp) (hs : rchS s ∧ s.f ≤ s.t) (hy : ¬ s.y < h * 8) (P : List P2) : DRound Tryz.prog 0 [.val (.agg (s3 s).toArray)] [.lp 23 [(2, .loc 1 0)] #[7] alrA alrB .ready none, .mix 53 [.yld 2], .lp 33 [(2, .loc 3 0), (3, .loc 4 0), (4, .loc 5 0)] #[10] pxrA pxrB .ready none, .flat 3 [.int .i64 (h * 8)], .mix 85 [cvD w h ds], .mix 148 [.yld 6], .lp 18 [(3, .loc 7 0), (5, .loc 8 0)] #[10, 11] earA earB .ready none, .mix 88 [.fn (.func 86) [] [.loc 10 0]], .mix 124 [.hnd 9], .obj (mapQ p2 c4 (mpK false w ts cc (P))), .flat 27 (c4 cc)] false [.lp 23 [(2, .loc 1 0)] #[7] alrA alrB .done (some .ret), .mix 53 [.yld 2], .lp 33 [(2, .loc 3 0), (3, .loc 4 0), (4, .loc 5 0)] #[10] pxrA pxrB .done (some (.exit 0)), .flat 3 [.int .i64 (h * 8)], .mix 85 [cvD w h ds], .mix 148 [.yld 6], .lp 18 [(3, .loc 7 0), (5, .loc 8 0)] #[10, 11] earA earB .ready none, .mix 88 [.fn (.func 86) [] [.loc 10 0]], .mix 124 [.hnd 9], .obj (mapQ p2 c4 (mpK false w ts cc (P))), .flat 27 (c4 cc)] := by
  obtain ⟨hrs, hft⟩ := hs
  have hr2 := hrs
  unfold rchS at hr2
  have hwd : (s.wd : Int) = s.t - s.f + 1 := by unfold Sp.wd; omega
  have hpw := pts_wd s
  refine dround_go 11 rfl rfl (by simp) rfl rfl fun s0 hs0 => ?_
  refine zai 1 (by simp only [holes, List.cons_append, List.nil_append]; exact rfl) ?_
  refine zad ?_
  refine zaj rfl rfl rfl (op_alloc 11 rfl zr32 rfl) (by simp only [upd, zaa, za]; exact rfl) ?_
  refine walk_s rfl rfl (op_stwa rfl tb32 (ev1 rfl) (ev1 rfl) rfl rfl rfl rfl) (by simp only [upd, zaa, za]; exact rfl) ?_
  refine zae ?_
  refine ⟨rfl, ?_⟩
  simp only [zaa, za]
  refine dwp_block ?_
  refine zaf ?_
  refine zad ?_
  refine zab rfl rfl rfl (op_fa rfl fo32_1 (ev1 rfl)) ?_
  refine zab rfl rfl rfl (op_ldo rfl tb3 (ev1 rfl) rfl rfl) ?_
  refine zab rfl rfl rfl (zac (.inr rfl) (ev1 rfl)) ?_
  refine zae ?_
  refine dwp_block ?_
  refine dwp_loopS ⟨hs0, rfl⟩ (α := Nat) (fun k => [(4, .val (.int .i64 (s.f + (k : Int))))]) [(2, _), (3, _)] (fun k => []) [_, _, _, _, _, _, _, _, _, _, _, _] (fun k => k = 0) (fun k => 1 - k) 0 [0, 1, 2, 3, 4, 5, 6, 7, 8, 9, 10, 11] (rfl) rfl ⟨rfl, rfl, trivial⟩ ⟨congrArg (fun z => some (D.val (.int .i64 z))) (by first | rfl | omega), trivial⟩ ⟨rfl, rfl, rfl, rfl, rfl, rfl, rfl, rfl, rfl, rfl, rfl, rfl, trivial⟩ ?_
  intro k hx
  simp only [upd, zaa, za, List.cons_append, List.nil_append]
  have hk0 := hx
  refine zaf ?_
  refine zaf ?_
  refine zad ?_
  refine zab rfl rfl rfl (zac (.inl rfl) (ev1 rfl)) ?_
  refine zab rfl rfl rfl (op_fa rfl fo32_2 (ev1 rfl)) ?_
  refine zab rfl rfl rfl (op_ldo rfl tb3 (ev1 rfl) rfl rfl) ?_
  refine zab rfl rfl rfl (op_leq rfl (ev1 rfl) (ev1 rfl)) ?_
  refine zae ?_
  refine dwp_if_t rfl (by subst hk0; simp; omega) ?_
  refine zal ?_
  refine zaf ?_
  refine dwp_block ?_
  refine zaf ?_
  refine zad ?_
  refine zab rfl rfl rfl (op_ldm rfl tb53 (ev1 rfl) rfl rfl) ?_
  refine zab rfl rfl rfl (zac (.inl rfl) (ev1 rfl)) ?_
  refine zab rfl rfl rfl (op_fa rfl fo32_0 (ev1 rfl)) ?_
  refine zab rfl rfl rfl (op_ldo rfl tb3 (ev1 rfl) rfl rfl) ?_
  refine zab rfl rfl rfl (op_build (ps := [(0, .tmp 17), (1, .tmp 19)]) rfl fl51 zr51 (vc (ev1 rfl) (vc (ev1 rfl) vn)) rfl rfl) ?_
  refine zaj rfl rfl rfl (op_y (i := 0) [2, 3, 4, 5, 6, 7, 8, 9, 10] [] [] rfl (ev1 rfl) (ec (ev1 rfl) en) rfl rfl rfl (pxRound_p_no w h ds ts hr hc cc ⟨s.f + (k : Int), s.y⟩ _ hy) rfl rfl rfl rfl rfl) (by simp only [upd, zaa, za]; exact rfl) ?_
  refine zab rfl rfl rfl (op_not rfl (ev1 rfl)) ?_
  refine zae ?_
  refine dwp_if_t rfl (rfl) ?_
  refine dwp_ret ?_
  refine ⟨by first | rfl | assumption | simp_all, rfl, [0, 1, 2, 3, 4, 5, 6, 7, 8, 9, 10], rfl, ⟨rfl, rfl, rfl, rfl, rfl, rfl, rfl, rfl, rfl, rfl, rfl, trivial⟩⟩
set_option maxRecDepth 4000 in
set_option maxHeartbeats 1000000 in
theorem told_p (w h : Int) (ds : List D) (ts : List TL) (hr : RowOk ds ts) (hc : CvOk w h ts) (cc : C4) (l : List Sp) (hl : chkS l) (hl0 : l.length ≤ 9223372036854775807) (hon : ∀ p ∈ ptsS l, p.y < h * 8 → onS w h p.x p.y = true) : DFun Tryz.prog 103 [.yld 0, .loc 11 0] [.lp 23 [(2, .loc 1 0)] #[7] alrA alrB .ready none, .mix 53 [.yld 2], .lp 33 [(2, .loc 3 0), (3, .loc 4 0), (4, .loc 5 0)] #[10] pxrA pxrB .ready none, .flat 3 [.int .i64 (h * 8)], .mix 85 [cvD w h ds], .mix 148 [.yld 6], .lp 18 [(3, .loc 7 0), (5, .loc 8 0)] #[10, 11] earA earB .ready none, .mix 88 [.fn (.func 86) [] [.loc 10 0]], .mix 124 [.hnd 9], .obj (mapQ p2 c4 (mpK false w ts cc (([] : List P2)))), .flat 27 (c4 cc), .mix 25 [.slf 3 l.length (l.flatMap s3)]] (.tup []) [.lp 23 [(2, .loc 1 0)] #[7] alrA alrB (rst (lowB (h * 8) l)) (rpe .ret (lowB (h * 8) l)), .mix 53 [.yld 2], .lp 33 [(2, .loc 3 0), (3, .loc 4 0), (4, .loc 5 0)] #[10] pxrA pxrB (rst (lowB (h * 8) l)) (rpe (.exit 0) (lowB (h * 8) l)), .flat 3 [.int .i64 (h * 8)], .mix 85 [cvD w h ds], .mix 148 [.yld 6], .lp 18 [(3, .loc 7 0), (5, .loc 8 0)] #[10, 11] earA earB .ready none, .mix 88 [.fn (.func 86) [] [.loc 10 0]], .mix 124 [.hnd 9], .obj (mapQ p2 c4 (mpK false w ts cc (ptsS (lowS (h * 8) l)))), .flat 27 (c4 cc), .mix 25 [.slf 3 l.length (l.flatMap s3)]] := by
  refine dcalls_go (N := 19) 12 (by kernel_rfl) Tryz.func103 rfl rfl rfl (by simp only [fr0, Nat.zero_add, Nat.reduceAdd]; exact rfl) rfl fun s0 hs0 => ?_
  refine zaf ?_
  refine zaf ?_
  refine zad ?_
  refine zab rfl rfl rfl (op_ldm rfl tb25 (ev1 rfl) rfl rfl) ?_
  refine zab rfl rfl rfl (zah [] [] [] rfl (ev1 rfl) (ec (ev1 rfl) en) rfl rfl (check_d l) rfl rfl rfl rfl rfl rfl) ?_
  refine zab rfl rfl rfl (op_neq rfl (ev1 rfl) (ev1 rfl)) ?_
  refine zae ?_
  refine dwp_if_f rfl (by rw [chkE_ok hl]; rfl) ?_
  refine zal ?_
  refine zaf ?_
  refine zad ?_
  refine zab rfl rfl rfl (op_ldm rfl tb25 (ev1 rfl) rfl rfl) ?_
  refine zab rfl rfl rfl (op_len rfl sl25 (ev1 rfl)) ?_
  refine zab rfl rfl rfl (zac (.inl rfl) (ev1 rfl)) ?_
  refine zae ?_
  refine dwp_block ?_
  refine dwp_loopS ⟨hs0, rfl⟩ (α := Nat) (fun i => [(10, .val (.int .i64 (i : Int)))]) [(0, _), (8, _), (9, _)] (fun i => [(9, .obj (mapQ p2 c4 (mpK false w ts cc (ptsS (l.take i)))))]) [_, _, _, _, _, _, _, _, _, .hole, _, _] (fun i => i ≤ l.length ∧ lowB (h * 8) (l.take i) = true) (fun i => l.length - i) 0 [0, 1, 2, 3, 4, 5, 6, 7, 8, 9, 10, 11] (⟨Nat.zero_le _, rfl⟩) rfl ⟨rfl, rfl, rfl, trivial⟩ ⟨rfl, trivial⟩ ⟨rfl, rfl, rfl, rfl, rfl, rfl, rfl, rfl, rfl, rfl, rfl, rfl, trivial⟩ ?_
  intro i hx
  simp only [upd, zaa, za, List.cons_append, List.nil_append]
  obtain ⟨hi0, hlo⟩ := hx
  refine zaf ?_
  refine zad ?_
  refine zab rfl rfl rfl (op_lss rfl (ev1 rfl) (ev1 rfl)) ?_
  refine zae ?_
  refine zaf ?_
  refine dwp_cond rfl (fun c2 => ?_) (fun c2 => ?_)
  · try simp only [decide_eq_true_eq, decide_eq_false_iff_not, beq_iff_eq, bne_iff_ne, beq_eq_false_iff_ne, bne_eq_false_iff_eq, Bool.not_eq_true', Bool.not_eq_false', Bool.and_eq_true, Bool.or_eq_true, Bool.or_eq_false_iff, ne_eq, Decidable.not_not, Int.not_lt, Int.not_le] at c2
    refine zal ?_
    refine zaf ?_
    refine dwp_block ?_
    refine zaf ?_
    have hi : i < l.length := by omega
    refine zai 1 (by simp only [holes, List.cons_append, List.nil_append]; exact rfl) ?_
    refine zad ?_
    refine zab rfl rfl rfl (op_ixsr (j := i) rfl sl25 (ev1 rfl) (ev1 rfl) (fun _ => rfl) (by decide) (by omega) (by omega)) ?_
    refine zab rfl rfl rfl (op_ldwd rfl tb32 (ev1 rfl) rfl) ?_
    refine zaj rfl rfl rfl (op_alloc 12 rfl zr32 rfl) (by simp only [upd, zaa, za]; exact rfl) ?_
    refine walk_s rfl rfl (op_stwa rfl tb32 (ev1 rfl) (ev1 rfl) rfl rfl rfl rfl) (by simp only [upd, zaa, za]; exact rfl) ?_
    refine zae ?_
    refine zaf ?_
    by_cases hy : l[i].y < h * 8
    · have hnd := ptsS_nd hl (i + 1)
      rw [ptsS_add hi] at hnd
      refine zad ?_
      refine zab rfl rfl rfl (zac (.inl rfl) (ev1 rfl)) ?_
      refine zab rfl rfl rfl (op_ldw rfl tb32 (ev1 rfl) rfl rfl) ?_
      refine zaj rfl rfl rfl (op_y (i := 0) [0, 1, 2, 3, 4, 5, 6, 7, 8, 9, 10] [] [] rfl (ev1 rfl) (ec (ev1 rfl) en) rfl rfl rfl (span_p_y w h ds ts hr hc cc l[i] (hl.1 _ (List.getElem_mem hi)) hy _ hnd (fun k hk => hon _ (pts_mem2 hi hk) hy)) rfl rfl rfl rfl rfl) (by simp only [upd, zaa, za]; exact rfl) ?_
      refine zab rfl rfl rfl (op_not rfl (ev1 rfl)) ?_
      refine zae ?_
      refine dwp_if_f rfl (rfl) ?_
      refine zal ?_
      refine zad ?_
      refine zab rfl rfl rfl (op_add' rfl (ev1 rfl) (ev1 rfl) (fun _ => IntWalk.i64_in _ (by omega))) ?_
      refine zab rfl rfl rfl (zac (.inl rfl) (ev1 rfl)) ?_
      refine zae ?_
      refine ⟨i + 1, [0, 1, 2, 3, 4, 5, 6, 7, 8, 9, 10, 11], ⟨by omega, lowB_add hi hlo hy⟩, by simp only []; omega, rfl, ⟨rfl, rfl, rfl, rfl, trivial⟩, ⟨rfl, rfl, rfl, rfl, rfl, rfl, rfl, rfl, rfl, by rw [ptsS_add hi]; rfl, rfl, rfl, trivial⟩⟩
    · refine zad ?_
      refine zab rfl rfl rfl (zac (.inl rfl) (ev1 rfl)) ?_
      refine zab rfl rfl rfl (op_ldw rfl tb32 (ev1 rfl) rfl rfl) ?_
      refine zaj rfl rfl rfl (op_y (i := 0) [0, 1, 2, 3, 4, 5, 6, 7, 8, 9, 10] [] [] rfl (ev1 rfl) (ec (ev1 rfl) en) rfl rfl rfl (span_p_n w h ds ts hr hc cc l[i] (hl.1 _ (List.getElem_mem hi)) hy _) rfl rfl rfl rfl rfl) (by simp only [upd, zaa, za]; exact rfl) ?_
      refine zab rfl rfl rfl (op_not rfl (ev1 rfl)) ?_
      refine zae ?_
      refine dwp_if_t rfl (rfl) ?_
      refine dwp_ret ?_
      have e1 := lowB_no hi hy
      have e2 := lowS_stop hl hi hlo hy
      rw [e1, e2]
      refine kend [0, 1, 2, 3, 4, 5, 6, 7, 8, 9, 10, 11] (res_none rfl) rfl rfl ?_ ⟨rfl, rfl, rfl, rfl, rfl, rfl, rfl, rfl, rfl, rfl, rfl, rfl, trivial⟩
      rfl
  · try simp only [decide_eq_true_eq, decide_eq_false_iff_not, beq_iff_eq, bne_iff_ne, beq_eq_false_iff_ne, bne_eq_false_iff_eq, Bool.not_eq_true', Bool.not_eq_false', Bool.and_eq_true, Bool.or_eq_true, Bool.or_eq_false_iff, ne_eq, Decidable.not_not, Int.not_lt, Int.not_le] at c2
    refine dwp_exit ?_
    have hil : l.take i = l := take_all (by omega)
    rw [hil] at hlo
    rw [hlo, lowS_all hlo, hil]
    refine kend [0, 1, 2, 3, 4, 5, 6, 7, 8, 9, 10, 11] (res_none rfl) rfl rfl ?_ ⟨rfl, rfl, rfl, rfl, rfl, rfl, rfl, rfl, rfl, rfl, rfl, rfl, trivial⟩
    rfl
set_option maxRecDepth 4000 in
set_option maxHeartbeats 1000000 in
theorem all_p (w h : Int) (ds : List D) (ts : List TL) (hr : RowOk ds ts) (hc : CvOk w h ts) (cc : C4) (l : List Sp) (hl : chkS l) (hl0 : l.length ≤ 9223372036854775807) (hon : ∀ p ∈ ptsS l, p.y < h * 8 → onS w h p.x p.y = true) : DFun Tryz.prog 125 [.yld 0, .loc 9 0] [.lp 33 [(2, .loc 1 0), (3, .loc 2 0), (4, .loc 3 0)] #[10] pxrA pxrB .ready none, .flat 3 [.int .i64 (h * 8)], .mix 85 [cvD w h ds], .mix 148 [.yld 4], .lp 18 [(3, .loc 5 0), (5, .loc 6 0)] #[10, 11] earA earB .ready none, .mix 88 [.fn (.func 86) [] [.loc 8 0]], .mix 124 [.hnd 7], .obj (mapQ p2 c4 (mpK false w ts cc (([] : List P2)))), .flat 27 (c4 cc), .mix 25 [.slf 3 l.length (l.flatMap s3)]] (.tup []) [.lp 33 [(2, .loc 1 0), (3, .loc 2 0), (4, .loc 3 0)] #[10] pxrA pxrB (rst (lowB (h * 8) l)) (rpe (.exit 0) (lowB (h * 8) l)), .flat 3 [.int .i64 (h * 8)], .mix 85 [cvD w h ds], .mix 148 [.yld 4], .lp 18 [(3, .loc 5 0), (5, .loc 6 0)] #[10, 11] earA earB .ready none, .mix 88 [.fn (.func 86) [] [.loc 8 0]], .mix 124 [.hnd 7], .obj (mapQ p2 c4 (mpK false w ts cc (ptsS (lowS (h * 8) l)))), .flat 27 (c4 cc), .mix 25 [.slf 3 l.length (l.flatMap s3)]] := by
  refine dcalls_go (N := 23) 10 (by kernel_rfl) Tryz.func125 rfl rfl rfl (by simp only [fr0, Nat.zero_add, Nat.reduceAdd]; exact rfl) rfl fun s0 hs0 => ?_
  refine zaf ?_
  refine zai 1 (by simp only [holes, List.cons_append, List.nil_append]; exact rfl) ?_
  refine zad ?_
  refine zaj rfl rfl rfl (op_boxm 10 rfl (ev1 rfl) (fun s v h => by cases h <;> rfl) rfl) (by simp only [upd, zaa, za]; exact rfl) ?_
  refine zae ?_
  refine zaf ?_
  refine zai 1 (by simp only [holes, List.cons_append, List.nil_append]; exact rfl) ?_
  refine zad ?_
  refine zab rfl rfl rfl (op_ldm rfl tb25 (ev1 rfl) rfl rfl) ?_
  refine zaj rfl rfl rfl (zah [] [] [11] rfl (ev1 rfl) (ec (ev1 rfl) en) rfl rfl (told_d l) rfl rfl rfl rfl rfl rfl) (by simp only [upd, zaa, za]; exact rfl) ?_
  refine zae ?_
  refine dwp_block ?_
  refine dwp_hole ?_
  simp only [List.cons_append, List.nil_append]
  refine dwp_rf (FL := [(2, _)]) (st := (rst (lowB (h * 8) l))) (pe := (rpe .ret (lowB (h * 8) l))) [12, 10, 0, 1, 2, 3, 4, 5, 6, 7, 8, 11] [] [] 12 rfl rfl (ev1 rfl) rfl (subF_lk ⟨rfl, trivial⟩) rfl rfl rfl (told_p w h ds ts hr hc cc l hl hl0 hon) rfl rfl rfl rfl rfl rfl rfl (rst_busy _) (fun e => ?_) (fun c e => ?_)
  · simp only [upd, zaa, za]
    refine kend [0, 1, 2, 3, 4, 5, 6, 7, 8, 9] (res_none rfl) rfl rfl ?_ ⟨rfl, rfl, rfl, rfl, rfl, rfl, rfl, rfl, rfl, rfl, trivial⟩
    rfl
  · obtain ⟨e1, rfl⟩ : lowB (h * 8) l = false ∧ c = .ret := by
      cases h : lowB (h * 8) l <;> simp_all [rpe]
    simp only [upd, zaa, za]
    refine dwp_ret ?_
    refine kend [0, 1, 2, 3, 4, 5, 6, 7, 8, 9] (res_none rfl) rfl rfl ?_ ⟨rfl, rfl, rfl, rfl, rfl, rfl, rfl, rfl, rfl, rfl, trivial⟩
    rfl
end Go.Proofs.YtjgnalfnginjbaaGreatDoor
namespace Go.Proofs.YtjgnalfnginjbaaGreatDoor
set_option maxRecDepth 4000
set_option linter.unusedVariables false
set_option linter.unusedSimpArgs false
open Go.RowKit
theorem fl96 : fdL Tryz.prog 96 = some [(0, 1), (1, 1), (2, 4)] := by kernel_rfl
theorem zr124 : zrC Tryz.prog 124 = some [.map none] := by kernel_rfl
set_option maxRecDepth 4000 in
set_option maxHeartbeats 1000000 in
theorem px_p (w h : Int) (ds : List D) (ts : List TL) (hr : RowOk ds ts) (hc : CvOk w h ts) (cc : C4) (l : List Sp) (hl : chkS l) (hl0 : l.length ≤ 1000000) (hon : ∀ p ∈ ptsS l, p.y < h * 8 → onS w h p.x p.y = true) : DFun Tryz.prog 106 [.yld 0, .loc 5 0, .loc 6 0, .loc 7 0] [.lp 18 [(3, .loc 1 0), (5, .loc 2 0)] #[10, 11] earA earB .ready none, .mix 88 [.fn (.func 86) [] [.loc 4 0]], .mix 124 [.hnd 3], .obj (mapQ p2 c4 (mpK false w ts cc (([] : List P2)))), .flat 27 (c4 cc), .mix 25 [.slf 3 l.length (l.flatMap s3)], .flat 3 [.int .i64 (h * 8)], .mix 85 [cvD w h ds]] (.tup []) [.lp 18 [(3, .loc 1 0), (5, .loc 2 0)] #[10, 11] earA earB .ready none, .mix 88 [.fn (.func 86) [] [.loc 4 0]], .mix 124 [.hnd 3], .obj (mapQ p2 c4 (mpK false w ts cc (ptsS (lowS (h * 8) l)))), .flat 27 (c4 cc), .mix 25 [.slf 3 l.length (l.flatMap s3)], .flat 3 [.int .i64 (h * 8)], .mix 85 [cvD w h ds]] := by
  refine dcalls_go (N := 33) 8 (by kernel_rfl) Tryz.func106 rfl rfl rfl (by simp only [fr0, Nat.zero_add, Nat.reduceAdd]; exact rfl) rfl fun s0 hs0 => ?_
  refine zaf ?_
  refine zai 1 (by simp only [holes, List.cons_append, List.nil_append]; exact rfl) ?_
  refine zad ?_
  refine zaj rfl rfl rfl (op_boxm 8 rfl (ev1 rfl) (fun s v h => by cases h <;> rfl) rfl) (by simp only [upd, zaa, za]; exact rfl) ?_
  refine zae ?_
  refine dwp_scope ?_
  refine zaf ?_
  refine dwp_label ?_
  refine zaf ?_
  refine zai 1 (by simp only [holes, List.cons_append, List.nil_append]; exact rfl) ?_
  refine zad ?_
  refine zab rfl rfl rfl (op_ldm rfl tb25 (ev1 rfl) rfl rfl) ?_
  refine zaj rfl rfl rfl (zah [] [] [9] rfl (ev1 rfl) (ec (ev1 rfl) en) rfl rfl (all_d l (by omega)) rfl rfl rfl rfl rfl rfl) (by simp only [upd, zaa, za]; exact rfl) ?_
  refine zae ?_
  refine dwp_block ?_
  refine dwp_hole ?_
  simp only [List.cons_append, List.nil_append]
  refine dwp_rf (FL := [(2, _), (3, _), (4, _)]) (st := (rst (lowB (h * 8) l))) (pe := (rpe (.exit 0) (lowB (h * 8) l))) [10, 6, 7, 8, 0, 1, 2, 3, 4, 9] [] [] 10 rfl rfl (ev1 rfl) rfl (subF_lk ⟨rfl, rfl, rfl, trivial⟩) rfl rfl rfl (all_p w h ds ts hr hc cc l hl (by omega) hon) rfl rfl rfl rfl rfl rfl rfl (rst_busy _) (fun e => ?_) (fun c e => ?_)
  · simp only [upd, zaa, za]
    refine kend [0, 1, 2, 3, 4, 5, 6, 7] (res_none rfl) rfl rfl ?_ ⟨rfl, rfl, rfl, rfl, rfl, rfl, rfl, rfl, trivial⟩
    rfl
  · obtain ⟨e1, rfl⟩ : lowB (h * 8) l = false ∧ c = .exit 0 := by
      cases h : lowB (h * 8) l <;> simp_all [rpe]
    simp only [upd, zaa, za]
    refine dwp_exit ?_
    refine kend [0, 1, 2, 3, 4, 5, 6, 7] (res_none rfl) rfl rfl ?_ ⟨rfl, rfl, rfl, rfl, rfl, rfl, rfl, rfl, trivial⟩
    rfl
set_option maxRecDepth 4000 in
set_option maxHeartbeats 1000000 in
theorem each_p (w h : Int) (ds : List D) (ts : List TL) (hr : RowOk ds ts) (hc : CvOk w h ts) (cc : C4) (l : List Sp) (hl : chkS l) (hl0 : l.length ≤ 1000000) (hon : ∀ p ∈ ptsS l, p.y < h * 8 → onS w h p.x p.y = true) : DFun Tryz.prog 83 [.fn (.func 106) [] [.loc 0 0, .loc 1 0, .loc 2 0], .fn (.func 86) [] [.loc 3 0]] [.mix 25 [.slf 3 l.length (l.flatMap s3)], .flat 3 [.int .i64 (h * 8)], .mix 85 [cvD w h ds], .flat 27 (c4 cc)] (.hnd 4) [.mix 25 [.slf 3 l.length (l.flatMap s3)], .flat 3 [.int .i64 (h * 8)], .mix 85 [cvD w h ds], .flat 27 (c4 cc), .obj (mapQ p2 c4 (mpK false w ts cc (ptsS (lowS (h * 8) l))))] := by
  refine dcalls_go (N := 18) 4 (by kernel_rfl) Tryz.func83 rfl rfl rfl (by simp only [fr0, Nat.zero_add, Nat.reduceAdd]; exact rfl) rfl fun s0 hs0 => ?_
  refine zaf ?_
  refine zai 1 (by simp only [holes, List.cons_append, List.nil_append]; exact rfl) ?_
  refine zad ?_
  refine zaj rfl rfl rfl (op_boxm 4 rfl (ev1 rfl) (fun s v h => by cases h <;> rfl) rfl) (by simp only [upd, zaa, za]; exact rfl) ?_
  refine zab rfl rfl rfl (zac (.inr rfl) (ev1 rfl)) ?_
  refine zae ?_
  refine zaf ?_
  refine zai 2 (by simp only [holes, List.cons_append, List.nil_append]; exact rfl) ?_
  refine zad ?_
  refine zaj rfl rfl rfl (op_mkq p2 c4 5 rfl rfl) (by simp only [upd, zaa, za]; exact rfl) ?_
  refine zaj rfl rfl rfl (op_alloc 6 rfl zr124 rfl) (by simp only [upd, zaa, za]; exact rfl) ?_
  refine walk_s rfl rfl (op_stfq rfl tb124 (ev1 rfl) (ev1 rfl) rfl rfl (by decide)) (by simp only [upd, zaa, za]; exact rfl) ?_
  refine zae ?_
  refine zaf ?_
  refine zaf ?_
  refine zad ?_
  refine zab rfl rfl rfl (zac (.inl rfl) (ev1 rfl)) ?_
  refine zae ?_
  refine dwp_block ?_
  refine dwp_hole ?_
  simp only [List.cons_append, List.nil_append]
  refine dwp_rf (FL := [(3, _), (5, _)]) (st := .ready) (pe := none) [7, 4, 6, 5, 3, 0, 1, 2] [] [] 7 rfl rfl (ev1 rfl) rfl (subF_lk ⟨rfl, rfl, trivial⟩) rfl rfl rfl (px_p w h ds ts hr hc cc l hl hl0 hon) rfl rfl rfl rfl rfl rfl rfl (by simp) (fun e => ?_) (fun c e => ?_)
  · simp only [upd, zaa, za]
    refine zaf ?_
    refine zad ?_
    refine zab rfl rfl rfl (op_ldm rfl tb124 (ev1 rfl) rfl rfl) ?_
    refine zab rfl rfl rfl (zac (.inr rfl) (ev1 rfl)) ?_
    refine zae ?_
    refine dwp_ret ?_
    refine kend [0, 1, 2, 3, 5] (rs1 rfl (rv_t rfl)) rfl rfl ?_ ⟨rfl, rfl, rfl, rfl, rfl, trivial⟩
    rfl
  · cases e
theorem drawn_ok_p (w h : Int) (ds : List D) (ts : List TL) (hr : RowOk ds ts) (hc : CvOk w h ts) (cc : C4) (l : List Sp) (hl : chkS l) : chkS (clipS (⟨0, 0, w * 8 - 1, 255⟩ : Bx) l) ∧ (∀ p ∈ ptsS (clipS (⟨0, 0, w * 8 - 1, 255⟩ : Bx) l), p.y < h * 8 → onS w h p.x p.y = true) ∧ ∀ x y, onS w h x y = true → ((⟨x, y⟩ : P2) ∈ ptsS (lowS (h * 8) (clipS (⟨0, 0, w * 8 - 1, 255⟩ : Bx) l)) ↔ (⟨x, y⟩ : P2) ∈ ptsS l) := by
  have hb := mayS_b hc.may
  have hin : ∀ x y, (⟨x, y⟩ : P2) ∈ ptsS (clipS (⟨0, 0, w * 8 - 1, 255⟩ : Bx) l) ↔ (0 ≤ x ∧ x ≤ w * 8 - 1) ∧ (0 ≤ y ∧ y ≤ 255) ∧ (⟨x, y⟩ : P2) ∈ ptsS l := fun x y => by
    rw [ptsS_mem, ptsS_mem, clip_has]
    show (_ ∧ (0 ≤ x ∧ x ≤ w * 8 - 1) ∧ 0 ≤ y ∧ y ≤ 255) ↔ _
    constructor
    · rintro ⟨h1, h2, h3⟩; exact ⟨h2, h3, h1⟩
    · rintro ⟨h2, h3, h1⟩; exact ⟨h1, h2, h3⟩
  refine ⟨clip_chk hl, fun p hp hy => ?_, fun x y ho => ?_⟩
  · obtain ⟨h1, h2, _⟩ := (hin p.x p.y).1 hp
    exact onS_iff.2 ⟨by omega, by omega⟩
  · have hxy := onS_iff.1 ho
    rw [lowS_mem, hin]
    constructor
    · exact fun g => g.1.2.2
    · exact fun g => ⟨⟨by omega, by omega, g⟩, by show y < _; omega⟩
set_option maxRecDepth 4000 in
set_option maxHeartbeats 1000000 in
theorem drawn_p (w h : Int) (ds : List D) (ts : List TL) (hr : RowOk ds ts) (hc : CvOk w h ts) (cc : C4) (l : List Sp) (hl : chkS l) (hn : l.length ≤ 1000000) : DFun Tryz.prog 49 [.agg [cvD w h ds], .slf 3 l.length (l.flatMap s3), .fn (.func 86) [] [.loc 0 0]] [.flat 27 (c4 cc)] (cvD w h (dpR (drwC false w h ts cc l))) [.flat 27 (c4 cc)] := by
  obtain ⟨hck, hon, hmem⟩ := drawn_ok_p w h ds ts hr hc cc l hl
  have hcl := clipS_len (⟨0, 0, w * 8 - 1, 255⟩ : Bx) l
  have hPl : (ptsS (lowS (h * 8) (clipS (⟨0, 0, w * 8 - 1, 255⟩ : Bx) l))).length ≤ 600000000 := low_len hck (by omega)
  have hb := mayS_b hc.may
  refine dcalls_go (N := 42) 1 (by kernel_rfl) Tryz.func49 rfl rfl rfl (by simp only [fr0, Nat.zero_add, Nat.reduceAdd]; exact rfl) rfl fun s0 hs0 => ?_
  refine dwp_len (t := 1) rfl fun hl1 hL1 => ?_
  refine zaf ?_
  refine zai 1 (by simp only [holes, List.cons_append, List.nil_append]; exact rfl) ?_
  refine zad ?_
  refine zaj rfl rfl rfl (op_boxam 1 rfl (ev1 rfl) rfl) (by simp only [upd, zaa, za]; exact rfl) ?_
  refine zab rfl rfl rfl (zac (.inr rfl) (ev1 rfl)) ?_
  refine zae ?_
  refine zaf ?_
  refine zai 4 (by simp only [holes, List.cons_append, List.nil_append]; exact rfl) ?_
  refine zad ?_
  refine zab rfl rfl rfl (op_ldmw rfl tb85 (ev1 rfl) rfl rfl) ?_
  refine zab rfl rfl rfl (zac (.inl rfl) (ev1 rfl)) ?_
  refine zaj rfl rfl rfl (zah [] [] [2, 3, 4] rfl (ev1 rfl) (ec (ev1 rfl) (ec (ev1 rfl) en)) rfl rfl (pixels_d w h ds ts hr hc l hl (by omega)) rfl rfl rfl rfl rfl rfl) (by simp only [upd, zaa, za]; exact rfl) ?_
  refine zab rfl rfl rfl (zac (.inl rfl) (ev1 rfl)) ?_
  refine zaj rfl rfl rfl (zah [2, 3, 4, 0] [] [5] rfl (ev1 rfl) (ec (ev1 rfl) (ec (ev1 rfl) en)) rfl rfl (each_p w h ds ts hr hc cc (clipS (⟨0, 0, w * 8 - 1, 255⟩ : Bx) l) hck (by omega) hon) rfl rfl rfl rfl rfl rfl) (by simp only [upd, zaa, za]; exact rfl) ?_
  refine zab rfl rfl rfl (zac (.inr rfl) (ev1 rfl)) ?_
  refine zae ?_
  refine zaf ?_
  have hml := mpK_len false w ts cc (ptsS (lowS (h * 8) (clipS (⟨0, 0, w * 8 - 1, 255⟩ : Bx) l)))
  refine zai 1 (by simp only [holes, List.cons_append, List.nil_append]; exact rfl) ?_
  refine zad ?_
  refine zab rfl rfl rfl (zac (.inl rfl) (ev1 rfl)) ?_
  refine zab rfl rfl rfl (op_lenq rfl mp124 (ev1 rfl) rfl) ?_
  refine zaj rfl rfl rfl (op_mk0 6 ((ptsS (lowS (h * 8) (clipS (⟨0, 0, w * 8 - 1, 255⟩ : Bx) l))).length) rfl sl129 zr96 (ev1 rfl) (ev1 rfl) (fun _ => rfl) (fun _ => by rw [hml]) rfl (fun _ => ⟨by omega, by omega⟩)) (by simp only [upd, zaa, za]; exact rfl) ?_
  refine zab rfl rfl rfl (zac (.inr rfl) (ev1 rfl)) ?_
  refine zae ?_
  refine zaf ?_
  refine zaf ?_
  refine zai 1 (by simp only [holes, List.cons_append, List.nil_append]; exact rfl) ?_
  refine zad ?_
  refine zab rfl rfl rfl (zac (.inl rfl) (ev1 rfl)) ?_
  refine zaj rfl rfl rfl (op_rgq 7 rfl mp124 (ev1 rfl) rfl rfl) (by simp only [upd, zaa, za]; exact rfl) ?_
  refine zae ?_
  refine dwp_block ?_
  refine dwp_loopS ⟨hs0, rfl⟩ (α := List Nat) (fun sn => []) [(3, _), (8, _), (21, _)] (fun sn => [(6, .arr 96 6 (dlN false w ts cc (ptsS (lowS (h * 8) (clipS (⟨0, 0, w * 8 - 1, 255⟩ : Bx) l))) sn).length ((dlN false w ts cc (ptsS (lowS (h * 8) (clipS (⟨0, 0, w * 8 - 1, 255⟩ : Bx) l))) sn).flatMap dtC)), (7, .mit (.hnd 5) (mpK false w ts cc (ptsS (lowS (h * 8) (clipS (⟨0, 0, w * 8 - 1, 255⟩ : Bx) l)))).length sn)]) [_, _, _, _, _, _, .hole, .hole] (fun sn => sn.Nodup ∧ ∀ p ∈ sn, p < (ptsS (lowS (h * 8) (clipS (⟨0, 0, w * 8 - 1, 255⟩ : Bx) l))).length) (fun sn => (ptsS (lowS (h * 8) (clipS (⟨0, 0, w * 8 - 1, 255⟩ : Bx) l))).length - sn.length) [] [0, 1, 2, 3, 4, 5, 6, 7] (⟨List.nodup_nil, fun p hp => by simp at hp⟩) rfl ⟨rfl, rfl, rfl, trivial⟩ trivial ⟨rfl, rfl, rfl, rfl, rfl, rfl, rfl, rfl, trivial⟩ ?_
  intro sn hx
  simp only [upd, zaa, za, List.cons_append, List.nil_append]
  obtain ⟨hnd, hlt⟩ := hx
  have hsl := all_in hnd hlt
  have hdl := dlN_len false w ts cc (ptsS (lowS (h * 8) (clipS (⟨0, 0, w * 8 - 1, 255⟩ : Bx) l))) sn
  refine zaf ?_
  refine zad ?_
  refine walk_e rfl rfl rfl (op_nxq rfl (ev1 rfl) rfl rfl) ?_
  rintro d wr (⟨rfl, rfl, hall⟩ | ⟨p, kp, ep, hep, hnp, rfl, rfl⟩)
  · simp only [upd]
    refine zab rfl rfl rfl (op_ext rfl (ev1 rfl) rfl) ?_
    refine zae ?_
    refine zaf ?_
    refine dwp_if_f rfl (rfl) ?_
    refine dwp_exit ?_
    refine zaf ?_
    refine dwp_giveA 8 rfl rfl (by simp only [zaa, za]; exact rfl) ?_
    have hfin := dlN_puts (k := false) hc cc hmem hlt (fun p hp => hall p (by rw [hml]; exact hp))
    refine zad ?_
    refine zab rfl rfl rfl (op_fa rfl fo85_0 (ev1 rfl)) ?_
    refine zab rfl rfl rfl (op_ldm rfl tb33 (ev1 rfl) rfl rfl) ?_
    refine zab rfl rfl rfl (op_mkf rfl (ec (ev1 rfl) en) en) ?_
    refine zab rfl rfl rfl (zac (.inr rfl) (ev1 rfl)) ?_
    refine zae ?_
    refine zaf ?_
    refine zad ?_
    refine zab rfl rfl rfl (zac (.inl rfl) (ev1 rfl)) ?_
    refine zab rfl rfl rfl (zac (.inl rfl) (ev1 rfl)) ?_
    refine zab rfl rfl rfl (zah [] [] [] rfl (ev1 rfl) (ec (ev1 rfl) en) rfl rfl (with_d w h ds ts hr hc _) rfl rfl rfl rfl rfl rfl) ?_
    refine zab rfl rfl rfl (zac (.inr rfl) (ev1 rfl)) ?_
    refine zae ?_
    refine dwp_ret ?_
    refine kend [0] (rs1 rfl (rv_t rfl)) rfl rfl ?_ ⟨rfl, trivial⟩
    rw [hfin]
  · simp only [upd, zaa, za]
    obtain ⟨hkp, rfl⟩ := mpK_get hep
    have hp1 := (List.getElem?_eq_some_iff.1 hkp).1
    have hI : (sn ++ [p]).Nodup ∧ ∀ r ∈ sn ++ [p], r < (ptsS (lowS (h * 8) (clipS (⟨0, 0, w * 8 - 1, 255⟩ : Bx) l))).length := ⟨by rw [List.nodup_append]; exact ⟨hnd, by simp, fun a ha b hb => by simp at hb; subst hb; exact fun e => hnp (e ▸ ha)⟩, fun r hr => (List.mem_append.1 hr).elim (hlt r) fun h => by simp at h; subst h; exact hp1⟩
    have hle2 := all_in hI.1 hI.2
    refine zab rfl rfl rfl (op_ext rfl (ev1 rfl) rfl) ?_
    refine zae ?_
    refine zaf ?_
    refine dwp_if_t rfl (rfl) ?_
    refine zal ?_
    refine dwp_block ?_
    refine zaf ?_
    refine zai 2 (by simp only [holes, List.cons_append, List.nil_append]; exact rfl) ?_
    refine zad ?_
    refine zab rfl rfl rfl (op_etq rfl (ev1 rfl) rfl rfl (hep)) ?_
    refine zab rfl rfl rfl (op_ext rfl (ev1 rfl) rfl) ?_
    refine zab rfl rfl rfl (op_ext rfl (ev1 rfl) rfl) ?_
    refine zaj rfl rfl rfl (op_alloc 8 rfl zr51 rfl) (by simp only [upd, zaa, za]; exact rfl) ?_
    refine zaj rfl rfl rfl (op_alloc 9 rfl zr27 rfl) (by simp only [upd, zaa, za]; exact rfl) ?_
    refine walk_s rfl rfl (op_stwa rfl tb51 (ev1 rfl) (ev1 rfl) rfl rfl rfl rfl) (by simp only [upd, zaa, za]; exact rfl) ?_
    refine walk_s rfl rfl (op_stwa rfl tb27 (ev1 rfl) (ev1 rfl) rfl rfl rfl rfl) (by simp only [upd, zaa, za]; exact rfl) ?_
    refine zae ?_
    refine zai 1 (by simp only [holes, List.cons_append, List.nil_append]; exact rfl) ?_
    refine zad ?_
    refine zab rfl rfl rfl (zac (.inl rfl) (ev1 rfl)) ?_
    refine zab rfl rfl rfl (op_fa rfl fo51_0 (ev1 rfl)) ?_
    refine zab rfl rfl rfl (op_ldo rfl tb3 (ev1 rfl) rfl rfl) ?_
    refine zab rfl rfl rfl (op_fa rfl fo51_1 (ev1 rfl)) ?_
    refine zab rfl rfl rfl (op_ldo rfl tb3 (ev1 rfl) rfl rfl) ?_
    refine zab rfl rfl rfl (op_ldw rfl tb27 (ev1 rfl) rfl rfl) ?_
    refine zab rfl rfl rfl (op_build (ps := [(0, .tmp 29), (1, .tmp 31), (2, .tmp 32)]) rfl fl96 zr96 (vc (ev1 rfl) (vc (ev1 rfl) (vc (ev1 rfl) vn))) rfl rfl) ?_
    refine zab rfl rfl rfl (op_bs (ps := [(0, .tmp 33)]) rfl sl129 zr96 rfl (vc (ev1 rfl) vn) rfl (by decide) (by decide)) ?_
    refine zaj rfl rfl rfl (op_app (j := 10) rfl sl129 zr96 rfl (ev1 rfl) (ev1 rfl) src_slf rfl rfl (fun _ => rfl) (fun _ => ⟨by omega, by omega⟩)) (by simp only [upd, zaa, za]; exact rfl) ?_
    refine zab rfl rfl rfl (zac (.inr rfl) (ev1 rfl)) ?_
    refine zae ?_
    refine ⟨sn ++ [p], [0, 1, 2, 3, 4, 5, 10, 7], hI, by simp only [List.length_append, List.length_cons, List.length_nil] at hle2 ⊢; omega, rfl, ⟨rfl, rfl, rfl, trivial⟩, ⟨rfl, rfl, rfl, rfl, rfl, rfl, by rw [dlN_add hkp, List.length_append, List.flatMap_append]; rfl, rfl, trivial⟩⟩
end Go.Proofs.YtjgnalfnginjbaaGreatDoor
namespace Go.Proofs.YtjgnalfnginjbaaGreatDoor
set_option maxRecDepth 4000
set_option linter.unusedVariables false
set_option linter.unusedSimpArgs false
open Go.RowKit
theorem zr34 : zrC Tryz.prog 34 = some [.int .i64 0] := by kernel_rfl
set_option maxRecDepth 4000 in
set_option maxHeartbeats 1000000 in
theorem paint_0 (l : List Sp) (c : C4) : DFun Tryz.prog 13 [.val (.pointer none), .slf 3 l.length (l.flatMap s3), .val (.agg (c4 c).toArray)] [] (.tup [.val (.pointer none), .val (.int .i64 1)]) [] := by
  refine dcalls_body (N := 17) 0 (by kernel_rfl) Tryz.func13 rfl rfl rfl (by simp only [fr0, Nat.zero_add, Nat.reduceAdd]; exact rfl) rfl fun s0 hs0 => ?_
  refine dbody_seq rfl hs0 ?_
  refine zai 2 (by simp only [holes, List.cons_append, List.nil_append]; exact rfl) ?_
  refine zad ?_
  refine zaj rfl rfl rfl (op_boxa 0 rfl (ev1 rfl) rfl) (by simp only [upd, zaa, za]; exact rfl) ?_
  refine zab rfl rfl rfl (zac (.inr rfl) (ev1 rfl)) ?_
  refine zaj rfl rfl rfl (op_alloc 1 rfl zr34 rfl) (by simp only [upd, zaa, za]; exact rfl) ?_
  refine zae ?_
  refine dbody_defer (l0 := [_]) rfl rfl rfl rfl rfl hs0 ?_
  refine zab rfl rfl rfl (op_mkf rfl en (ec (ev1 rfl) en)) ?_
  refine zae ⟨_, _, _, 2, ev1 rfl, Nat.le_trans hs0 (by decide), rfl, ?_⟩
  have hs1 : s0.M.length ≤ 2 := Nat.le_trans hs0 (by decide)
  refine dbody_end rfl hs0 ?_
  refine zaf ?_
  refine zai 1 (by simp only [holes, List.cons_append, List.nil_append]; exact rfl) ?_
  refine zad ?_
  refine zab rfl rfl rfl (zac (.inl rfl) (ev1 rfl)) ?_
  refine walk_p rfl (dop_callP [] [] [] rfl (ev1 rfl) (ec (ev1 rfl) en) rfl rfl (easel_p) rfl rfl rfl rfl rfl rfl) rfl ?_
  refine kdef (dturn_caught [1] [] rfl rfl rfl (dpaint1_caught _ _) rfl rfl rfl rfl rfl) ?_
  refine kend0 (rs2 rfl (rv_t rfl) (rv_1 tb34 rfl rfl rfl)) rfl ?_
  rfl
end Go.Proofs.YtjgnalfnginjbaaGreatDoor
namespace Go.Proofs.YtjgnalfnginjbaaGreatDoor
set_option maxRecDepth 4000
set_option linter.unusedVariables false
set_option linter.unusedSimpArgs false
open Go.RowKit
theorem fo47_0 : fdO Tryz.prog 47 0 = some 0 := by kernel_rfl
theorem fo47_1 : fdO Tryz.prog 47 1 = some 4 := by kernel_rfl
theorem fo47_2 : fdO Tryz.prog 47 2 = some 5 := by kernel_rfl
theorem lineL_len (a b : P2) : (lineL a b).length = gr2 a b + 1 := by unfold lineL; simp
theorem rect_chk {a b : P2} (ha : drwB a = true) (hb : drwB b = true) : chkS (rectL a b) := by
  have hA := drwB_iff.1 ha
  have hB := drwB_iff.1 hb
  refine ⟨fun s hs => ⟨?_, (rect_ok a b).1 s hs⟩, (rect_ok a b).2⟩
  have hw := wayN_eq a.y b.y
  obtain ⟨j, hj, rfl⟩ := List.mem_map.1 hs
  rw [List.mem_range] at hj
  unfold rchS
  simp only
  omega
theorem lineL_le {a b : P2} (ha : drwB a = true) (hb : drwB b = true) : (lineL a b).length ≤ 192 := by
  have hl := lineL_len a b
  have hx := wayN_eq a.x b.x
  have hy := wayN_eq a.y b.y
  have hA := drwB_iff.1 ha
  have hB := drwB_iff.1 hb
  have hg : gr2 a b = max (wayN a.x b.x) (wayN a.y b.y) := by unfold gr2; omega
  omega
theorem rectL_len {a b : P2} (ha : drwB a = true) (hb : drwB b = true) : (rectL a b).length ≤ 192 := by
  have hy := wayN_eq a.y b.y
  have hA := drwB_iff.1 ha
  have hB := drwB_iff.1 hb
  unfold rectL
  rw [List.length_map, List.length_range]
  omega
theorem swL_chk {r : Bool} {n : Int} {l : List P2} (h : swB n l = true) : chkS (swL r n l) := by
  obtain ⟨e1, _, hn, hd⟩ := sw_ok (r := r) h
  rw [e1]
  exact swA_chk (by omega) hd
theorem swL_len {r : Bool} {n : Int} {l : List P2} (h : swB n l = true) : (swL r n l).length ≤ l.length * 961 := by
  obtain ⟨e1, _, hn, hd⟩ := sw_ok (r := r) h
  rw [e1]
  exact Nat.le_trans (norm_len _) (swK_len (by omega) l)
def ac2 (a b : P2) : P2 := ⟨b.x, a.y⟩
def dn2 (a b : P2) : P2 := ⟨a.x, b.y⟩
theorem ac_drw {a b : P2} (ha : drwB a = true) (hb : drwB b = true) : drwB (ac2 a b) = true ∧ drwB (dn2 a b) = true := by
  have hA := drwB_iff.1 ha
  have hB := drwB_iff.1 hb
  exact ⟨drwB_iff.2 ⟨hB.1, hA.2⟩, drwB_iff.2 ⟨hA.1, hB.2⟩⟩
def frmR (a b : P2) : List (List Sp) := [rectL a (ac2 a b), rectL a (dn2 a b), rectL (ac2 a b) b, rectL (dn2 a b) b]
theorem frm_ok {a b : P2} (ha : drwB a = true) (hb : drwB b = true) : allC (frmR a b) = true ∧ (frmR a b).flatten.length ≤ 768 := by
  obtain ⟨h1, h2⟩ := ac_drw ha hb
  have l1 := rectL_len ha h1
  have l2 := rectL_len ha h2
  have l3 := rectL_len h1 hb
  have l4 := rectL_len h2 hb
  refine ⟨?_, ?_⟩
  · unfold allC frmR
    simp [rect_chk ha h1, rect_chk ha h2, rect_chk h1 hb, rect_chk h2 hb]
  · unfold frmR
    simp only [List.flatten_cons, List.flatten_nil, List.length_append, List.length_nil]
    omega
theorem norm_chk {l : List Sp} (h : ∀ s ∈ l, rchS s ∧ s.f ≤ s.t) : chkS (normS l) := by
  have hn := norm_ok fun s hs => (h s hs).2
  refine ⟨fun s hs => ?_, hn.1.2⟩
  have hv := hn.1.1 s hs
  have hb := has_bd (A := -256) (B := 255) (C := -256) (D' := 255) hn.1.1 hn.2 (fun s hs => by
    have := (h s hs).1
    unfold rchS at this
    omega) s hs
  refine ⟨?_, hv⟩
  unfold rchS
  omega
theorem uni_chk {rr : List (List Sp)} (h : allC rr = true) : chkS (uniL rr) := by
  rw [(uni_ok h).1]
  exact norm_chk (allC_flat h)
theorem uni_len {rr : List (List Sp)} (h : allC rr = true) : (uniL rr).length ≤ rr.flatten.length := by rw [(uni_ok h).1]; exact norm_len _
set_option maxRecDepth 4000 in
set_option maxHeartbeats 1000000 in
theorem stroke_d (w h : Int) (ds : List D) (ts : List TL) (hr : RowOk ds ts) (hc : CvOk w h ts) (c : C4) (n : Int) (r : Bool) (l : List P2) (hs : swB n l = true) (hn : l.length ≤ 1000) : DFun Tryz.prog 27 [cvD w h ds, .val (.agg #[.int .u8 c.r, .int .u8 c.g, .int .u8 c.b, .int .u8 c.a, .int .i64 n, .bool r]), .slf 2 l.length (l.flatMap p2)] [] (.tup [cvD w h (dpR (drwC false w h ts c (swL r n l))), .val (.int .i64 0)]) [] := by
  have hsl := swL_len (r := r) hs
  have he := (sw_ok (r := r) hs).2.1
  refine dcalls_body (N := 26) 0 (by kernel_rfl) Tryz.func27 rfl rfl rfl (by simp only [fr0, Nat.zero_add, Nat.reduceAdd]; exact rfl) rfl fun s0 hs0 => ?_
  refine dbody_seq rfl hs0 ?_
  refine zai 2 (by simp only [holes, List.cons_append, List.nil_append]; exact rfl) ?_
  refine zad ?_
  refine zaj rfl rfl rfl (op_boxa 0 rfl (ev1 rfl) rfl) (by simp only [upd, zaa, za]; exact rfl) ?_
  refine zab rfl rfl rfl (zac (.inr rfl) (ev1 rfl)) ?_
  refine zaj rfl rfl rfl (op_alloc 1 rfl zr34 rfl) (by simp only [upd, zaa, za]; exact rfl) ?_
  refine zae ?_
  refine dbody_defer (l0 := [_]) rfl rfl rfl rfl rfl hs0 ?_
  refine zab rfl rfl rfl (op_mkf rfl en (ec (ev1 rfl) en)) ?_
  refine zae ⟨_, _, _, 2, ev1 rfl, Nat.le_trans hs0 (by decide), rfl, ?_⟩
  have hs1 : s0.M.length ≤ 2 := Nat.le_trans hs0 (by decide)
  refine dbody_end rfl hs0 ?_
  refine zaf ?_
  refine zai 1 (by simp only [holes, List.cons_append, List.nil_append]; exact rfl) ?_
  refine zad ?_
  refine zab rfl rfl rfl (zac (.inl rfl) (ev1 rfl)) ?_
  refine zab rfl rfl rfl (zah [] [] [] rfl (ev1 rfl) (ec (ev1 rfl) en) rfl rfl (easel_d w h ds) rfl rfl rfl rfl rfl rfl) ?_
  refine zaj rfl rfl rfl (op_alloc 2 rfl zr85 rfl) (by simp only [upd, zaa, za]; exact rfl) ?_
  refine walk_s rfl rfl (op_stam2 rfl tb85 (ev1 rfl) (ev1 rfl) rfl rfl rfl rfl) (by simp only [upd, zaa, za]; exact rfl) ?_
  refine zae ?_
  refine zaf ?_
  refine zai 1 (by simp only [holes, List.cons_append, List.nil_append]; exact rfl) ?_
  refine dwp_draw [([2], []), ([], []), ([], []), ([0], []), ([], []), ([0], []), ([], []), ([], []), ([], []), ([], []), ([], []), ([0], []), ([3], [3]), ([3], [3]), ([], []), ([1], [1])] mixed (by kernel_rfl) ?_
  refine zag rfl rfl (op_ldmw rfl tb85 (ev1 rfl) rfl rfl) ?_
  refine zag rfl rfl (zac (.inl rfl) (ev1 rfl)) ?_
  refine zag rfl rfl (op_fa rfl fo47_1 (ev1 rfl)) ?_
  refine zag rfl rfl (op_ldo rfl tb3 (ev1 rfl) rfl rfl) ?_
  refine zag rfl rfl (op_fa rfl fo47_2 (ev1 rfl)) ?_
  refine zag rfl rfl (op_ldo rfl tb4 (ev1 rfl) rfl rfl) ?_
  refine zag rfl rfl (zah [] [] [] rfl (ev1 rfl) (ec (ev1 rfl) (ec (ev1 rfl) (ec (ev1 rfl) en))) rfl rfl (sweep_d l n r hn) rfl rfl rfl rfl rfl rfl) ?_
  refine zag rfl rfl (op_ext rfl (ev1 rfl) rfl) ?_
  refine zag rfl rfl ((op_ext rfl (ev1 rfl) rfl).cast (d' := .val (.int .i64 0)) (by rw [he])) ?_
  refine zag rfl rfl (zah [] [] [] rfl (ev1 rfl) (ec (ev1 rfl) (ec (ev1 rfl) en)) rfl rfl (mustS_d (swL r n l)) rfl rfl rfl rfl rfl rfl) ?_
  refine zag rfl rfl (op_fa rfl fo47_0 (ev1 rfl)) ?_
  refine zag rfl rfl (op_ldr rfl tb27 (ev1 rfl) rfl rfl rfl) ?_
  refine lex_w rfl rfl (zah [] [] [3] rfl (ev1 rfl) (ec (ev1 rfl) en) rfl rfl (paints_d c) rfl rfl rfl rfl rfl rfl) rfl (by simp only [upd, zaa, za]; exact rfl) ?_
  refine lex_w rfl rfl (zah [3] [] [] rfl (ev1 rfl) (ec (ev1 rfl) (ec (ev1 rfl) (ec (ev1 rfl) en))) rfl rfl (drawn_p w h ds ts hr hc c (swL r n l) (swL_chk hs) (by omega)) rfl rfl rfl rfl rfl rfl) rfl (by simp only [upd, zaa, za]; exact rfl) ?_
  refine zag rfl rfl (zac (.inr rfl) (ev1 rfl)) ?_
  refine lex_s rfl rfl (op_stwi rfl tb34 (ev1 rfl) (ev1 rfl) rfl) rfl (by simp only [upd, zaa, za]; exact rfl) ?_
  refine lex_nil ?_
  refine dwp_ret ?_
  refine kdef (dturn_idle [1] [] rfl rfl (dstroke1_idle _) rfl rfl rfl rfl rfl) ?_
  refine kend0 (rs2 rfl (rv_t rfl) (rv_1 tb34 rfl rfl rfl)) rfl ?_
  rfl
set_option maxRecDepth 4000 in
set_option maxHeartbeats 1000000 in
theorem stroke_n (w h : Int) (ds : List D) (ts : List TL) (hr : RowOk ds ts) (hc : CvOk w h ts) (c : C4) (n : Int) (r : Bool) (l : List P2) (hs : swB n l = false) (hn : l.length ≤ 1000) : DFun Tryz.prog 27 [cvD w h ds, .val (.agg #[.int .u8 c.r, .int .u8 c.g, .int .u8 c.b, .int .u8 c.a, .int .i64 n, .bool r]), .slf 2 l.length (l.flatMap p2)] [] (.tup [.val (.pointer none), .val (.int .i64 2)]) [] := by
  have he := (sw_no (r := r) hs).2
  refine dcalls_body (N := 26) 0 (by kernel_rfl) Tryz.func27 rfl rfl rfl (by simp only [fr0, Nat.zero_add, Nat.reduceAdd]; exact rfl) rfl fun s0 hs0 => ?_
  refine dbody_seq rfl hs0 ?_
  refine zai 2 (by simp only [holes, List.cons_append, List.nil_append]; exact rfl) ?_
  refine zad ?_
  refine zaj rfl rfl rfl (op_boxa 0 rfl (ev1 rfl) rfl) (by simp only [upd, zaa, za]; exact rfl) ?_
  refine zab rfl rfl rfl (zac (.inr rfl) (ev1 rfl)) ?_
  refine zaj rfl rfl rfl (op_alloc 1 rfl zr34 rfl) (by simp only [upd, zaa, za]; exact rfl) ?_
  refine zae ?_
  refine dbody_defer (l0 := [_]) rfl rfl rfl rfl rfl hs0 ?_
  refine zab rfl rfl rfl (op_mkf rfl en (ec (ev1 rfl) en)) ?_
  refine zae ⟨_, _, _, 2, ev1 rfl, Nat.le_trans hs0 (by decide), rfl, ?_⟩
  have hs1 : s0.M.length ≤ 2 := Nat.le_trans hs0 (by decide)
  refine dbody_end rfl hs0 ?_
  refine zaf ?_
  refine zai 1 (by simp only [holes, List.cons_append, List.nil_append]; exact rfl) ?_
  refine zad ?_
  refine zab rfl rfl rfl (zac (.inl rfl) (ev1 rfl)) ?_
  refine zab rfl rfl rfl (zah [] [] [] rfl (ev1 rfl) (ec (ev1 rfl) en) rfl rfl (easel_d w h ds) rfl rfl rfl rfl rfl rfl) ?_
  refine zaj rfl rfl rfl (op_alloc 2 rfl zr85 rfl) (by simp only [upd, zaa, za]; exact rfl) ?_
  refine walk_s rfl rfl (op_stam2 rfl tb85 (ev1 rfl) (ev1 rfl) rfl rfl rfl rfl) (by simp only [upd, zaa, za]; exact rfl) ?_
  refine zae ?_
  refine zaf ?_
  refine dwp_drawR 9 12 [([2], []), ([], []), ([], []), ([0], []), ([], []), ([0], []), ([], []), ([], []), ([], []), ([], []), ([], []), ([0], [])] mixed (by kernel_rfl) rfl rfl rfl ?_
  refine zag rfl rfl (op_ldmw rfl tb85 (ev1 rfl) rfl rfl) ?_
  refine zag rfl rfl (zac (.inl rfl) (ev1 rfl)) ?_
  refine zag rfl rfl (op_fa rfl fo47_1 (ev1 rfl)) ?_
  refine zag rfl rfl (op_ldo rfl tb3 (ev1 rfl) rfl rfl) ?_
  refine zag rfl rfl (op_fa rfl fo47_2 (ev1 rfl)) ?_
  refine zag rfl rfl (op_ldo rfl tb4 (ev1 rfl) rfl rfl) ?_
  refine zag rfl rfl (zah [] [] [] rfl (ev1 rfl) (ec (ev1 rfl) (ec (ev1 rfl) (ec (ev1 rfl) en))) rfl rfl (sweep_d l n r hn) rfl rfl rfl rfl rfl rfl) ?_
  refine zag rfl rfl (op_ext rfl (ev1 rfl) rfl) ?_
  refine zag rfl rfl ((op_ext rfl (ev1 rfl) rfl).cast (d' := .val (.int .i64 2)) (by rw [he])) ?_
  refine lex_s rfl rfl nop_d rfl rfl ?_
  refine zag rfl rfl (op_fa rfl fo47_0 (ev1 rfl)) ?_
  refine zag rfl rfl (op_ldr rfl tb27 (ev1 rfl) rfl rfl rfl) ?_
  refine lex_nil ⟨_, _, _, rfl, dop_callP [] [] [] rfl (ev1 rfl) (ec (ev1 rfl) (ec (ev1 rfl) en)) rfl rfl (mustS_p (swL r n l) 2 (by decide)) rfl rfl rfl rfl rfl rfl, ?_⟩
  refine kdef (dturn_caught [1] [] rfl rfl rfl (dstroke1_caught _ _) rfl rfl rfl rfl rfl) ?_
  refine kend0 (rs2 rfl (rv_t rfl) (rv_1 tb34 rfl rfl rfl)) rfl ?_
  rfl
set_option maxRecDepth 4000 in
set_option maxHeartbeats 1000000 in
theorem dline_d (w h : Int) (ds : List D) (ts : List TL) (hr : RowOk ds ts) (hc : CvOk w h ts) (c : C4) (n : Int) (r : Bool) (a b : P2) (ha : drwB a = true) (hb : drwB b = true) (hs : swB n (lineL a b) = true) : DFun Tryz.prog 29 [cvD w h ds, .val (.agg #[.int .u8 c.r, .int .u8 c.g, .int .u8 c.b, .int .u8 c.a, .int .i64 n, .bool r]), .val (.agg #[.int .i64 a.x, .int .i64 a.y]), .val (.agg #[.int .i64 b.x, .int .i64 b.y])] [] (.tup [cvD w h (dpR (drwC false w h ts c (swL r n (lineL a b)))), .val (.int .i64 0)]) [] := by
  have hd : (drwB a && drwB b) = true := by rw [ha, hb]; rfl
  obtain ⟨g1, g2⟩ := lin_ok hd
  have hll := lineL_le ha hb
  have hsl := swL_len (r := r) hs
  have he := (sw_ok (r := r) hs).2.1
  refine dcalls_body (N := 35) 0 (by kernel_rfl) Tryz.func29 rfl rfl rfl (by simp only [fr0, Nat.zero_add, Nat.reduceAdd]; exact rfl) rfl fun s0 hs0 => ?_
  refine dbody_seq rfl hs0 ?_
  refine zai 4 (by simp only [holes, List.cons_append, List.nil_append]; exact rfl) ?_
  refine zad ?_
  refine zaj rfl rfl rfl (op_boxa 0 rfl (ev1 rfl) rfl) (by simp only [upd, zaa, za]; exact rfl) ?_
  refine zaj rfl rfl rfl (op_boxa 1 rfl (ev1 rfl) rfl) (by simp only [upd, zaa, za]; exact rfl) ?_
  refine zaj rfl rfl rfl (op_boxa 2 rfl (ev1 rfl) rfl) (by simp only [upd, zaa, za]; exact rfl) ?_
  refine zab rfl rfl rfl (zac (.inr rfl) (ev1 rfl)) ?_
  refine zaj rfl rfl rfl (op_alloc 3 rfl zr34 rfl) (by simp only [upd, zaa, za]; exact rfl) ?_
  refine zae ?_
  refine dbody_defer (l0 := [_]) rfl rfl rfl rfl rfl hs0 ?_
  refine zab rfl rfl rfl (op_mkf rfl en (ec (ev1 rfl) en)) ?_
  refine zae ⟨_, _, _, 4, ev1 rfl, Nat.le_trans hs0 (by decide), rfl, ?_⟩
  have hs1 : s0.M.length ≤ 4 := Nat.le_trans hs0 (by decide)
  refine dbody_end rfl hs0 ?_
  refine zaf ?_
  refine zai 1 (by simp only [holes, List.cons_append, List.nil_append]; exact rfl) ?_
  refine zad ?_
  refine zab rfl rfl rfl (zac (.inl rfl) (ev1 rfl)) ?_
  refine zab rfl rfl rfl (zah [] [] [] rfl (ev1 rfl) (ec (ev1 rfl) en) rfl rfl (easel_d w h ds) rfl rfl rfl rfl rfl rfl) ?_
  refine zaj rfl rfl rfl (op_alloc 4 rfl zr85 rfl) (by simp only [upd, zaa, za]; exact rfl) ?_
  refine walk_s rfl rfl (op_stam2 rfl tb85 (ev1 rfl) (ev1 rfl) rfl rfl rfl rfl) (by simp only [upd, zaa, za]; exact rfl) ?_
  refine zae ?_
  refine zaf ?_
  refine zad ?_
  refine zab rfl rfl rfl (op_ldw rfl tb51 (ev1 rfl) rfl rfl) ?_
  refine zab rfl rfl rfl (op_ldw rfl tb51 (ev1 rfl) rfl rfl) ?_
  refine zab rfl rfl rfl (zah [] [] [] rfl (ev1 rfl) (ec (ev1 rfl) (ec (ev1 rfl) en)) rfl rfl (line_d a b) rfl rfl rfl rfl rfl rfl) ?_
  refine zab rfl rfl rfl ((op_ext rfl (ev1 rfl) rfl).cast (d' := .slf 2 (lineL a b).length ((lineL a b).flatMap p2)) (by rw [g1])) ?_
  refine zab rfl rfl rfl ((op_ext rfl (ev1 rfl) rfl).cast (d' := .val (.int .i64 0)) (by rw [g2])) ?_
  refine zab rfl rfl rfl (zah [] [] [] rfl (ev1 rfl) (ec (ev1 rfl) (ec (ev1 rfl) en)) rfl rfl (mustP_d (lineL a b)) rfl rfl rfl rfl rfl rfl) ?_
  refine zab rfl rfl rfl (zac (.inr rfl) (ev1 rfl)) ?_
  refine zae ?_
  refine zaf ?_
  refine zai 1 (by simp only [holes, List.cons_append, List.nil_append]; exact rfl) ?_
  refine dwp_draw [([4], []), ([], []), ([], []), ([0], []), ([], []), ([0], []), ([], []), ([], []), ([], []), ([], []), ([], []), ([0], []), ([5], [5]), ([5], [5]), ([], []), ([3], [3])] mixed (by kernel_rfl) ?_
  refine zag rfl rfl (op_ldmw rfl tb85 (ev1 rfl) rfl rfl) ?_
  refine zag rfl rfl (zac (.inl rfl) (ev1 rfl)) ?_
  refine zag rfl rfl (op_fa rfl fo47_1 (ev1 rfl)) ?_
  refine zag rfl rfl (op_ldo rfl tb3 (ev1 rfl) rfl rfl) ?_
  refine zag rfl rfl (op_fa rfl fo47_2 (ev1 rfl)) ?_
  refine zag rfl rfl (op_ldo rfl tb4 (ev1 rfl) rfl rfl) ?_
  refine zag rfl rfl (zah [] [] [] rfl (ev1 rfl) (ec (ev1 rfl) (ec (ev1 rfl) (ec (ev1 rfl) en))) rfl rfl (sweep_d (lineL a b) n r (by omega)) rfl rfl rfl rfl rfl rfl) ?_
  refine zag rfl rfl (op_ext rfl (ev1 rfl) rfl) ?_
  refine zag rfl rfl ((op_ext rfl (ev1 rfl) rfl).cast (d' := .val (.int .i64 0)) (by rw [he])) ?_
  refine zag rfl rfl (zah [] [] [] rfl (ev1 rfl) (ec (ev1 rfl) (ec (ev1 rfl) en)) rfl rfl (mustS_d (swL r n (lineL a b))) rfl rfl rfl rfl rfl rfl) ?_
  refine zag rfl rfl (op_fa rfl fo47_0 (ev1 rfl)) ?_
  refine zag rfl rfl (op_ldr rfl tb27 (ev1 rfl) rfl rfl rfl) ?_
  refine lex_w rfl rfl (zah [] [] [5] rfl (ev1 rfl) (ec (ev1 rfl) en) rfl rfl (paints_d c) rfl rfl rfl rfl rfl rfl) rfl (by simp only [upd, zaa, za]; exact rfl) ?_
  refine lex_w rfl rfl (zah [5] [] [] rfl (ev1 rfl) (ec (ev1 rfl) (ec (ev1 rfl) (ec (ev1 rfl) en))) rfl rfl (drawn_p w h ds ts hr hc c (swL r n (lineL a b)) (swL_chk hs) (by omega)) rfl rfl rfl rfl rfl rfl) rfl (by simp only [upd, zaa, za]; exact rfl) ?_
  refine zag rfl rfl (zac (.inr rfl) (ev1 rfl)) ?_
  refine lex_s rfl rfl (op_stwi rfl tb34 (ev1 rfl) (ev1 rfl) rfl) rfl (by simp only [upd, zaa, za]; exact rfl) ?_
  refine lex_nil ?_
  refine dwp_ret ?_
  refine kdef (dturn_idle [3] [] rfl rfl (dline1_idle _) rfl rfl rfl rfl rfl) ?_
  refine kend0 (rs2 rfl (rv_t rfl) (rv_1 tb34 rfl rfl rfl)) rfl ?_
  rfl
set_option maxRecDepth 4000 in
set_option maxHeartbeats 1000000 in
theorem drect_d (w h : Int) (ds : List D) (ts : List TL) (hr : RowOk ds ts) (hc : CvOk w h ts) (c : C4) (a b : P2) (ha : drwB a = true) (hb : drwB b = true) : DFun Tryz.prog 31 [cvD w h ds, .val (.agg (c4 c).toArray), .val (.agg #[.int .i64 a.x, .int .i64 a.y]), .val (.agg #[.int .i64 b.x, .int .i64 b.y])] [] (.tup [cvD w h (dpR (drwC false w h ts c (rectL a b))), .val (.int .i64 0)]) [] := by
  have hd : (drwB a && drwB b) = true := by rw [ha, hb]; rfl
  obtain ⟨g1, g2⟩ := rct_ok hd
  have hll := rectL_len ha hb
  refine dcalls_body (N := 24) 0 (by kernel_rfl) Tryz.func31 rfl rfl rfl (by simp only [fr0, Nat.zero_add, Nat.reduceAdd]; exact rfl) rfl fun s0 hs0 => ?_
  refine dbody_seq rfl hs0 ?_
  refine zai 4 (by simp only [holes, List.cons_append, List.nil_append]; exact rfl) ?_
  refine zad ?_
  refine zaj rfl rfl rfl (op_boxa 0 rfl (ev1 rfl) rfl) (by simp only [upd, zaa, za]; exact rfl) ?_
  refine zaj rfl rfl rfl (op_boxa 1 rfl (ev1 rfl) rfl) (by simp only [upd, zaa, za]; exact rfl) ?_
  refine zaj rfl rfl rfl (op_boxa 2 rfl (ev1 rfl) rfl) (by simp only [upd, zaa, za]; exact rfl) ?_
  refine zab rfl rfl rfl (zac (.inr rfl) (ev1 rfl)) ?_
  refine zaj rfl rfl rfl (op_alloc 3 rfl zr34 rfl) (by simp only [upd, zaa, za]; exact rfl) ?_
  refine zae ?_
  refine dbody_defer (l0 := [_]) rfl rfl rfl rfl rfl hs0 ?_
  refine zab rfl rfl rfl (op_mkf rfl en (ec (ev1 rfl) en)) ?_
  refine zae ⟨_, _, _, 4, ev1 rfl, Nat.le_trans hs0 (by decide), rfl, ?_⟩
  have hs1 : s0.M.length ≤ 4 := Nat.le_trans hs0 (by decide)
  refine dbody_end rfl hs0 ?_
  refine zaf ?_
  refine zai 1 (by simp only [holes, List.cons_append, List.nil_append]; exact rfl) ?_
  refine zad ?_
  refine zab rfl rfl rfl (zac (.inl rfl) (ev1 rfl)) ?_
  refine zab rfl rfl rfl (zah [] [] [] rfl (ev1 rfl) (ec (ev1 rfl) en) rfl rfl (easel_d w h ds) rfl rfl rfl rfl rfl rfl) ?_
  refine zaj rfl rfl rfl (op_alloc 4 rfl zr85 rfl) (by simp only [upd, zaa, za]; exact rfl) ?_
  refine walk_s rfl rfl (op_stam2 rfl tb85 (ev1 rfl) (ev1 rfl) rfl rfl rfl rfl) (by simp only [upd, zaa, za]; exact rfl) ?_
  refine zae ?_
  refine zaf ?_
  refine zai 1 (by simp only [holes, List.cons_append, List.nil_append]; exact rfl) ?_
  refine dwp_draw [([4], []), ([1], []), ([2], []), ([], []), ([], []), ([], []), ([], []), ([0], []), ([5], [5]), ([5], [5]), ([], []), ([3], [3])] mixed (by kernel_rfl) ?_
  refine zag rfl rfl (op_ldmw rfl tb85 (ev1 rfl) rfl rfl) ?_
  refine zag rfl rfl (op_ldw rfl tb51 (ev1 rfl) rfl rfl) ?_
  refine zag rfl rfl (op_ldw rfl tb51 (ev1 rfl) rfl rfl) ?_
  refine zag rfl rfl (zah [] [] [] rfl (ev1 rfl) (ec (ev1 rfl) (ec (ev1 rfl) en)) rfl rfl (rect_d a b) rfl rfl rfl rfl rfl rfl) ?_
  refine zag rfl rfl ((op_ext rfl (ev1 rfl) rfl).cast (d' := .slf 3 (rectL a b).length ((rectL a b).flatMap s3)) (by rw [g1])) ?_
  refine zag rfl rfl ((op_ext rfl (ev1 rfl) rfl).cast (d' := .val (.int .i64 0)) (by rw [g2])) ?_
  refine zag rfl rfl (zah [] [] [] rfl (ev1 rfl) (ec (ev1 rfl) (ec (ev1 rfl) en)) rfl rfl (mustS_d (rectL a b)) rfl rfl rfl rfl rfl rfl) ?_
  refine zag rfl rfl (op_ldw rfl tb27 (ev1 rfl) rfl rfl) ?_
  refine lex_w rfl rfl (zah [] [] [5] rfl (ev1 rfl) (ec (ev1 rfl) en) rfl rfl (paints_d c) rfl rfl rfl rfl rfl rfl) rfl (by simp only [upd, zaa, za]; exact rfl) ?_
  refine lex_w rfl rfl (zah [5] [] [] rfl (ev1 rfl) (ec (ev1 rfl) (ec (ev1 rfl) (ec (ev1 rfl) en))) rfl rfl (drawn_p w h ds ts hr hc c (rectL a b) (rect_chk ha hb) (by omega)) rfl rfl rfl rfl rfl rfl) rfl (by simp only [upd, zaa, za]; exact rfl) ?_
  refine zag rfl rfl (zac (.inr rfl) (ev1 rfl)) ?_
  refine lex_s rfl rfl (op_stwi rfl tb34 (ev1 rfl) (ev1 rfl) rfl) rfl (by simp only [upd, zaa, za]; exact rfl) ?_
  refine lex_nil ?_
  refine dwp_ret ?_
  refine kdef (dturn_idle [3] [] rfl rfl (drect1_idle _) rfl rfl rfl rfl rfl) ?_
  refine kend0 (rs2 rfl (rv_t rfl) (rv_1 tb34 rfl rfl rfl)) rfl ?_
  rfl
set_option maxRecDepth 4000 in
set_option maxHeartbeats 1000000 in
theorem frame_d (w h : Int) (ds : List D) (ts : List TL) (hr : RowOk ds ts) (hc : CvOk w h ts) (c : C4) (a b : P2) (ha : drwB a = true) (hb : drwB b = true) : DFun Tryz.prog 32 [cvD w h ds, .val (.agg (c4 c).toArray), .val (.agg #[.int .i64 a.x, .int .i64 a.y]), .val (.agg #[.int .i64 b.x, .int .i64 b.y])] [] (.tup [cvD w h (dpR (drwC false w h ts c (uniL (frmR a b)))), .val (.int .i64 0)]) [] := by
  obtain ⟨d1, d2⟩ := ac_drw ha hb
  have g1 := rct_ok (show (drwB a && drwB (ac2 a b)) = true by rw [ha, d1]; rfl)
  have g2 := rct_ok (show (drwB a && drwB (dn2 a b)) = true by rw [ha, d2]; rfl)
  have g3 := rct_ok (show (drwB (ac2 a b) && drwB b) = true by rw [d1, hb]; rfl)
  have g4 := rct_ok (show (drwB (dn2 a b) && drwB b) = true by rw [d2, hb]; rfl)
  obtain ⟨hfa, hfl⟩ := frm_ok ha hb
  have hue := (uni_ok hfa).2
  have hul := uni_len hfa
  refine dcalls_body (N := 61) 0 (by kernel_rfl) Tryz.func32 rfl rfl rfl (by simp only [fr0, Nat.zero_add, Nat.reduceAdd]; exact rfl) rfl fun s0 hs0 => ?_
  refine dbody_seq rfl hs0 ?_
  refine zai 4 (by simp only [holes, List.cons_append, List.nil_append]; exact rfl) ?_
  refine zad ?_
  refine zaj rfl rfl rfl (op_boxa 0 rfl (ev1 rfl) rfl) (by simp only [upd, zaa, za]; exact rfl) ?_
  refine zaj rfl rfl rfl (op_boxa 1 rfl (ev1 rfl) rfl) (by simp only [upd, zaa, za]; exact rfl) ?_
  refine zaj rfl rfl rfl (op_boxa 2 rfl (ev1 rfl) rfl) (by simp only [upd, zaa, za]; exact rfl) ?_
  refine zab rfl rfl rfl (zac (.inr rfl) (ev1 rfl)) ?_
  refine zaj rfl rfl rfl (op_alloc 3 rfl zr34 rfl) (by simp only [upd, zaa, za]; exact rfl) ?_
  refine zae ?_
  refine dbody_defer (l0 := [_]) rfl rfl rfl rfl rfl hs0 ?_
  refine zab rfl rfl rfl (op_mkf rfl en (ec (ev1 rfl) en)) ?_
  refine zae ⟨_, _, _, 4, ev1 rfl, Nat.le_trans hs0 (by decide), rfl, ?_⟩
  have hs1 : s0.M.length ≤ 4 := Nat.le_trans hs0 (by decide)
  refine dbody_end rfl hs0 ?_
  refine zaf ?_
  refine zai 1 (by simp only [holes, List.cons_append, List.nil_append]; exact rfl) ?_
  refine zad ?_
  refine zab rfl rfl rfl (zac (.inl rfl) (ev1 rfl)) ?_
  refine zab rfl rfl rfl (zah [] [] [] rfl (ev1 rfl) (ec (ev1 rfl) en) rfl rfl (easel_d w h ds) rfl rfl rfl rfl rfl rfl) ?_
  refine zaj rfl rfl rfl (op_alloc 4 rfl zr85 rfl) (by simp only [upd, zaa, za]; exact rfl) ?_
  refine walk_s rfl rfl (op_stam2 rfl tb85 (ev1 rfl) (ev1 rfl) rfl rfl rfl rfl) (by simp only [upd, zaa, za]; exact rfl) ?_
  refine zae ?_
  refine zaf ?_
  refine zai 2 (by simp only [holes, List.cons_append, List.nil_append]; exact rfl) ?_
  refine dwp_draw [([], []), ([2], []), ([], []), ([1], []), ([], []), ([], []), ([1], []), ([], []), ([2], []), ([], []), ([5], [5]), ([6], [6]), ([5], [5]), ([6], [6])] mixed (by kernel_rfl) ?_
  refine zag rfl rfl (op_fa rfl fo51_0 (ev1 rfl)) ?_
  refine zag rfl rfl (op_ldo rfl tb3 (ev1 rfl) rfl rfl) ?_
  refine zag rfl rfl (op_fa rfl fo51_1 (ev1 rfl)) ?_
  refine zag rfl rfl (op_ldo rfl tb3 (ev1 rfl) rfl rfl) ?_
  refine zag rfl rfl (op_build (ps := [(0, .tmp 18), (1, .tmp 20)]) rfl fl51 zr51 (vc (ev1 rfl) (vc (ev1 rfl) vn)) rfl rfl) ?_
  refine zag rfl rfl (op_fa rfl fo51_0 (ev1 rfl)) ?_
  refine zag rfl rfl (op_ldo rfl tb3 (ev1 rfl) rfl rfl) ?_
  refine zag rfl rfl (op_fa rfl fo51_1 (ev1 rfl)) ?_
  refine zag rfl rfl (op_ldo rfl tb3 (ev1 rfl) rfl rfl) ?_
  refine zag rfl rfl (op_build (ps := [(0, .tmp 23), (1, .tmp 25)]) rfl fl51 zr51 (vc (ev1 rfl) (vc (ev1 rfl) vn)) rfl rfl) ?_
  refine lex_w rfl rfl (op_alloc 5 rfl zr51 rfl) rfl (by simp only [upd, zaa, za]; exact rfl) ?_
  refine lex_w rfl rfl (op_alloc 6 rfl zr51 rfl) rfl (by simp only [upd, zaa, za]; exact rfl) ?_
  refine lex_s rfl rfl (op_stwa rfl tb51 (ev1 rfl) (ev1 rfl) rfl rfl rfl rfl) rfl (by simp only [upd, zaa, za]; exact rfl) ?_
  refine lex_s rfl rfl (op_stwa rfl tb51 (ev1 rfl) (ev1 rfl) rfl rfl rfl rfl) rfl (by simp only [upd, zaa, za]; exact rfl) ?_
  refine lex_nil ?_
  refine zaf ?_
  refine dwp_draw [([1], []), ([5], []), ([], []), ([], []), ([], []), ([], []), ([1], []), ([6], []), ([], []), ([], []), ([], []), ([], []), ([5], []), ([2], []), ([], []), ([], []), ([], []), ([], []), ([6], []), ([2], []), ([], []), ([], []), ([], []), ([], []), ([], []), ([], []), ([], []), ([], []), ([], []), ([], [])] mixed (by kernel_rfl) ?_
  refine zag rfl rfl (op_ldw rfl tb51 (ev1 rfl) rfl rfl) ?_
  refine zag rfl rfl (op_ldw rfl tb51 (ev1 rfl) rfl rfl) ?_
  refine zag rfl rfl (zah [] [] [] rfl (ev1 rfl) (ec (ev1 rfl) (ec (ev1 rfl) en)) rfl rfl (rect_d a (ac2 a b)) rfl rfl rfl rfl rfl rfl) ?_
  refine zag rfl rfl ((op_ext rfl (ev1 rfl) rfl).cast (d' := .slf 3 (rectL a (ac2 a b)).length ((rectL a (ac2 a b)).flatMap s3)) (by rw [g1.1])) ?_
  refine zag rfl rfl ((op_ext rfl (ev1 rfl) rfl).cast (d' := .val (.int .i64 0)) (by rw [g1.2])) ?_
  refine zag rfl rfl (zah [] [] [] rfl (ev1 rfl) (ec (ev1 rfl) (ec (ev1 rfl) en)) rfl rfl (mustS_d (rectL a (ac2 a b))) rfl rfl rfl rfl rfl rfl) ?_
  refine zag rfl rfl (op_ldw rfl tb51 (ev1 rfl) rfl rfl) ?_
  refine zag rfl rfl (op_ldw rfl tb51 (ev1 rfl) rfl rfl) ?_
  refine zag rfl rfl (zah [] [] [] rfl (ev1 rfl) (ec (ev1 rfl) (ec (ev1 rfl) en)) rfl rfl (rect_d a (dn2 a b)) rfl rfl rfl rfl rfl rfl) ?_
  refine zag rfl rfl ((op_ext rfl (ev1 rfl) rfl).cast (d' := .slf 3 (rectL a (dn2 a b)).length ((rectL a (dn2 a b)).flatMap s3)) (by rw [g2.1])) ?_
  refine zag rfl rfl ((op_ext rfl (ev1 rfl) rfl).cast (d' := .val (.int .i64 0)) (by rw [g2.2])) ?_
  refine zag rfl rfl (zah [] [] [] rfl (ev1 rfl) (ec (ev1 rfl) (ec (ev1 rfl) en)) rfl rfl (mustS_d (rectL a (dn2 a b))) rfl rfl rfl rfl rfl rfl) ?_
  refine zag rfl rfl (op_ldw rfl tb51 (ev1 rfl) rfl rfl) ?_
  refine zag rfl rfl (op_ldw rfl tb51 (ev1 rfl) rfl rfl) ?_
  refine zag rfl rfl (zah [] [] [] rfl (ev1 rfl) (ec (ev1 rfl) (ec (ev1 rfl) en)) rfl rfl (rect_d (ac2 a b) b) rfl rfl rfl rfl rfl rfl) ?_
  refine zag rfl rfl ((op_ext rfl (ev1 rfl) rfl).cast (d' := .slf 3 (rectL (ac2 a b) b).length ((rectL (ac2 a b) b).flatMap s3)) (by rw [g3.1])) ?_
  refine zag rfl rfl ((op_ext rfl (ev1 rfl) rfl).cast (d' := .val (.int .i64 0)) (by rw [g3.2])) ?_
  refine zag rfl rfl (zah [] [] [] rfl (ev1 rfl) (ec (ev1 rfl) (ec (ev1 rfl) en)) rfl rfl (mustS_d (rectL (ac2 a b) b)) rfl rfl rfl rfl rfl rfl) ?_
  refine zag rfl rfl (op_ldw rfl tb51 (ev1 rfl) rfl rfl) ?_
  refine zag rfl rfl (op_ldw rfl tb51 (ev1 rfl) rfl rfl) ?_
  refine zag rfl rfl (zah [] [] [] rfl (ev1 rfl) (ec (ev1 rfl) (ec (ev1 rfl) en)) rfl rfl (rect_d (dn2 a b) b) rfl rfl rfl rfl rfl rfl) ?_
  refine zag rfl rfl ((op_ext rfl (ev1 rfl) rfl).cast (d' := .slf 3 (rectL (dn2 a b) b).length ((rectL (dn2 a b) b).flatMap s3)) (by rw [g4.1])) ?_
  refine zag rfl rfl ((op_ext rfl (ev1 rfl) rfl).cast (d' := .val (.int .i64 0)) (by rw [g4.2])) ?_
  refine zag rfl rfl (zah [] [] [] rfl (ev1 rfl) (ec (ev1 rfl) (ec (ev1 rfl) en)) rfl rfl (mustS_d (rectL (dn2 a b) b)) rfl rfl rfl rfl rfl rfl) ?_
  refine zag rfl rfl (op_bsm (ps := [(0, .tmp 32), (1, .tmp 38), (2, .tmp 44), (3, .tmp 50)]) rfl sl142 zr25 rfl (ec (ev1 rfl) (ec (ev1 rfl) (ec (ev1 rfl) (ec (ev1 rfl) en)))) rfl (by decide)) ?_
  refine zag rfl rfl (zah [] [] [] rfl (ev1 rfl) (ec (ev1 rfl) en) rfl rfl (union_d (frmR a b) (by omega)) rfl rfl rfl rfl rfl rfl) ?_
  refine zag rfl rfl ((op_ext rfl (ev1 rfl) rfl).cast (d' := .slf 3 (uniL (frmR a b)).length ((uniL (frmR a b)).flatMap s3)) (rfl)) ?_
  refine zag rfl rfl ((op_ext rfl (ev1 rfl) rfl).cast (d' := .val (.int .i64 0)) (by rw [hue])) ?_
  refine zag rfl rfl (zah [] [] [] rfl (ev1 rfl) (ec (ev1 rfl) (ec (ev1 rfl) en)) rfl rfl (mustS_d (uniL (frmR a b))) rfl rfl rfl rfl rfl rfl) ?_
  refine zag rfl rfl (zac (.inr rfl) (ev1 rfl)) ?_
  refine lex_nil ?_
  refine zaf ?_
  refine zai 1 (by simp only [holes, List.cons_append, List.nil_append]; exact rfl) ?_
  refine dwp_draw [([4], []), ([], []), ([0], []), ([7], [7]), ([7], [7]), ([], []), ([3], [3])] mixed (by kernel_rfl) ?_
  refine zag rfl rfl (op_ldmw rfl tb85 (ev1 rfl) rfl rfl) ?_
  refine zag rfl rfl (zac (.inl rfl) (ev1 rfl)) ?_
  refine zag rfl rfl (op_ldw rfl tb27 (ev1 rfl) rfl rfl) ?_
  refine lex_w rfl rfl (zah [] [] [7] rfl (ev1 rfl) (ec (ev1 rfl) en) rfl rfl (paints_d c) rfl rfl rfl rfl rfl rfl) rfl (by simp only [upd, zaa, za]; exact rfl) ?_
  refine lex_w rfl rfl (zah [7] [] [] rfl (ev1 rfl) (ec (ev1 rfl) (ec (ev1 rfl) (ec (ev1 rfl) en))) rfl rfl (drawn_p w h ds ts hr hc c (uniL (frmR a b)) (uni_chk hfa) (by omega)) rfl rfl rfl rfl rfl rfl) rfl (by simp only [upd, zaa, za]; exact rfl) ?_
  refine zag rfl rfl (zac (.inr rfl) (ev1 rfl)) ?_
  refine lex_s rfl rfl (op_stwi rfl tb34 (ev1 rfl) (ev1 rfl) rfl) rfl (by simp only [upd, zaa, za]; exact rfl) ?_
  refine lex_nil ?_
  refine dwp_ret ?_
  refine kdef (dturn_idle [3] [] rfl rfl (dframe1_idle _) rfl rfl rfl rfl rfl) ?_
  refine kend0 (rs2 rfl (rv_t rfl) (rv_1 tb34 rfl rfl rfl)) rfl ?_
  rfl
end Go.Proofs.YtjgnalfnginjbaaGreatDoor
namespace Go.Proofs.YtjgnalfnginjbaaGreatDoor
set_option maxRecDepth 4000
set_option linter.unusedVariables false
set_option linter.unusedSimpArgs false
open Go.RowKit
theorem fl47 : fdL Tryz.prog 47 = some [(0, 4), (4, 1), (5, 1)] := by kernel_rfl
theorem zr47 : zrC Tryz.prog 47 = some [.int .u8 0, .int .u8 0, .int .u8 0, .int .u8 0, .int .i64 0, .bool false] := by kernel_rfl
theorem okd_wk {I : Nat → Prop} {w h : Int} {ts : List TL} {d : D} (hf : Okd (NewCv I w h ts) d) : Wk d (.tup [cvD w h (dpR ts), .val (.int .i64 0)]) := by
  obtain ⟨_, ⟨A, hA, _, rfl⟩, rfl⟩ := hf
  exact Wk.tup (.cons ((pinsR_ok hA).wkd w h) (.cons (.refl _) .nil))
theorem of_d (w h : Int) (ts : List TL) (hc : CvOk w h ts) : DFun Tryz.prog 12 [shD w h ts] [] (.tup [cvD w h (dpR ts), .val (.int .i64 0)]) [] := (of_i w h ts hc).fun fun I d hf => okd_wk hf
theorem cnew_d (w h : Int) (n : Nat) (hm : mayS w h = true) (hn : w * h = (n : Int)) : DFun Tryz.prog 41 [.val (.int .i64 w), .val (.int .i64 h)] [] (.tup [cvD w h (dpR (List.replicate n (nT zC4))), .val (.int .i64 0)]) [] := (cnew_i w h n hm hn).fun fun I d hf => okd_wk hf
theorem norm_calc {l m r : List Sp} (hp : m.Perm l) (hs : m.Pairwise leS) (hv : ∀ s ∈ l, s.f ≤ s.t) (h : m.foldl mergeS [] = r) : normS l = r := (norm_of_sorted hv hp hs).symm.trans h
theorem br_run (r : Bool) (n : Nat) : brS r n = runS ((fieldN (2 * n + 1) ((2 * n + 1) * (2 * n + 1)) (-(n : Int)) (-(n : Int))).filter (inBr r n)) := (run_norm ((field_beh (by omega) _ _ _).sublist List.filter_sublist)).symm
def redC : C4 := ⟨255, 0, 0, 255⟩
def wkT : List TL := List.replicate 1 (nT zC4)
theorem wkT_ok : CvOk 1 1 wkT := ⟨by decide, by decide⟩
def k7a : List Sp := [⟨0, 0, 3⟩]
def k7b : List Sp := [⟨-1, -1, 4⟩, ⟨0, -1, 4⟩, ⟨1, -1, 4⟩]
def k7c : List Sp := [⟨1, 1, 3⟩, ⟨2, 1, 3⟩, ⟨3, 1, 3⟩]
def k7d : List Sp := [⟨1, 1, 3⟩, ⟨2, 1, 1⟩, ⟨2, 3, 3⟩, ⟨3, 1, 3⟩]
theorem w7_b0 : brS false 0 = [⟨0, 0, 0⟩] := by rw [br_run]; decide
theorem w7_b1 : brS false 1 = [⟨-1, -1, 1⟩, ⟨0, -1, 1⟩, ⟨1, -1, 1⟩] := by rw [br_run]; decide
theorem w7_ln : lineL ⟨0, 0⟩ ⟨3, 0⟩ = [⟨0, 0⟩, ⟨1, 0⟩, ⟨2, 0⟩, ⟨3, 0⟩] := by decide
theorem w7_a : swL false 0 (lineL ⟨0, 0⟩ ⟨3, 0⟩) = k7a := by
  rw [w7_ln]
  obtain ⟨e1, _⟩ := sw_ok (r := false) (n := 0) (l := [⟨0, 0⟩, ⟨1, 0⟩, ⟨2, 0⟩, ⟨3, 0⟩]) (by decide)
  rw [e1]
  show normS (swK false 0 _) = _
  unfold swK
  rw [w7_b0]
  exact norm_calc (m := [⟨0, 0, 0⟩, ⟨0, 1, 1⟩, ⟨0, 2, 2⟩, ⟨0, 3, 3⟩]) (by decide) (by decide) (by decide) (by decide)
theorem w7_b : swL false 1 (lineL ⟨0, 0⟩ ⟨3, 0⟩) = k7b := by
  rw [w7_ln]
  obtain ⟨e1, _⟩ := sw_ok (r := false) (n := 1) (l := [⟨0, 0⟩, ⟨1, 0⟩, ⟨2, 0⟩, ⟨3, 0⟩]) (by decide)
  rw [e1]
  show normS (swK false 1 _) = _
  unfold swK
  rw [w7_b1]
  exact norm_calc (m := [⟨-1, -1, 1⟩, ⟨-1, 0, 2⟩, ⟨-1, 1, 3⟩, ⟨-1, 2, 4⟩, ⟨0, -1, 1⟩, ⟨0, 0, 2⟩, ⟨0, 1, 3⟩, ⟨0, 2, 4⟩, ⟨1, -1, 1⟩, ⟨1, 0, 2⟩, ⟨1, 1, 3⟩, ⟨1, 2, 4⟩]) (by decide) (by decide) (by decide) (by decide)
theorem w7_c : rectL ⟨3, 3⟩ ⟨1, 1⟩ = k7c := by decide
theorem w7_d : uniL (frmR ⟨1, 1⟩ ⟨3, 3⟩) = k7d := by
  rw [(uni_ok (frm_ok (a := ⟨1, 1⟩) (b := ⟨3, 3⟩) (by decide) (by decide)).1).1]
  exact norm_calc (m := [⟨1, 1, 3⟩, ⟨1, 1, 1⟩, ⟨1, 3, 3⟩, ⟨2, 1, 1⟩, ⟨2, 3, 3⟩, ⟨3, 1, 1⟩, ⟨3, 1, 3⟩, ⟨3, 3, 3⟩]) (by decide) (by decide) (by decide) (by decide)
theorem w7_na : (difC 1 1 wkT (drwC false 1 1 wkT redC k7a)).length = 4 := by kernel_rfl
theorem w7_nb : (difC 1 1 wkT (drwC false 1 1 wkT redC k7b)).length = 10 := by kernel_rfl
theorem w7_nc : (difC 1 1 wkT (drwC false 1 1 wkT redC k7c)).length = 9 := by kernel_rfl
theorem w7_nd : (difC 1 1 wkT (drwC false 1 1 wkT redC k7d)).length = 8 := by kernel_rfl
theorem w7_sn : swB 16 [⟨0, 0⟩] = false := by decide
theorem w7l0_d : DFun Tryz.prog 29 [cvD 1 1 (dpR wkT), .val (.agg #[.int .u8 255, .int .u8 0, .int .u8 0, .int .u8 255, .int .i64 0, .bool false]), .val (.agg #[.int .i64 0, .int .i64 0]), .val (.agg #[.int .i64 3, .int .i64 0])] [] (.tup [cvD 1 1 (dpR (drwC false 1 1 wkT redC k7a)), .val (.int .i64 0)]) [] := by
  have h := dline_d 1 1 _ wkT (dpR_ok wkT) wkT_ok redC 0 false ⟨0, 0⟩ ⟨3, 0⟩ (by decide) (by decide) (by rw [w7_ln]; decide)
  rw [w7_a] at h
  exact h
theorem w7l1_d : DFun Tryz.prog 29 [cvD 1 1 (dpR wkT), .val (.agg #[.int .u8 255, .int .u8 0, .int .u8 0, .int .u8 255, .int .i64 1, .bool false]), .val (.agg #[.int .i64 0, .int .i64 0]), .val (.agg #[.int .i64 3, .int .i64 0])] [] (.tup [cvD 1 1 (dpR (drwC false 1 1 wkT redC k7b)), .val (.int .i64 0)]) [] := by
  have h := dline_d 1 1 _ wkT (dpR_ok wkT) wkT_ok redC 1 false ⟨0, 0⟩ ⟨3, 0⟩ (by decide) (by decide) (by rw [w7_ln]; decide)
  rw [w7_b] at h
  exact h
theorem w7r_d : DFun Tryz.prog 31 [cvD 1 1 (dpR wkT), .val (.agg #[.int .u8 255, .int .u8 0, .int .u8 0, .int .u8 255]), .val (.agg #[.int .i64 3, .int .i64 3]), .val (.agg #[.int .i64 1, .int .i64 1])] [] (.tup [cvD 1 1 (dpR (drwC false 1 1 wkT redC k7c)), .val (.int .i64 0)]) [] := by
  have h := drect_d 1 1 _ wkT (dpR_ok wkT) wkT_ok redC ⟨3, 3⟩ ⟨1, 1⟩ (by decide) (by decide)
  rw [w7_c] at h
  exact h
theorem w7f_d : DFun Tryz.prog 32 [cvD 1 1 (dpR wkT), .val (.agg #[.int .u8 255, .int .u8 0, .int .u8 0, .int .u8 255]), .val (.agg #[.int .i64 1, .int .i64 1]), .val (.agg #[.int .i64 3, .int .i64 3])] [] (.tup [cvD 1 1 (dpR (drwC false 1 1 wkT redC k7d)), .val (.int .i64 0)]) [] := by
  have h := frame_d 1 1 _ wkT (dpR_ok wkT) wkT_ok redC ⟨1, 1⟩ ⟨3, 3⟩ (by decide) (by decide)
  rw [w7_d] at h
  exact h
theorem w7n_d : DFun Tryz.prog 27 [cvD 1 1 (dpR wkT), .val (.agg #[.int .u8 0, .int .u8 0, .int .u8 0, .int .u8 0, .int .i64 16, .bool false]), .slf 2 1 [.int .i64 0, .int .i64 0]] [] (.tup [.val (.pointer none), .val (.int .i64 2)]) [] := stroke_n 1 1 _ wkT (dpR_ok wkT) wkT_ok zC4 16 false [⟨0, 0⟩] w7_sn (by decide)
set_option maxRecDepth 4000 in
set_option maxHeartbeats 1000000 in
theorem wakes_d : DFun Tryz.prog 9 [] [.glob 0 (c4 redC)] (.val (.bool true)) [.glob 0 (c4 redC)] := by
  refine dcalls_go (N := 120) 1 (by kernel_rfl) Tryz.func9 rfl rfl rfl (by simp only [fr0, Nat.zero_add, Nat.reduceAdd]; exact rfl) rfl fun s0 hs0 => ?_
  refine zaf ?_
  refine zad ?_
  refine zab rfl rfl rfl (zac (.inr rfl) (ev1 rfl)) ?_
  refine zae ?_
  refine zaf ?_
  refine zad ?_
  refine zab rfl rfl rfl (zah [] [] [] rfl (ev1 rfl) (ec (ev1 rfl) (ec (ev1 rfl) en)) rfl rfl (cnew_d 1 1 1 (by decide) (by decide)) rfl rfl rfl rfl rfl rfl) ?_
  refine zab rfl rfl rfl (zac (.inl rfl) (ev1 rfl)) ?_
  refine zab rfl rfl rfl (op_ext rfl (ev1 rfl) rfl) ?_
  refine zab rfl rfl rfl (op_ext rfl (ev1 rfl) rfl) ?_
  refine zab rfl rfl rfl (zac (.inr rfl) (ev1 rfl)) ?_
  refine zab rfl rfl rfl (zac (.inr rfl) (ev1 rfl)) ?_
  refine zae ?_
  refine zaf ?_
  refine zad ?_
  refine zab rfl rfl rfl (zac (.inl rfl) (ev1 rfl)) ?_
  refine zab rfl rfl rfl (op_ldg (i := 0) rfl tb27 (ev1 rfl) rfl rfl) ?_
  refine zab rfl rfl rfl (op_build (ps := [(0, .tmp 21)]) rfl fl47 zr47 (vc (ev1 rfl) vn) rfl rfl) ?_
  refine zab rfl rfl rfl (op_build0 rfl fl51 zr51) ?_
  refine zab rfl rfl rfl (op_build (ps := [(0, .const (.int .i64 3))]) rfl fl51 zr51 (vc (ev1 rfl) vn) rfl rfl) ?_
  refine zab rfl rfl rfl (zah [] [] [] rfl (ev1 rfl) (ec (ev1 rfl) (ec (ev1 rfl) (ec (ev1 rfl) (ec (ev1 rfl) en)))) rfl rfl (w7l0_d) rfl rfl rfl rfl rfl rfl) ?_
  refine zab rfl rfl rfl (zac (.inl rfl) (ev1 rfl)) ?_
  refine zab rfl rfl rfl (op_ext rfl (ev1 rfl) rfl) ?_
  refine zab rfl rfl rfl (op_ext rfl (ev1 rfl) rfl) ?_
  refine zab rfl rfl rfl (zac (.inr rfl) (ev1 rfl)) ?_
  refine zab rfl rfl rfl (zac (.inr rfl) (ev1 rfl)) ?_
  refine zae ?_
  refine zaf ?_
  refine zad ?_
  refine zab rfl rfl rfl (zac (.inl rfl) (ev1 rfl)) ?_
  refine zab rfl rfl rfl (op_ldg (i := 0) rfl tb27 (ev1 rfl) rfl rfl) ?_
  refine zab rfl rfl rfl (op_build (ps := [(0, .tmp 30), (1, .const (.int .i64 1))]) rfl fl47 zr47 (vc (ev1 rfl) (vc (ev1 rfl) vn)) rfl rfl) ?_
  refine zab rfl rfl rfl (op_build0 rfl fl51 zr51) ?_
  refine zab rfl rfl rfl (op_build (ps := [(0, .const (.int .i64 3))]) rfl fl51 zr51 (vc (ev1 rfl) vn) rfl rfl) ?_
  refine zab rfl rfl rfl (zah [] [] [] rfl (ev1 rfl) (ec (ev1 rfl) (ec (ev1 rfl) (ec (ev1 rfl) (ec (ev1 rfl) en)))) rfl rfl (w7l1_d) rfl rfl rfl rfl rfl rfl) ?_
  refine zab rfl rfl rfl (zac (.inl rfl) (ev1 rfl)) ?_
  refine zab rfl rfl rfl (op_ext rfl (ev1 rfl) rfl) ?_
  refine zab rfl rfl rfl (op_ext rfl (ev1 rfl) rfl) ?_
  refine zab rfl rfl rfl (zac (.inr rfl) (ev1 rfl)) ?_
  refine zab rfl rfl rfl (zac (.inr rfl) (ev1 rfl)) ?_
  refine zae ?_
  refine zaf ?_
  refine zad ?_
  refine zab rfl rfl rfl (zac (.inl rfl) (ev1 rfl)) ?_
  refine zab rfl rfl rfl (op_ldg (i := 0) rfl tb27 (ev1 rfl) rfl rfl) ?_
  refine zab rfl rfl rfl (op_build (ps := [(0, .const (.int .i64 3)), (1, .const (.int .i64 3))]) rfl fl51 zr51 (vc (ev1 rfl) (vc (ev1 rfl) vn)) rfl rfl) ?_
  refine zab rfl rfl rfl (op_build (ps := [(0, .const (.int .i64 1)), (1, .const (.int .i64 1))]) rfl fl51 zr51 (vc (ev1 rfl) (vc (ev1 rfl) vn)) rfl rfl) ?_
  refine zab rfl rfl rfl (zah [] [] [] rfl (ev1 rfl) (ec (ev1 rfl) (ec (ev1 rfl) (ec (ev1 rfl) (ec (ev1 rfl) en)))) rfl rfl (w7r_d) rfl rfl rfl rfl rfl rfl) ?_
  refine zab rfl rfl rfl (zac (.inl rfl) (ev1 rfl)) ?_
  refine zab rfl rfl rfl (op_ext rfl (ev1 rfl) rfl) ?_
  refine zab rfl rfl rfl (op_ext rfl (ev1 rfl) rfl) ?_
  refine zab rfl rfl rfl (zac (.inr rfl) (ev1 rfl)) ?_
  refine zab rfl rfl rfl (zac (.inr rfl) (ev1 rfl)) ?_
  refine zae ?_
  refine zaf ?_
  refine zad ?_
  refine zab rfl rfl rfl (zac (.inl rfl) (ev1 rfl)) ?_
  refine zab rfl rfl rfl (op_ldg (i := 0) rfl tb27 (ev1 rfl) rfl rfl) ?_
  refine zab rfl rfl rfl (op_build (ps := [(0, .const (.int .i64 1)), (1, .const (.int .i64 1))]) rfl fl51 zr51 (vc (ev1 rfl) (vc (ev1 rfl) vn)) rfl rfl) ?_
  refine zab rfl rfl rfl (op_build (ps := [(0, .const (.int .i64 3)), (1, .const (.int .i64 3))]) rfl fl51 zr51 (vc (ev1 rfl) (vc (ev1 rfl) vn)) rfl rfl) ?_
  refine zab rfl rfl rfl (zah [] [] [] rfl (ev1 rfl) (ec (ev1 rfl) (ec (ev1 rfl) (ec (ev1 rfl) (ec (ev1 rfl) en)))) rfl rfl (w7f_d) rfl rfl rfl rfl rfl rfl) ?_
  refine zab rfl rfl rfl (zac (.inl rfl) (ev1 rfl)) ?_
  refine zab rfl rfl rfl (op_ext rfl (ev1 rfl) rfl) ?_
  refine zab rfl rfl rfl (op_ext rfl (ev1 rfl) rfl) ?_
  refine zab rfl rfl rfl (zac (.inr rfl) (ev1 rfl)) ?_
  refine zab rfl rfl rfl (zac (.inr rfl) (ev1 rfl)) ?_
  refine zae ?_
  refine zaf ?_
  refine zad ?_
  refine zab rfl rfl rfl (zac (.inl rfl) (ev1 rfl)) ?_
  refine zab rfl rfl rfl (op_build (ps := [(1, .const (.int .i64 16))]) rfl fl47 zr47 (vc (ev1 rfl) vn) rfl rfl) ?_
  refine zab rfl rfl rfl (op_build0 rfl fl51 zr51) ?_
  refine zab rfl rfl rfl (op_bs (ps := [(0, .tmp 56)]) rfl sl48 zr51 rfl (vc (ev1 rfl) vn) rfl (by decide) (by decide)) ?_
  refine zab rfl rfl rfl (zah [] [] [] rfl (ev1 rfl) (ec (ev1 rfl) (ec (ev1 rfl) (ec (ev1 rfl) en))) rfl rfl (w7n_d) rfl rfl rfl rfl rfl rfl) ?_
  refine zab rfl rfl rfl (zac (.inl rfl) (ev1 rfl)) ?_
  refine zab rfl rfl rfl (op_ext rfl (ev1 rfl) rfl) ?_
  refine zab rfl rfl rfl (op_ext rfl (ev1 rfl) rfl) ?_
  refine zab rfl rfl rfl (zac (.inr rfl) (ev1 rfl)) ?_
  refine zab rfl rfl rfl (zac (.inr rfl) (ev1 rfl)) ?_
  refine zae ?_
  refine zaf ?_
  refine zad ?_
  refine zab rfl rfl rfl (op_ldg (i := 0) rfl tb27 (ev1 rfl) rfl rfl) ?_
  refine zab rfl rfl rfl (zah [] [] [] rfl (ev1 rfl) (ec (ev1 rfl) (ec (evnil 3 (ev1 rfl)) (ec (ev1 rfl) en))) rfl rfl (paint_0 [] redC) rfl rfl rfl rfl rfl rfl) ?_
  refine zab rfl rfl rfl (zac (.inl rfl) (ev1 rfl)) ?_
  refine zab rfl rfl rfl (op_ext rfl (ev1 rfl) rfl) ?_
  refine zab rfl rfl rfl (op_ext rfl (ev1 rfl) rfl) ?_
  refine zab rfl rfl rfl (zac (.inr rfl) (ev1 rfl)) ?_
  refine zab rfl rfl rfl (zac (.inr rfl) (ev1 rfl)) ?_
  refine zae ?_
  refine zaf ?_
  refine zad ?_
  refine zab rfl rfl rfl (zac (.inl rfl) (ev1 rfl)) ?_
  refine zab rfl rfl rfl ((op_eql rfl (ev1 rfl) (ev1 rfl)).cast (d' := .val (.bool true)) (by kernel_rfl)) ?_
  refine zab rfl rfl rfl (zac (.inl rfl) (ev1 rfl)) ?_
  refine walk_k (gd_t (b := true) rfl rfl rfl) rfl rfl rfl (zac (.inl rfl) (ev1 rfl)) (by simp only [upd, zaa, za]; exact rfl) ?_
  refine walk_k (gd_t (b := true) rfl rfl rfl) rfl rfl rfl ((op_eql rfl (ev2 rfl) (ev1 rfl)).cast (d' := .val (.bool true)) (by kernel_rfl)) (by simp only [upd, zaa, za]; exact rfl) ?_
  refine zab rfl rfl rfl ((op_and rfl (ev1 rfl) (ev3 rfl (fun _ => rfl))).cast (d' := .val (.bool true)) (by rfl)) ?_
  refine zab rfl rfl rfl (zac (.inl rfl) (ev1 rfl)) ?_
  refine walk_k (gd_t (b := true) rfl rfl rfl) rfl rfl rfl (zac (.inl rfl) (ev1 rfl)) (by simp only [upd, zaa, za]; exact rfl) ?_
  refine walk_k (gd_t (b := true) rfl rfl rfl) rfl rfl rfl ((op_eql rfl (ev2 rfl) (ev1 rfl)).cast (d' := .val (.bool true)) (by kernel_rfl)) (by simp only [upd, zaa, za]; exact rfl) ?_
  refine zab rfl rfl rfl ((op_and rfl (ev1 rfl) (ev3 rfl (fun _ => rfl))).cast (d' := .val (.bool true)) (by rfl)) ?_
  refine zab rfl rfl rfl (zac (.inl rfl) (ev1 rfl)) ?_
  refine walk_k (gd_t (b := true) rfl rfl rfl) rfl rfl rfl (zac (.inl rfl) (ev1 rfl)) (by simp only [upd, zaa, za]; exact rfl) ?_
  refine walk_k (gd_t (b := true) rfl rfl rfl) rfl rfl rfl ((op_eql rfl (ev2 rfl) (ev1 rfl)).cast (d' := .val (.bool true)) (by kernel_rfl)) (by simp only [upd, zaa, za]; exact rfl) ?_
  refine zab rfl rfl rfl ((op_and rfl (ev1 rfl) (ev3 rfl (fun _ => rfl))).cast (d' := .val (.bool true)) (by rfl)) ?_
  refine zab rfl rfl rfl (zac (.inl rfl) (ev1 rfl)) ?_
  refine walk_k (gd_t (b := true) rfl rfl rfl) rfl rfl rfl (zac (.inl rfl) (ev1 rfl)) (by simp only [upd, zaa, za]; exact rfl) ?_
  refine walk_k (gd_t (b := true) rfl rfl rfl) rfl rfl rfl ((op_eql rfl (ev2 rfl) (ev1 rfl)).cast (d' := .val (.bool true)) (by kernel_rfl)) (by simp only [upd, zaa, za]; exact rfl) ?_
  refine zab rfl rfl rfl ((op_and rfl (ev1 rfl) (ev3 rfl (fun _ => rfl))).cast (d' := .val (.bool true)) (by rfl)) ?_
  refine zab rfl rfl rfl (zac (.inl rfl) (ev1 rfl)) ?_
  refine walk_k (gd_t (b := true) rfl rfl rfl) rfl rfl rfl (zac (.inl rfl) (ev1 rfl)) (by simp only [upd, zaa, za]; exact rfl) ?_
  refine walk_k (gd_t (b := true) rfl rfl rfl) rfl rfl rfl ((op_eql rfl (ev2 rfl) (ev1 rfl)).cast (d' := .val (.bool true)) (by kernel_rfl)) (by simp only [upd, zaa, za]; exact rfl) ?_
  refine zab rfl rfl rfl ((op_and rfl (ev1 rfl) (ev3 rfl (fun _ => rfl))).cast (d' := .val (.bool true)) (by rfl)) ?_
  refine zab rfl rfl rfl (zac (.inl rfl) (ev1 rfl)) ?_
  refine walk_k (gd_t (b := true) rfl rfl rfl) rfl rfl rfl (zac (.inl rfl) (ev1 rfl)) (by simp only [upd, zaa, za]; exact rfl) ?_
  refine walk_k (gd_t (b := true) rfl rfl rfl) rfl rfl rfl ((op_eql rfl (ev2 rfl) (ev1 rfl)).cast (d' := .val (.bool true)) (by kernel_rfl)) (by simp only [upd, zaa, za]; exact rfl) ?_
  refine zab rfl rfl rfl ((op_and rfl (ev1 rfl) (ev3 rfl (fun _ => rfl))).cast (d' := .val (.bool true)) (by rfl)) ?_
  refine zab rfl rfl rfl (zac (.inl rfl) (ev1 rfl)) ?_
  refine walk_k (gd_t (b := true) rfl rfl rfl) rfl rfl rfl (zac (.inl rfl) (ev1 rfl)) (by simp only [upd, zaa, za]; exact rfl) ?_
  refine walk_k (gd_t (b := true) rfl rfl rfl) rfl rfl rfl (zac (.inl rfl) (ev1 rfl)) (by simp only [upd, zaa, za]; exact rfl) ?_
  refine walk_k (gd_t (b := true) rfl rfl rfl) rfl rfl rfl (zah [] [] [] rfl (ev1 rfl) (ec (ev2 rfl) (ec (ev2 rfl) en)) rfl rfl (differ_d 1 1 _ _ wkT (drwC false 1 1 wkT redC k7a) (dpR_ok _) (dpR_ok _) wkT_ok (wkT_ok.puts _)) rfl rfl rfl rfl rfl rfl) (by simp only [upd, zaa, za]; exact rfl) ?_
  refine walk_k (gd_t (b := true) rfl rfl rfl) rfl rfl rfl (op_len rfl sl48 (ev2 rfl)) (by simp only [upd, zaa, za]; exact rfl) ?_
  refine walk_k (gd_t (b := true) rfl rfl rfl) rfl rfl rfl ((op_eql rfl (ev2 rfl) (ev1 rfl)).cast (d' := .val (.bool true)) (by rw [w7_na]; rfl)) (by simp only [upd, zaa, za]; exact rfl) ?_
  refine zab rfl rfl rfl ((op_and rfl (ev1 rfl) (ev3 rfl (fun _ => rfl))).cast (d' := .val (.bool true)) (by rfl)) ?_
  refine zab rfl rfl rfl (zac (.inl rfl) (ev1 rfl)) ?_
  refine walk_k (gd_t (b := true) rfl rfl rfl) rfl rfl rfl (zac (.inl rfl) (ev1 rfl)) (by simp only [upd, zaa, za]; exact rfl) ?_
  refine walk_k (gd_t (b := true) rfl rfl rfl) rfl rfl rfl (zac (.inl rfl) (ev1 rfl)) (by simp only [upd, zaa, za]; exact rfl) ?_
  refine walk_k (gd_t (b := true) rfl rfl rfl) rfl rfl rfl (zah [] [] [] rfl (ev1 rfl) (ec (ev2 rfl) (ec (ev2 rfl) en)) rfl rfl (differ_d 1 1 _ _ wkT (drwC false 1 1 wkT redC k7b) (dpR_ok _) (dpR_ok _) wkT_ok (wkT_ok.puts _)) rfl rfl rfl rfl rfl rfl) (by simp only [upd, zaa, za]; exact rfl) ?_
  refine walk_k (gd_t (b := true) rfl rfl rfl) rfl rfl rfl (op_len rfl sl48 (ev2 rfl)) (by simp only [upd, zaa, za]; exact rfl) ?_
  refine walk_k (gd_t (b := true) rfl rfl rfl) rfl rfl rfl ((op_eql rfl (ev2 rfl) (ev1 rfl)).cast (d' := .val (.bool true)) (by rw [w7_nb]; rfl)) (by simp only [upd, zaa, za]; exact rfl) ?_
  refine zab rfl rfl rfl ((op_and rfl (ev1 rfl) (ev3 rfl (fun _ => rfl))).cast (d' := .val (.bool true)) (by rfl)) ?_
  refine zab rfl rfl rfl (zac (.inl rfl) (ev1 rfl)) ?_
  refine walk_k (gd_t (b := true) rfl rfl rfl) rfl rfl rfl (zac (.inl rfl) (ev1 rfl)) (by simp only [upd, zaa, za]; exact rfl) ?_
  refine walk_k (gd_t (b := true) rfl rfl rfl) rfl rfl rfl (zac (.inl rfl) (ev1 rfl)) (by simp only [upd, zaa, za]; exact rfl) ?_
  refine walk_k (gd_t (b := true) rfl rfl rfl) rfl rfl rfl (zah [] [] [] rfl (ev1 rfl) (ec (ev2 rfl) (ec (ev2 rfl) en)) rfl rfl (differ_d 1 1 _ _ wkT (drwC false 1 1 wkT redC k7c) (dpR_ok _) (dpR_ok _) wkT_ok (wkT_ok.puts _)) rfl rfl rfl rfl rfl rfl) (by simp only [upd, zaa, za]; exact rfl) ?_
  refine walk_k (gd_t (b := true) rfl rfl rfl) rfl rfl rfl (op_len rfl sl48 (ev2 rfl)) (by simp only [upd, zaa, za]; exact rfl) ?_
  refine walk_k (gd_t (b := true) rfl rfl rfl) rfl rfl rfl ((op_eql rfl (ev2 rfl) (ev1 rfl)).cast (d' := .val (.bool true)) (by rw [w7_nc]; rfl)) (by simp only [upd, zaa, za]; exact rfl) ?_
  refine zab rfl rfl rfl ((op_and rfl (ev1 rfl) (ev3 rfl (fun _ => rfl))).cast (d' := .val (.bool true)) (by rfl)) ?_
  refine zab rfl rfl rfl (zac (.inl rfl) (ev1 rfl)) ?_
  refine walk_k (gd_t (b := true) rfl rfl rfl) rfl rfl rfl (zac (.inl rfl) (ev1 rfl)) (by simp only [upd, zaa, za]; exact rfl) ?_
  refine walk_k (gd_t (b := true) rfl rfl rfl) rfl rfl rfl (zac (.inl rfl) (ev1 rfl)) (by simp only [upd, zaa, za]; exact rfl) ?_
  refine walk_k (gd_t (b := true) rfl rfl rfl) rfl rfl rfl (zah [] [] [] rfl (ev1 rfl) (ec (ev2 rfl) (ec (ev2 rfl) en)) rfl rfl (differ_d 1 1 _ _ wkT (drwC false 1 1 wkT redC k7d) (dpR_ok _) (dpR_ok _) wkT_ok (wkT_ok.puts _)) rfl rfl rfl rfl rfl rfl) (by simp only [upd, zaa, za]; exact rfl) ?_
  refine walk_k (gd_t (b := true) rfl rfl rfl) rfl rfl rfl (op_len rfl sl48 (ev2 rfl)) (by simp only [upd, zaa, za]; exact rfl) ?_
  refine walk_k (gd_t (b := true) rfl rfl rfl) rfl rfl rfl ((op_eql rfl (ev2 rfl) (ev1 rfl)).cast (d' := .val (.bool true)) (by rw [w7_nd]; rfl)) (by simp only [upd, zaa, za]; exact rfl) ?_
  refine zab rfl rfl rfl ((op_and rfl (ev1 rfl) (ev3 rfl (fun _ => rfl))).cast (d' := .val (.bool true)) (by rfl)) ?_
  refine zab rfl rfl rfl (zac (.inr rfl) (ev1 rfl)) ?_
  refine zae ?_
  refine dwp_ret ?_
  refine kend [0] (rs1 rfl (rv_t rfl)) rfl rfl ?_ ⟨rfl, trivial⟩
  rfl
end Go.Proofs.YtjgnalfnginjbaaGreatDoor
namespace Go.Proofs.YtjgnalfnginjbaaGreatDoor
set_option maxRecDepth 4000
set_option linter.unusedVariables false
set_option linter.unusedSimpArgs false
open Go.RowKit
theorem drwC_ok {w h : Int} {ts : List TL} (hc : CvOk w h ts) (k : Bool) (c : C4) (l : List Sp) : CvOk w h (drwC k w h ts c l) := hc.puts _
end Go.Proofs.YtjgnalfnginjbaaGreatDoor
namespace Go.Proofs.YtjgnalfnginjbaaGreatDoor
set_option maxRecDepth 4000
set_option linter.unusedVariables false
set_option linter.unusedSimpArgs false
open Go.RowKit
open Go.ChangeShapes Go.WideShapes Go.ChangeAt Go.Joins Go.Deep
theorem fits_prim_i64 {v : Value} (h : (Prim.int .i64).is v) : ∃ a : Int, (-9223372036854775808 ≤ a ∧ a ≤ 9223372036854775807) ∧ v = .int .i64 a := by
  obtain ⟨x, rfl, w⟩ := h
  exact ⟨x, by simpa [Lit.wf, IntKind.min, IntKind.max, IntKind.signed, IntKind.bits] using w, rfl⟩
theorem fitsP_append : ∀ (a b : List Prim) (cs : List Value), fitsP (a ++ b) cs → ∃ c d, cs = c ++ d ∧ fitsP a c ∧ fitsP b d
  | [], _, cs, h => ⟨[], cs, rfl, trivial, h⟩
  | _ :: _, _, [], h => by cases h
  | p :: a, b, v :: cs, h => by
    obtain ⟨h1, h2⟩ := h
    obtain ⟨c, d, rfl, h3, h4⟩ := fitsP_append a b cs h2
    exact ⟨v :: c, d, rfl, ⟨h1, h3⟩, h4⟩
theorem fitsP_cons {p : Prim} {ps : List Prim} {cs : List Value} (h : fitsP (p :: ps) cs) : ∃ v r, cs = v :: r ∧ p.is v ∧ fitsP ps r := by
  cases cs with
  | nil => cases h
  | cons v r => exact ⟨v, r, rfl, h.1, h.2⟩
theorem fitsP_nil {cs : List Value} (h : fitsP [] cs) : cs = [] := by
  cases cs with
  | nil => rfl
  | cons v r => cases h
theorem fits_i64 : ∀ cs, fitsP [.int .i64] cs → ∃ a : Int, (-9223372036854775808 ≤ a ∧ a ≤ 9223372036854775807) ∧ cs = [.int .i64 a]
  | [c0], h => by
    obtain ⟨h0, _⟩ := h
    obtain ⟨a, w, rfl⟩ := fits_prim_i64 h0
    exact ⟨a, w, rfl⟩
  | [], h => by cases h
  | _ :: _ :: _, h => by obtain ⟨_, h⟩ := h; cases h
theorem fits_u8 {v : Value} (h : (Prim.int .u8).is v) : ∃ a : Int, (0 ≤ a ∧ a ≤ 255) ∧ v = .int .u8 a := by
  obtain ⟨x, rfl, w⟩ := h
  exact ⟨x, by simpa [Lit.wf, IntKind.min, IntKind.max, IntKind.signed, IntKind.bits] using w, rfl⟩
theorem fits_c4 (cs : List Value) (h : fitsP [.int .u8, .int .u8, .int .u8, .int .u8] cs) : ∃ a : C4, a.rng ∧ cs = c4 a := by
  obtain ⟨x0, r, rfl, h0, h⟩ := fitsP_cons h
  obtain ⟨x1, r, rfl, h1, h⟩ := fitsP_cons h
  obtain ⟨x2, r, rfl, h2, h⟩ := fitsP_cons h
  obtain ⟨x3, r, rfl, h3, h⟩ := fitsP_cons h
  obtain rfl := fitsP_nil h
  obtain ⟨a0, w0, rfl⟩ := fits_u8 h0
  obtain ⟨a1, w1, rfl⟩ := fits_u8 h1
  obtain ⟨a2, w2, rfl⟩ := fits_u8 h2
  obtain ⟨a3, w3, rfl⟩ := fits_u8 h3
  exact ⟨⟨a0, a1, a2, a3⟩, ⟨w0, w1, w2, w3⟩, rfl⟩
def P2.rng (p : P2) : Prop := (-9223372036854775808 ≤ p.x ∧ p.x ≤ 9223372036854775807) ∧ (-9223372036854775808 ≤ p.y ∧ p.y ≤ 9223372036854775807)
theorem fits_p2 (cs : List Value) (h : fitsP [.int .i64, .int .i64] cs) : ∃ p : P2, p.rng ∧ cs = p2 p := by
  obtain ⟨x0, r, rfl, h0, g1⟩ := fitsP_cons h
  obtain ⟨x1, r, rfl, h1, g2⟩ := fitsP_cons g1
  obtain rfl := fitsP_nil g2
  obtain ⟨x, wx, rfl⟩ := fits_prim_i64 h0
  obtain ⟨y, wy, rfl⟩ := fits_prim_i64 h1
  exact ⟨⟨x, y⟩, ⟨wx, wy⟩, rfl⟩
theorem fits_cs : ∀ (n : Nat) (cs : List Value), fitsP (List.replicate n [.int .u8, .int .u8, .int .u8, .int .u8]).flatten cs → ∃ l : List C4, l.length = n ∧ (∀ c ∈ l, c.rng) ∧ cs = l.flatMap c4
  | 0, [], _ => ⟨[], rfl, (fun c h => by cases h), rfl⟩
  | 0, _ :: _, h => by cases h
  | n + 1, cs, h => by
    rw [List.replicate_succ, List.flatten_cons] at h
    obtain ⟨a, b, rfl, h1, h2⟩ := fitsP_append _ _ _ h
    obtain ⟨c, hc, rfl⟩ := fits_c4 _ h1
    obtain ⟨l, hl, hr, rfl⟩ := fits_cs n b h2
    exact ⟨c :: l, by rw [List.length_cons, hl], fun d hd => (List.mem_cons.1 hd).elim (fun e => e ▸ hc) (hr d), rfl⟩
theorem fits_tl (cs : List Value) (h : fitsP (List.replicate 64 [.int .u8, .int .u8, .int .u8, .int .u8]).flatten cs) : ∃ t : TL, (∀ c ∈ t.l, c.rng) ∧ cs = tc t := by
  obtain ⟨l, hl, hr, rfl⟩ := fits_cs 64 cs h
  exact ⟨⟨l, hl⟩, hr, rfl⟩
theorem opens_i64 {w : World} : Opens Tryz.prog w 3 (fun a : Int => [.val (.int .i64 a)]) (fun a => -9223372036854775808 ≤ a ∧ a ≤ 9223372036854775807) := opens_flat 1 (fun a : Int => [.int .i64 a]) _ fits_i64 (by kernel_rfl)
theorem opens_rowz {α : Type} {w : World} {t e : TypeId} {ps : List Prim} {sz : Nat} (f : Nat) (en : α → List Value) (ok : α → Prop) (hP : ∀ cs, fitsP ps cs → ∃ a, ok a ∧ cs = en a) (ht : Tryz.prog.underlying t = some (.slice e)) (hf : flatT Tryz.prog f e = some ps) (hz : ps.length = sz) (hc : Tryz.prog.cellsOf e = sz) (hpos : 0 < sz)
    (hen : ∀ a, (en a).length = sz) : Opens Tryz.prog w t (fun l : List α => [.slf sz l.length (l.flatMap en)]) (fun l => ∀ a ∈ l, ok a) := by
  subst hz
  exact opens_row f en ok hP ht hf hc hpos hen
abbrev kT : List Prim := (List.replicate 64 [.int .u8, .int .u8, .int .u8, .int .u8]).flatten
theorem kT_len : kT.length = 256 := by kernel_rfl
theorem opens_tls {w : World} : Opens Tryz.prog w 22 (fun l : List TL => [.slf 256 l.length (l.flatMap tc)]) (fun l => ∀ x ∈ l, ∀ c ∈ x.l, c.rng) :=
  opens_rowz 4 tc (fun t => ∀ c ∈ t.l, c.rng) fits_tl Tryz.underlying22 (show flatT Tryz.prog 4 73 = some kT by kernel_rfl) kT_len (by kernel_rfl) (by decide) tc_len
abbrev shL (a : Int × Int × List TL) : List D := [.val (.int .i64 a.1), .val (.int .i64 a.2.1), .slf 256 a.2.2.length (a.2.2.flatMap tc)]
theorem opens_cv {w : World} : Opens Tryz.prog w 24 shL (fun a => tsRng a.2.2) :=
  opens_map (fun a : Int × Int × List TL × Unit => (a.1, a.2.1, a.2.2.1)) (opens_struct Tryz.underlying24 (by kernel_rfl) (opensF_cons (k := 1) rfl (by kernel_rfl) opens_i64 (opensF_cons (k := 1) rfl (by kernel_rfl) opens_i64 (opensF_cons (k := 1) rfl (by kernel_rfl) opens_tls opensF_nil)))) (fun _ => rfl) (fun _ h => h.2.2.1)
def Sp.rng (s : Sp) : Prop := (-9223372036854775808 ≤ s.y ∧ s.y ≤ 9223372036854775807) ∧ (-9223372036854775808 ≤ s.f ∧ s.f ≤ 9223372036854775807) ∧ -9223372036854775808 ≤ s.t ∧ s.t ≤ 9223372036854775807
end Go.Proofs.YtjgnalfnginjbaaGreatDoor
namespace Go.Proofs.YtjgnalfnginjbaaGreatDoor
set_option maxRecDepth 4000
set_option linter.unusedVariables false
set_option linter.unusedSimpArgs false
open Go.RowKit
open Go.ChangeShapes Go.WideShapes Go.ChangeAt Go.Joins Go.Deep
theorem red_cells {w : World} {fuel : Nat} {cs : List Value} {p : List MemPlace} (h : DataW.trod (fun _ => ()) Tryz.prog w 0 (fun _ => true) false fuel 27 cs = some (Rows.laid_gesso_gessolaw07_red, p)) : cs = c4 redC := by
  obtain ⟨xs, n, _, hx, hl, hxl, hf⟩ := DataW.trod_struct Tryz.underlying27 h
  have hc : Tryz.prog.cellsOf 5 = 1 := by kernel_rfl
  have hl4 : cs.length = 4 := hl.trans (by kernel_rfl)
  match cs, hl4, xs, hxl with
  | [c0, c1, c2, c3], _, [x0, x1, x2, x3], _ =>
    have e0 : DataW.trod (fun _ => ()) Tryz.prog w 0 (fun _ => true) false n 5 (([c0, c1, c2, c3].drop 0).take (Tryz.prog.cellsOf 5)) = some x0 := hf 0 _ rfl
    have e1 : DataW.trod (fun _ => ()) Tryz.prog w 0 (fun _ => true) false n 5 (([c0, c1, c2, c3].drop 1).take (Tryz.prog.cellsOf 5)) = some x1 := hf 1 _ rfl
    have e2 : DataW.trod (fun _ => ()) Tryz.prog w 0 (fun _ => true) false n 5 (([c0, c1, c2, c3].drop 2).take (Tryz.prog.cellsOf 5)) = some x2 := hf 2 _ rfl
    have e3 : DataW.trod (fun _ => ()) Tryz.prog w 0 (fun _ => true) false n 5 (([c0, c1, c2, c3].drop 3).take (Tryz.prog.cellsOf 5)) = some x3 := hf 3 _ rfl
    rw [hc] at e0 e1 e2 e3
    obtain ⟨n0, q0, w0, _⟩ := DataW.trod_int Tryz.underlying5 e0
    obtain ⟨n1, q1, w1, _⟩ := DataW.trod_int Tryz.underlying5 e1
    obtain ⟨n2, q2, w2, _⟩ := DataW.trod_int Tryz.underlying5 e2
    obtain ⟨n3, q3, w3, _⟩ := DataW.trod_int Tryz.underlying5 e3
    subst w0 w1 w2 w3
    have hx := congrArg Prod.fst hx
    simp [Rows.laid_gesso_gessolaw07_red] at hx
    simp at q0 q1 q2 q3
    obtain ⟨a0, a1, a2, a3⟩ := hx
    subst q0 q1 q2 q3 a0 a1 a2 a3
    rfl
theorem red_glob (W : World) (h : laidMetH Tryz.prog [("gesso/gessolaw07.red", Rows.laid_gesso_gessolaw07_red)] W) : globMet W 0 (c4 redC) := by
  unfold laidMetH at h
  rw [show (([("gesso/gessolaw07.red", Rows.laid_gesso_gessolaw07_red)] : List (String × DataW Unit)).filter fun x => x.2.handleName?.isSome) = [] from rfl] at h
  obtain ⟨ps, hv, _⟩ := h
  obtain ⟨g', t', cs, fuel, p, h1, h2, h3, h4⟩ := laid_reads hv "gesso/gessolaw07.red" _ (List.mem_cons_self ..)
  have hg : Tryz.prog.globalNamed "gesso/gessolaw07.red" = some 0 := by kernel_rfl
  obtain rfl := Option.some.inj (hg.symm.trans h1)
  have hty : (Tryz.prog.globals[0]?).map (·.type) = some 27 := by kernel_rfl
  obtain rfl := Option.some.inj (hty.symm.trans h2)
  have hcs := red_cells h4
  unfold World.var? at h3
  rw [hg] at h3
  simp only [Option.bind_some] at h3
  split at h3
  · rename_i cs' T fz hb
    obtain rfl := Option.some.inj h3
    have hlt := (Array.getElem?_eq_some_iff.1 hb).1
    refine ⟨hlt, ?_⟩
    have := cellsAt_block hb 0
    rw [List.drop_zero, hcs] at this
    exact this
  · cases h3
end Go.Proofs.YtjgnalfnginjbaaGreatDoor
namespace Go.Proofs.YtjgnalfnginjbaaGreatDoor
set_option maxRecDepth 4000
set_option linter.unusedVariables false
set_option linter.unusedSimpArgs false
open Go.RowKit
theorem tb47 : tyB Tryz.prog 47 = some (true, 6) := by kernel_rfl
theorem swB_iff {n : Int} {l : List P2} : swB n l = true ↔ (0 ≤ n ∧ n ≤ 15) ∧ ∀ p ∈ l, drwB p = true := by
  unfold swB drwL
  simp only [Bool.and_eq_true, decide_eq_true_eq, List.all_eq_true]
theorem swL_has {r : Bool} {n : Int} {l : List P2} (h : swB n l = true) (x y : Int) : hasS (swL r n l) x y ↔ ∃ p ∈ l, ((-(n.toNat : Int) ≤ x - p.x ∧ x - p.x ≤ n.toNat) ∧ -(n.toNat : Int) ≤ y - p.y ∧ y - p.y ≤ n.toNat) ∧ inBr r n.toNat ⟨x - p.x, y - p.y⟩ = true := by
  rw [(sw_ok (r := r) h).1]
  exact (swA_ok r n.toNat l).2 x y
end Go.Proofs.YtjgnalfnginjbaaGreatDoor
namespace Go.Proofs.YtjgnalfnginjbaaGreatDoor
set_option maxRecDepth 4000
set_option linter.unusedVariables false
set_option linter.unusedSimpArgs false
open Go.RowKit
def fewO (l : List P2) : List P2 := l.take (min l.length 6)
theorem fewO_len (l : List P2) : (fewO l).length ≤ 6 := by unfold fewO; rw [List.length_take]; omega
set_option maxRecDepth 4000 in
set_option maxHeartbeats 1000000 in
theorem cloneP (l : List P2) (h : l.length ≤ 1000000) : DFun Tryz.prog 22 [.slf 2 l.length (l.flatMap p2)] [] (.arr 0) [.arr 51 2 l.length (l.flatMap p2)] := by
  refine dcalls_go (N := 8) 0 (by kernel_rfl) Tryz.func22 rfl rfl rfl (by simp only [fr0, Nat.zero_add, Nat.reduceAdd]; exact rfl) rfl fun s0 hs0 => ?_
  refine dwp_len (t := 0) rfl fun hl0 hL0 => ?_
  refine zaf ?_
  refine zad ?_
  refine zab rfl rfl rfl (zac (.inr rfl) (ev1 rfl)) ?_
  refine zae ?_
  refine zaf ?_
  refine zaf ?_
  refine zad ?_
  refine zab rfl rfl rfl (zac (.inl rfl) (ev1 rfl)) ?_
  refine walk_nil? rfl rfl rfl rfl sl48 (ev1 rfl) fun nb4 hnb4 => ?_
  refine zae ?_
  refine dwp_cond rfl (fun c1 => ?_) (fun c1 => ?_)
  · try simp only [decide_eq_true_eq, decide_eq_false_iff_not, beq_iff_eq, bne_iff_ne, beq_eq_false_iff_ne, bne_eq_false_iff_eq, Bool.not_eq_true', Bool.not_eq_false', Bool.and_eq_true, Bool.or_eq_true, Bool.or_eq_false_iff, ne_eq, Decidable.not_not, Int.not_lt, Int.not_le] at c1
    refine zaf ?_
    refine zad ?_
    refine zab rfl rfl rfl (zac (.inr rfl) (ev1 rfl)) ?_
    refine zae ?_
    refine dwp_adopt 2 51 2 rfl rfl rfl ?_
    refine dwp_ret ?_
    refine kend [0] (rs1 rfl (rv_t rfl)) rfl rfl ?_ ⟨?_, trivial⟩
    rfl
    exact (by obtain ⟨h1, h2⟩ := hnb4 c1; simp_all [MFits, vwB])
  · try simp only [decide_eq_true_eq, decide_eq_false_iff_not, beq_iff_eq, bne_iff_ne, beq_eq_false_iff_ne, bne_eq_false_iff_eq, Bool.not_eq_true', Bool.not_eq_false', Bool.and_eq_true, Bool.or_eq_true, Bool.or_eq_false_iff, ne_eq, Decidable.not_not, Int.not_lt, Int.not_le] at c1
    refine zal ?_
    refine zaf ?_
    refine zai 2 (by simp only [holes, List.cons_append, List.nil_append]; exact rfl) ?_
    refine zad ?_
    refine zaj rfl rfl rfl (op_bsa (ps := []) 0 rfl sl48 zr51 rfl vn rfl (by decide) (by decide) rfl) (by simp only [upd, zaa, za]; exact rfl) ?_
    refine zab rfl rfl rfl (zac (.inl rfl) (ev1 rfl)) ?_
    refine zaj rfl rfl rfl (op_app (j := 1) rfl sl48 zr51 rfl (ev1 rfl) (ev1 rfl) src_slf rfl rfl (fun _ => flat_oc (fun _ => rfl) l) (fun _ => ⟨by omega, by omega⟩)) (by simp only [upd, zaa, za]; exact rfl) ?_
    refine zab rfl rfl rfl (zac (.inr rfl) (ev1 rfl)) ?_
    refine zae ?_
    refine dwp_ret ?_
    refine kend [1] (rs1 rfl (rv_t rfl)) rfl rfl ?_ ⟨?_, trivial⟩
    rfl
    simp [vwB]
end Go.Proofs.YtjgnalfnginjbaaGreatDoor
namespace Go.Proofs.YtjgnalfnginjbaaGreatDoor
set_option maxRecDepth 4000
set_option linter.unusedVariables false
set_option linter.unusedSimpArgs false
open Go.RowKit
open Go.ChangeShapes Go.WideShapes Go.ChangeAt Go.Joins Go.Deep
def brC (a : C4 × Int × Bool) : List Value := [.int .u8 a.1.r, .int .u8 a.1.g, .int .u8 a.1.b, .int .u8 a.1.a, .int .i64 a.2.1, .bool a.2.2]
theorem fits_brc (cs : List Value) (h : fitsP [.int .u8, .int .u8, .int .u8, .int .u8, .int .i64, .bool] cs) : ∃ a : C4 × Int × Bool, a.1.rng ∧ cs = brC a := by
  obtain ⟨x0, r, rfl, h0, h⟩ := fitsP_cons h
  obtain ⟨x1, r, rfl, h1, h⟩ := fitsP_cons h
  obtain ⟨x2, r, rfl, h2, h⟩ := fitsP_cons h
  obtain ⟨x3, r, rfl, h3, h⟩ := fitsP_cons h
  obtain ⟨x4, r, rfl, h4, h⟩ := fitsP_cons h
  obtain ⟨x5, r, rfl, h5, h⟩ := fitsP_cons h
  obtain rfl := fitsP_nil h
  obtain ⟨a0, w0, rfl⟩ := fits_u8 h0
  obtain ⟨a1, w1, rfl⟩ := fits_u8 h1
  obtain ⟨a2, w2, rfl⟩ := fits_u8 h2
  obtain ⟨a3, w3, rfl⟩ := fits_u8 h3
  obtain ⟨n, wn, rfl⟩ := fits_prim_i64 h4
  obtain ⟨b, rfl⟩ := h5
  exact ⟨(⟨a0, a1, a2, a3⟩, n, b), ⟨w0, w1, w2, w3⟩, rfl⟩
end Go.Proofs.YtjgnalfnginjbaaGreatDoor
