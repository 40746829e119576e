/- what is refused; numbers are few; parts, and rims; regions, filled, and steps; parts; how many parts; rims; rims gone through; rims, whole; what holds ahead of each law: flood; what holds ahead of each law: flood, whole; canvases of the laws; how many steps there are; the law: regions grow; the law: regions grow, whole; arguments that are opened. No condition. -/
import Derived.Test.YtfnhckildfbikaaGreatQ5
import Derived.Test.YtfnhckildfbikaaGreatRows
namespace Go.Proofs.YtfnhckildfbikaaGreat
set_option maxRecDepth 4000
set_option linter.unusedVariables false
set_option linter.unusedSimpArgs false
open Go.RowKit
attribute [local irreducible] zFD srL goF bfsF
def iV (z : Int) : List Value := [.int .i64 z]
def badT (t : Int) : Bool := decide (t < 0) || decide (1020 < t)
theorem badT_no {t : Int} (h : badT t = false) : 0 ≤ t ∧ t ≤ 1020 := by unfold badT at h; simp at h; omega
def refE (w h : Int) (tols : List Int) (ps : List P2) : Int := if tols.any badT = true then 2 else if ps.any (fun p => !onP w h p) = true then 4 else 0
set_option maxRecDepth 4000 in
set_option maxHeartbeats 1000000 in
theorem rf1_d (t : Int) : DFun Tryz.prog 57 [.val (.int .i64 t)] [] (.val (.bool (badT t))) [] := by
  refine zan (N := 9) 0 (by kernel_rfl) Tryz.func57 rfl rfl rfl (by simp only [fr0, Nat.zero_add, Nat.reduceAdd]; exact rfl) rfl fun s0 hs0 => ?_
  refine zaf ?_
  refine zac ?_
  refine zab rfl rfl rfl (zad (.inr rfl) (ev1 rfl)) ?_
  refine zae ?_
  refine zaf ?_
  refine zac ?_
  refine zab rfl rfl rfl (zad (.inl rfl) (ev1 rfl)) ?_
  refine zab rfl rfl rfl (op_lss rfl (ev1 rfl) (ev1 rfl)) ?_
  refine zab rfl rfl rfl (zad (.inl rfl) (ev1 rfl)) ?_
  refine walk_gr (gd_f rfl rfl rfl) rfl rfl rfl (zad (.inl rfl) (ev1 rfl)) ?_
  refine walk_gr (gd_f rfl rfl rfl) rfl rfl rfl (op_gtr rfl (ev2 rfl) (ev1 rfl)) ?_
  refine zab rfl rfl rfl (op_or rfl (ev1 rfl) (ev3 rfl id)) ?_
  refine zab rfl rfl rfl (zad (.inr rfl) (ev1 rfl)) ?_
  refine zae ?_
  refine dwp_ret ?_
  refine kend0 (rs1 rfl (rv_t rfl)) rfl ?_
  rfl
set_option maxRecDepth 4000 in
set_option maxHeartbeats 1000000 in
theorem rf2_d (w h : Int) (ds : List D) (ts : List TL) (hr : RowOk ds ts) (hc : CvOk w h ts) (p : P2) : DFun Tryz.prog 59 [.val (.agg #[.int .i64 p.x, .int .i64 p.y]), .loc 0 0] [.mix 29 [cvD w h ds]] (.val (.bool (!onP w h p))) [.mix 29 [cvD w h ds]] := by
  refine zan (N := 17) 1 (by kernel_rfl) Tryz.func59 rfl rfl rfl (by simp only [fr0, Nat.zero_add, Nat.reduceAdd]; exact rfl) rfl fun s0 hs0 => ?_
  refine zaf ?_
  refine zah 1 (by simp only [holes, List.cons_append, List.nil_append]; exact rfl) ?_
  refine zac ?_
  refine zaj rfl rfl rfl (op_boxa 1 rfl (ev1 rfl) rfl) (by simp only [upd, zaa, za]; exact rfl) ?_
  refine zab rfl rfl rfl (zad (.inr rfl) (ev1 rfl)) ?_
  refine zae ?_
  refine zaf ?_
  refine zah 1 (by simp only [holes, List.cons_append, List.nil_append]; exact rfl) ?_
  refine zac ?_
  refine zab rfl rfl rfl (op_ldm rfl tb29 (ev1 rfl) rfl rfl) ?_
  refine zab rfl rfl rfl (op_fa rfl fo26_0 (ev1 rfl)) ?_
  refine zab rfl rfl rfl (op_ldo rfl tb3 (ev1 rfl) rfl rfl) ?_
  refine zab rfl rfl rfl (op_fa rfl fo26_1 (ev1 rfl)) ?_
  refine zab rfl rfl rfl (op_ldo rfl tb3 (ev1 rfl) rfl rfl) ?_
  refine zab rfl rfl rfl (zai [] [] [] rfl (ev1 rfl) (ec (ev1 rfl) (ec (ev1 rfl) (ec (ev1 rfl) en))) rfl rfl (at_d w h ds ts hr hc p.x p.y) rfl rfl rfl rfl rfl rfl) ?_
  refine zab rfl rfl rfl (zad (.inl rfl) (ev1 rfl)) ?_
  refine zab rfl rfl rfl (op_ext rfl (ev1 rfl) rfl) ?_
  refine zab rfl rfl rfl (op_ext rfl (ev1 rfl) rfl) ?_
  refine zaj rfl rfl rfl (op_alloc 2 rfl zr44 rfl) (by simp only [upd, zaa, za]; exact rfl) ?_
  refine walk_s rfl rfl (op_stwa rfl tb44 (ev1 rfl) (ev1 rfl) rfl rfl rfl rfl) (by simp only [upd, zaa, za]; exact rfl) ?_
  refine zab rfl rfl rfl (zad (.inr rfl) (ev1 rfl)) ?_
  refine zae ?_
  refine zaf ?_
  refine zac ?_
  refine zab rfl rfl rfl (zad (.inl rfl) (ev1 rfl)) ?_
  refine zab rfl rfl rfl (op_not rfl (ev1 rfl)) ?_
  refine zab rfl rfl rfl (zad (.inr rfl) (ev1 rfl)) ?_
  refine zae ?_
  refine dwp_ret ?_
  refine kend [0] (rs1 rfl (rv_t rfl)) rfl rfl ?_ ⟨rfl, trivial⟩
  rfl
set_option maxRecDepth 4000 in
set_option maxHeartbeats 1000000 in
theorem iixi_d (l : List Int) : DFun Tryz.prog 81 [.slf 1 l.length (l.flatMap iV), .fn (.func 57) [] []] [] (.val (.int .i64 (ixZ badT l))) [] := by
  refine zan (N := 19) 0 (by kernel_rfl) Tryz.func81 rfl rfl rfl (by simp only [fr0, Nat.zero_add, Nat.reduceAdd]; exact rfl) rfl fun s0 hs0 => ?_
  refine dwp_len (t := 0) rfl fun hl0 hL0 => ?_
  refine zaf ?_
  refine zac ?_
  refine zab rfl rfl rfl (zad (.inr rfl) (ev1 rfl)) ?_
  refine zae ?_
  refine zaf ?_
  refine zaf ?_
  refine zac ?_
  refine zab rfl rfl rfl (zad (.inl rfl) (ev1 rfl)) ?_
  refine zab rfl rfl rfl (op_len rfl sl61 (ev1 rfl)) ?_
  refine zab rfl rfl rfl (zad (.inl rfl) (ev1 rfl)) ?_
  refine zae ?_
  refine zak ?_
  refine dwp_loopS ⟨hs0, rfl⟩ (α := Nat) (fun i => [(8, .val (.int .i64 (i : Int)))]) [(0, _), (1, _), (7, _)] (fun i => []) [] (fun i => i ≤ l.length ∧ (l.take i).any badT = false) (fun i => l.length - i) 0 [] (⟨Nat.zero_le _, rfl⟩) rfl ⟨rfl, rfl, rfl, trivial⟩ ⟨rfl, trivial⟩ trivial ?_
  intro i hx
  simp only [upd, zaa, za, List.cons_append, List.nil_append]
  obtain ⟨hi0, hno⟩ := hx
  refine zaf ?_
  refine zac ?_
  refine zab rfl rfl rfl (op_lss rfl (ev1 rfl) (ev1 rfl)) ?_
  refine zae ?_
  refine zaf ?_
  refine dwp_cond rfl (fun c1 => ?_) (fun c1 => ?_)
  · try simp only [decide_eq_true_eq, decide_eq_false_iff_not, beq_iff_eq, bne_iff_ne, beq_eq_false_iff_ne, bne_eq_false_iff_eq, Bool.not_eq_true', Bool.not_eq_false', Bool.and_eq_true, Bool.or_eq_true, Bool.or_eq_false_iff, ne_eq, Decidable.not_not, Int.not_lt, Int.not_le] at c1
    refine zal ?_
    refine zaf ?_
    refine zak ?_
    refine zaf ?_
    refine zac ?_
    refine zab rfl rfl rfl (zad (.inl rfl) (ev1 rfl)) ?_
    refine zab rfl rfl rfl (zad (.inr rfl) (ev1 rfl)) ?_
    refine zae ?_
    refine zaf ?_
    refine zac ?_
    refine zab rfl rfl rfl (zad (.inl rfl) (ev1 rfl)) ?_
    refine zab rfl rfl rfl (zad (.inl rfl) (ev1 rfl)) ?_
    refine zab rfl rfl rfl (zad (.inl rfl) (ev1 rfl)) ?_
    refine zab rfl rfl rfl (op_ixsr (j := i) rfl sl61 (ev1 rfl) (ev1 rfl) (fun _ => rfl) (by decide) (by omega) (by omega)) ?_
    refine zab rfl rfl rfl (op_ldod rfl tb3 (ev1 rfl) rfl) ?_
    refine zab rfl rfl rfl (zai [] [] [] rfl (ev1 rfl) (ec (ev1 rfl) en) rfl rfl (rf1_d _) rfl rfl rfl rfl rfl rfl) ?_
    refine zae ?_
    refine dwp_cond rfl (fun c2 => ?_) (fun c2 => ?_)
    · refine zaf ?_
      refine zac ?_
      refine zab rfl rfl rfl (zad (.inl rfl) (ev1 rfl)) ?_
      refine zab rfl rfl rfl (zad (.inr rfl) (ev1 rfl)) ?_
      refine zae ?_
      refine dwp_ret ?_
      refine kend0 (rs1 rfl (rv_t rfl)) rfl ?_
      rw [ixZ_at (by omega) hno c2]
    · refine zal ?_
      refine zac ?_
      refine zab rfl rfl rfl (op_add' rfl (ev1 rfl) (ev1 rfl) (fun _ => IntWalk.i64_in _ (by omega))) ?_
      refine zab rfl rfl rfl (zad (.inl rfl) (ev1 rfl)) ?_
      refine zae ?_
      have hi : i < l.length := by omega
      refine ⟨i + 1, [], ⟨by omega, any_add (by omega) hno c2⟩, by simp only []; omega, rfl, ⟨rfl, rfl, rfl, rfl, trivial⟩, trivial⟩
  · try simp only [decide_eq_true_eq, decide_eq_false_iff_not, beq_iff_eq, bne_iff_ne, beq_eq_false_iff_ne, bne_eq_false_iff_eq, Bool.not_eq_true', Bool.not_eq_false', Bool.and_eq_true, Bool.or_eq_true, Bool.or_eq_false_iff, ne_eq, Decidable.not_not, Int.not_lt, Int.not_le] at c1
    refine dwp_exit ?_
    refine zaf ?_
    refine zac ?_
    refine zab rfl rfl rfl (zad (.inr rfl) (ev1 rfl)) ?_
    refine zae ?_
    refine dwp_ret ?_
    rw [take_all (by omega)] at hno
    refine kend0 (rs1 rfl (rv_t rfl)) rfl ?_
    rw [ixZ_no hno]
set_option maxRecDepth 4000 in
set_option maxHeartbeats 1000000 in
theorem iixp_d (w h : Int) (ds : List D) (ts : List TL) (hr : RowOk ds ts) (hc : CvOk w h ts) (l : List P2) : DFun Tryz.prog 82 [.slf 2 l.length (l.flatMap p2), .fn (.func 59) [] [.loc 0 0]] [.mix 29 [cvD w h ds]] (.val (.int .i64 (ixZ (fun p => !onP w h p) l))) [.mix 29 [cvD w h ds]] := by
  refine zan (N := 19) 1 (by kernel_rfl) Tryz.func82 rfl rfl rfl (by simp only [fr0, Nat.zero_add, Nat.reduceAdd]; exact rfl) rfl fun s0 hs0 => ?_
  refine dwp_len (t := 0) rfl fun hl0 hL0 => ?_
  refine zaf ?_
  refine zac ?_
  refine zab rfl rfl rfl (zad (.inr rfl) (ev1 rfl)) ?_
  refine zae ?_
  refine zaf ?_
  refine zaf ?_
  refine zac ?_
  refine zab rfl rfl rfl (zad (.inl rfl) (ev1 rfl)) ?_
  refine zab rfl rfl rfl (op_len rfl sl55 (ev1 rfl)) ?_
  refine zab rfl rfl rfl (zad (.inl rfl) (ev1 rfl)) ?_
  refine zae ?_
  refine zak ?_
  refine dwp_loopS ⟨hs0, rfl⟩ (α := Nat) (fun i => [(8, .val (.int .i64 (i : Int)))]) [(0, _), (1, _), (7, _)] (fun i => []) [_] (fun i => i ≤ l.length ∧ (l.take i).any (fun p => !onP w h p) = false) (fun i => l.length - i) 0 [0] (⟨Nat.zero_le _, rfl⟩) rfl ⟨rfl, rfl, rfl, trivial⟩ ⟨rfl, trivial⟩ ⟨rfl, trivial⟩ ?_
  intro i hx
  simp only [upd, zaa, za, List.cons_append, List.nil_append]
  obtain ⟨hi0, hno⟩ := hx
  refine zaf ?_
  refine zac ?_
  refine zab rfl rfl rfl (op_lss rfl (ev1 rfl) (ev1 rfl)) ?_
  refine zae ?_
  refine zaf ?_
  refine dwp_cond rfl (fun c1 => ?_) (fun c1 => ?_)
  · try simp only [decide_eq_true_eq, decide_eq_false_iff_not, beq_iff_eq, bne_iff_ne, beq_eq_false_iff_ne, bne_eq_false_iff_eq, Bool.not_eq_true', Bool.not_eq_false', Bool.and_eq_true, Bool.or_eq_true, Bool.or_eq_false_iff, ne_eq, Decidable.not_not, Int.not_lt, Int.not_le] at c1
    refine zal ?_
    refine zaf ?_
    refine zak ?_
    refine zaf ?_
    refine zac ?_
    refine zab rfl rfl rfl (zad (.inl rfl) (ev1 rfl)) ?_
    refine zab rfl rfl rfl (zad (.inr rfl) (ev1 rfl)) ?_
    refine zae ?_
    refine zaf ?_
    refine zac ?_
    refine zab rfl rfl rfl (zad (.inl rfl) (ev1 rfl)) ?_
    refine zab rfl rfl rfl (zad (.inl rfl) (ev1 rfl)) ?_
    refine zab rfl rfl rfl (zad (.inl rfl) (ev1 rfl)) ?_
    refine zab rfl rfl rfl (op_ixsr (j := i) rfl sl55 (ev1 rfl) (ev1 rfl) (fun _ => rfl) (by decide) (by omega) (by omega)) ?_
    refine zab rfl rfl rfl (op_ldwd rfl tb26 (ev1 rfl) rfl) ?_
    refine zaj rfl rfl rfl (zai [0] [] [] rfl (ev1 rfl) (ec (ev1 rfl) en) rfl rfl (rf2_d w h ds ts hr hc _) rfl rfl rfl rfl rfl rfl) (by simp only [upd, zaa, za]; exact rfl) ?_
    refine zae ?_
    refine dwp_cond rfl (fun c2 => ?_) (fun c2 => ?_)
    · refine zaf ?_
      refine zac ?_
      refine zab rfl rfl rfl (zad (.inl rfl) (ev1 rfl)) ?_
      refine zab rfl rfl rfl (zad (.inr rfl) (ev1 rfl)) ?_
      refine zae ?_
      refine dwp_ret ?_
      refine kend [0] (rs1 rfl (rv_t rfl)) rfl rfl ?_ ⟨rfl, trivial⟩
      rw [ixZ_at (by omega) hno c2]
    · refine zal ?_
      refine zac ?_
      refine zab rfl rfl rfl (op_add' rfl (ev1 rfl) (ev1 rfl) (fun _ => IntWalk.i64_in _ (by omega))) ?_
      refine zab rfl rfl rfl (zad (.inl rfl) (ev1 rfl)) ?_
      refine zae ?_
      have hi : i < l.length := by omega
      refine ⟨i + 1, [0], ⟨by omega, any_add (by omega) hno c2⟩, by simp only []; omega, rfl, ⟨rfl, rfl, rfl, rfl, trivial⟩, ⟨rfl, trivial⟩⟩
  · try simp only [decide_eq_true_eq, decide_eq_false_iff_not, beq_iff_eq, bne_iff_ne, beq_eq_false_iff_ne, bne_eq_false_iff_eq, Bool.not_eq_true', Bool.not_eq_false', Bool.and_eq_true, Bool.or_eq_true, Bool.or_eq_false_iff, ne_eq, Decidable.not_not, Int.not_lt, Int.not_le] at c1
    refine dwp_exit ?_
    refine zaf ?_
    refine zac ?_
    refine zab rfl rfl rfl (zad (.inr rfl) (ev1 rfl)) ?_
    refine zae ?_
    refine dwp_ret ?_
    rw [take_all (by omega)] at hno
    refine kend [0] (rs1 rfl (rv_t rfl)) rfl rfl ?_ ⟨rfl, trivial⟩
    rw [ixZ_no hno]
set_option maxRecDepth 4000 in
set_option maxHeartbeats 1000000 in
theorem ctni_d (l : List Int) : DFun Tryz.prog 56 [.slf 1 l.length (l.flatMap iV), .fn (.func 57) [] []] [] (.val (.bool (l.any badT))) [] := by
  refine zan (N := 9) 0 (by kernel_rfl) Tryz.func56 rfl rfl rfl (by simp only [fr0, Nat.zero_add, Nat.reduceAdd]; exact rfl) rfl fun s0 hs0 => ?_
  refine dwp_len (t := 0) rfl fun hl0 hL0 => ?_
  refine zaf ?_
  refine zac ?_
  refine zab rfl rfl rfl (zad (.inr rfl) (ev1 rfl)) ?_
  refine zae ?_
  refine zaf ?_
  refine zac ?_
  refine zab rfl rfl rfl (zad (.inl rfl) (ev1 rfl)) ?_
  refine zab rfl rfl rfl (zad (.inl rfl) (ev1 rfl)) ?_
  refine zab rfl rfl rfl (zai [] [] [] rfl (ev1 rfl) (ec (ev1 rfl) (ec (ev1 rfl) en)) rfl rfl (iixi_d l) rfl rfl rfl rfl rfl rfl) ?_
  refine zab rfl rfl rfl (op_geq rfl (ev1 rfl) (ev1 rfl)) ?_
  refine zab rfl rfl rfl (zad (.inr rfl) (ev1 rfl)) ?_
  refine zae ?_
  refine dwp_ret ?_
  refine kend0 (rs1 rfl (rv_t rfl)) rfl ?_
  rw [ixZ_nn]
set_option maxRecDepth 4000 in
set_option maxHeartbeats 1000000 in
theorem ctnp_d (w h : Int) (ds : List D) (ts : List TL) (hr : RowOk ds ts) (hc : CvOk w h ts) (l : List P2) : DFun Tryz.prog 58 [.slf 2 l.length (l.flatMap p2), .fn (.func 59) [] [.loc 0 0]] [.mix 29 [cvD w h ds]] (.val (.bool (l.any fun p => !onP w h p))) [.mix 29 [cvD w h ds]] := by
  refine zan (N := 9) 1 (by kernel_rfl) Tryz.func58 rfl rfl rfl (by simp only [fr0, Nat.zero_add, Nat.reduceAdd]; exact rfl) rfl fun s0 hs0 => ?_
  refine dwp_len (t := 0) rfl fun hl0 hL0 => ?_
  refine zaf ?_
  refine zac ?_
  refine zab rfl rfl rfl (zad (.inr rfl) (ev1 rfl)) ?_
  refine zae ?_
  refine zaf ?_
  refine zac ?_
  refine zab rfl rfl rfl (zad (.inl rfl) (ev1 rfl)) ?_
  refine zab rfl rfl rfl (zad (.inl rfl) (ev1 rfl)) ?_
  refine zaj rfl rfl rfl (zai [0] [] [] rfl (ev1 rfl) (ec (ev1 rfl) (ec (ev1 rfl) en)) rfl rfl (iixp_d w h ds ts hr hc l) rfl rfl rfl rfl rfl rfl) (by simp only [upd, zaa, za]; exact rfl) ?_
  refine zab rfl rfl rfl (op_geq rfl (ev1 rfl) (ev1 rfl)) ?_
  refine zab rfl rfl rfl (zad (.inr rfl) (ev1 rfl)) ?_
  refine zae ?_
  refine dwp_ret ?_
  refine kend [0] (rs1 rfl (rv_t rfl)) rfl rfl ?_ ⟨rfl, trivial⟩
  rw [ixZ_nn]
set_option maxRecDepth 4000 in
set_option maxHeartbeats 1000000 in
theorem refuse_d (w h : Int) (ds : List D) (ts : List TL) (hr : RowOk ds ts) (hc : CvOk w h ts) (l : List Int) (ps : List P2) : DFun Tryz.prog 26 [cvD w h ds, .slf 1 l.length (l.flatMap iV), .slf 2 ps.length (ps.flatMap p2)] [] (.val (.int .i64 (refE w h l ps))) [] := by
  refine zan (N := 14) 0 (by kernel_rfl) Tryz.func26 rfl rfl rfl (by simp only [fr0, Nat.zero_add, Nat.reduceAdd]; exact rfl) rfl fun s0 hs0 => ?_
  refine dwp_len (t := 1) rfl fun hl1 hL1 => ?_
  refine dwp_len (t := 2) rfl fun hl2 hL2 => ?_
  refine zaf ?_
  refine zah 1 (by simp only [holes, List.cons_append, List.nil_append]; exact rfl) ?_
  refine zac ?_
  refine zaj rfl rfl rfl (op_boxm 0 rfl (ev1 rfl) (fun s v h => by cases h <;> rfl) rfl) (by simp only [upd, zaa, za]; exact rfl) ?_
  refine zab rfl rfl rfl (zad (.inr rfl) (ev1 rfl)) ?_
  refine zae ?_
  refine zaf ?_
  refine zaf ?_
  refine zac ?_
  refine zab rfl rfl rfl (op_ldm rfl tb29 (ev1 rfl) rfl rfl) ?_
  refine zab rfl rfl rfl (op_pnilm rfl pt29 (ev1 rfl)) ?_
  refine zae ?_
  refine dwp_if_f rfl (by rfl) ?_
  refine zal ?_
  refine zaf ?_
  refine zaf ?_
  refine zac ?_
  refine zab rfl rfl rfl (zad (.inl rfl) (ev1 rfl)) ?_
  refine zab rfl rfl rfl (zai [] [] [] rfl (ev1 rfl) (ec (ev1 rfl) (ec (ev1 rfl) en)) rfl rfl (ctni_d l) rfl rfl rfl rfl rfl rfl) ?_
  refine zae ?_
  refine dwp_cond rfl (fun c1 => ?_) (fun c1 => ?_)
  · refine zaf ?_
    refine zac ?_
    refine zab rfl rfl rfl (zad (.inr rfl) (ev1 rfl)) ?_
    refine zae ?_
    refine dwp_ret ?_
    refine kend0 (rs1 rfl (rv_t rfl)) rfl ?_
    unfold refE
    rw [if_pos c1]
  · refine zal ?_
    refine zaf ?_
    refine zaf ?_
    refine zac ?_
    refine zab rfl rfl rfl (zad (.inl rfl) (ev1 rfl)) ?_
    refine zab rfl rfl rfl (op_mkf rfl en (ec (ev1 rfl) en)) ?_
    refine zaj rfl rfl rfl (zai [0] [] [] rfl (ev1 rfl) (ec (ev1 rfl) (ec (ev1 rfl) en)) rfl rfl (ctnp_d w h ds ts hr hc ps) rfl rfl rfl rfl rfl rfl) (by simp only [upd, zaa, za]; exact rfl) ?_
    refine zae ?_
    refine dwp_cond rfl (fun c2 => ?_) (fun c2 => ?_)
    · refine zaf ?_
      refine zac ?_
      refine zab rfl rfl rfl (zad (.inr rfl) (ev1 rfl)) ?_
      refine zae ?_
      refine dwp_ret ?_
      refine kend0 (rs1 rfl (rv_t rfl)) rfl ?_
      unfold refE
      rw [if_neg (by rw [c1]; decide), if_pos c2]
    · refine zal ?_
      refine zaf ?_
      refine zac ?_
      refine zab rfl rfl rfl (zad (.inr rfl) (ev1 rfl)) ?_
      refine zae ?_
      refine dwp_ret ?_
      refine kend0 (rs1 rfl (rv_t rfl)) rfl ?_
      unfold refE
      rw [if_neg (by rw [c1]; decide), if_neg (by rw [c2]; decide)]
theorem refE_one {w h tol : Int} {p : P2} : refE w h [tol] [p] = if badT tol = true then 2 else if onP w h p = true then 0 else 4 := by
  unfold refE
  simp only [List.any_cons, List.any_nil, Bool.or_false]
  split
  · rfl
  · cases onP w h p <;> rfl
theorem refE_ok {w h tol : Int} {p : P2} (h0 : refE w h [tol] [p] = 0) : (0 ≤ tol ∧ tol ≤ 1020) ∧ onP w h p = true := by
  rw [refE_one] at h0
  split at h0
  · omega
  · rename_i h1
    split at h0
    · rename_i h2; exact ⟨badT_no (by simpa using h1), h2⟩
    · omega
theorem refE_two {w h tol : Int} {p q : P2} (h0 : refE w h [tol] [p, q] = 0) : (0 ≤ tol ∧ tol ≤ 1020) ∧ onP w h p = true ∧ onP w h q = true := by
  unfold refE at h0
  simp only [List.any_cons, List.any_nil, Bool.or_false] at h0
  split at h0
  · omega
  · rename_i h1
    split at h0
    · omega
    · rename_i h2
      refine ⟨badT_no (by simpa using h1), ?_⟩
      simpa using h2
def rgF (w h : Int) (ts : List TL) (tol : Int) (p : P2) : FD := spF (onP w h) (nearP w ts tol (getC w ts p.x p.y)) zFD p
def rgS (w h : Int) (f : FD) : List Sp := gtS f.has (w * 8).toNat ((h * 8).toNat * (w * 8).toNat)
def rgP (w h : Int) (f : FD) : List P2 := gtP f.has (w * 8).toNat ((h * 8).toNat * (w * 8).toNat)
theorem rgP_len {w h : Int} (hm : mayS w h = true) (f : FD) : (rgP w h f).length ≤ 1024 := by
  have hb := mayS_b hm
  have h1 := gtP_len f.has (w * 8).toNat ((h * 8).toNat * (w * 8).toNat)
  have h2 : (h * 8).toNat * (w * 8).toNat ≤ 32 * 32 := Nat.mul_le_mul (by omega) (by omega)
  unfold rgP
  omega
end Go.Proofs.YtfnhckildfbikaaGreat
namespace Go.Proofs.YtfnhckildfbikaaGreat
set_option maxRecDepth 4000
set_option linter.unusedVariables false
set_option linter.unusedSimpArgs false
open Go.RowKit
theorem bfs_le {On near : P2 → Bool} (hOn : ∀ p, On p = true → inF32 p) : ∀ (n : Nat) (f : FD) (q : List P2) (K : Nat), (∀ p, f.at p ≤ 1026) → (∀ x ∈ q, On x = true ∧ 0 < f.at x ∧ f.at x + (zrF f + q.length) ≤ 1026) → ∀ p, (bfsF On near n f q).at p ≤ 1026
  | 0, f, q, K, hf, _ => hf
  | n + 1, f, [], K, hf, _ => hf
  | n + 1, f, p :: r, K, hf, hq => by
    have hI : SpI On near (bfsF On near (zrF f + (p :: r).length) f (p :: r)) (spK On near (zrF f + (p :: r).length) K f (p :: r)) (f, p :: r, K) := ⟨rfl, rfl, hq⟩
    obtain ⟨h1, h2, h3⟩ := hq p (List.mem_cons_self ..)
    have hst := (hI.step hOn).1
    intro u
    rw [bfsF]
    refine bfs_le hOn n _ _ 0 (fun x => ?_) hst.mem u
    have key : ∀ (L : List P2) (s : FD × List P2), (∀ y, s.1.at y ≤ 1026) → f.at p + 1 ≤ 1026 → ∀ y, (L.foldl (visF near (f.at p + 1)) s).1.at y ≤ 1026 := by
      intro L
      induction L with
      | nil => intro s h _; exact h
      | cons a L ih =>
        intro s h hv y
        rw [List.foldl_cons]
        refine ih _ (fun z => ?_) hv y
        unfold visF
        split
        · show (s.1.put a (f.at p + 1)).at z ≤ 1026
          unfold FD.at FD.put
          simp only [List.getD_eq_getElem?_getD]
          by_cases e : ixF a = ixF z
          · rw [e]
            by_cases hl : ixF z < s.1.l.length
            · rw [List.getElem?_set_self hl]; exact hv
            · rw [List.getElem?_eq_none (by simp; omega)]; simp
          · rw [List.getElem?_set_ne e]
            have := h z
            unfold FD.at at this
            simpa [List.getD_eq_getElem?_getD] using this
        · exact h z
    unfold goF
    exact key _ (f, []) hf (by rw [List.length_cons] at h3; omega) x
theorem spF_le {On near : P2 → Bool} (hOn : ∀ p, On p = true → inF32 p) {f : FD} {p : P2} (hp : On p = true) (h0 : f.at p = 0) (hf : ∀ x, f.at x ≤ 1026) (x : P2) : (spF On near f p).at x ≤ 1026 := by
  have hS := SpI.start (near := near) hOn 0 hp h0
  refine bfs_le hOn _ _ _ 0 (fun z => ?_) hS.mem x
  unfold FD.at FD.put
  simp only [List.getD_eq_getElem?_getD]
  by_cases e : ixF p = ixF z
  · rw [e]
    by_cases hl : ixF z < f.l.length
    · rw [List.getElem?_set_self hl]; simp
    · rw [List.getElem?_eq_none (by simp; omega)]; simp
  · rw [List.getElem?_set_ne e]
    have := hf z
    unfold FD.at at this
    simpa [List.getD_eq_getElem?_getD] using this
theorem rgF_le {w h : Int} {ts : List TL} {tol : Int} {p u : P2} (hm : mayS w h = true) (hp : onP w h p = true) (hu : inF32 u) : (rgF w h ts tol p).at u ≤ 5000 :=
  Nat.le_trans (spF_le (onP_in hm) hp (zFD_at p) (fun x => by rw [zFD_at]; omega) u) (by omega)
end Go.Proofs.YtfnhckildfbikaaGreat
namespace Go.Proofs.YtfnhckildfbikaaGreat
set_option maxRecDepth 4000
set_option linter.unusedVariables false
set_option linter.unusedSimpArgs false
open Go.RowKit
def prV (w h : Int) (ts : List TL) (tol : Int) (s : FD × Nat × List P2) (p : P2) : FD × Nat × List P2 := if s.1.has p = true then s else (spF (onP w h) (nearP w ts tol (getC w ts p.x p.y)) s.1 p, spN (onP w h) (nearP w ts tol (getC w ts p.x p.y)) s.2.1 s.1 p, s.2.2 ++ [p])
def prK (w h : Int) (ts : List TL) (tol : Int) (n : Nat) : FD × Nat × List P2 := (fieldN (w * 8).toNat n 0 0).foldl (prV w h ts tol) (zFD, 0, [])
theorem prK_zero (w h : Int) (ts : List TL) (tol : Int) : prK w h ts tol 0 = (zFD, 0, []) := rfl
theorem prK_add {w h : Int} {ts : List TL} {tol : Int} {x y : Nat} (hx : x < (w * 8).toNat) : prK w h ts tol (y * (w * 8).toNat + (x + 1)) = prV w h ts tol (prK w h ts tol (y * (w * 8).toNat + x)) (atN x y) := by
  unfold prK
  rw [gt_field hx, List.foldl_append]
  rfl
theorem prV_yes {w h : Int} {ts : List TL} {tol : Int} {s : FD × Nat × List P2} {p : P2} (hh : s.1.has p = true) : prV w h ts tol s p = s := if_pos hh
theorem prV_no {w h : Int} {ts : List TL} {tol : Int} {s : FD × Nat × List P2} {p : P2} (hh : s.1.has p = false) : prV w h ts tol s p = (spF (onP w h) (nearP w ts tol (getC w ts p.x p.y)) s.1 p, spN (onP w h) (nearP w ts tol (getC w ts p.x p.y)) s.2.1 s.1 p, s.2.2 ++ [p]) := if_neg (by rw [hh]; decide)
theorem prK_len (w h : Int) (ts : List TL) (tol : Int) (n : Nat) : (prK w h ts tol n).2.2.length ≤ n := by
  have key : ∀ (L : List P2) (s : FD × Nat × List P2), (L.foldl (prV w h ts tol) s).2.2.length ≤ s.2.2.length + L.length := by
    intro L
    induction L with
    | nil => intro s; simp
    | cons a L ih =>
      intro s
      rw [List.foldl_cons, List.length_cons]
      refine Nat.le_trans (ih _) ?_
      unfold prV
      split
      · omega
      · simp only [List.length_append, List.length_cons, List.length_nil]; omega
  unfold prK
  refine Nat.le_trans (key _ _) ?_
  rw [fieldN_len]
  simp
theorem hasF_no {f : FD} {p : P2} (h : f.has p = false) : f.at p = 0 := by unfold FD.has at h; simpa using h
def prN (w h : Int) (ts : List TL) (tol : Int) : Nat := (prK w h ts tol ((h * 8).toNat * (w * 8).toNat)).2.2.length
def rimB (w h : Int) (f : FD) (p : P2) : Bool := !((adjL p).all fun n => onP w h n && f.has n)
def rimI (w h : Int) (f : FD) (p : P2) (i : Nat) : Nat := (((adjL p).take i).filter (onP w h)).length
theorem rimI_le (w h : Int) (f : FD) (p : P2) (i : Nat) : rimI w h f p i ≤ i := by
  unfold rimI
  refine Nat.le_trans (List.length_filter_le ..) (List.length_take_le ..)
theorem rimI_yes {w h : Int} {f : FD} {p : P2} {i : Nat} (hi : i < (adjL p).length) (ho : onP w h (adjL p)[i] = true) : rimI w h f p (i + 1) = rimI w h f p i + 1 := by
  unfold rimI
  rw [List.take_succ_eq_append_getElem hi, List.filter_append]
  simp [ho]
theorem rimI_no {w h : Int} {f : FD} {p : P2} {i : Nat} (hi : i < (adjL p).length) (ho : onP w h (adjL p)[i] = false) : rimI w h f p (i + 1) = rimI w h f p i := by
  unfold rimI
  rw [List.take_succ_eq_append_getElem hi, List.filter_append]
  simp [ho]
def rimA (w h : Int) (f : FD) (p : P2) (i : Nat) : Bool := ((adjL p).take i).all fun n => !onP w h n || f.has n
theorem rimA_add {w h : Int} {f : FD} {p : P2} {i : Nat} (hi : i < (adjL p).length) : rimA w h f p (i + 1) = (rimA w h f p i && (!onP w h (adjL p)[i] || f.has (adjL p)[i])) := by
  unfold rimA
  rw [List.take_succ_eq_append_getElem hi, List.all_append]
  simp
def rimZ (w h : Int) (f : FD) (p : P2) : Nat := if rimA w h f p 1 = false then rimI w h f p 0 else if rimA w h f p 2 = false then rimI w h f p 1 else if rimA w h f p 3 = false then rimI w h f p 2 else if rimA w h f p 4 = false then rimI w h f p 3 else rimI w h f p 4
theorem rimA_mono {w h : Int} {f : FD} {p : P2} {i : Nat} (hi : i < (adjL p).length) (h1 : rimA w h f p (i + 1) = true) : rimA w h f p i = true := by rw [rimA_add hi, Bool.and_eq_true] at h1; exact h1.1
theorem rimZ_stop {w h : Int} {f : FD} {p : P2} {i : Nat} (hi : i < 4) (h1 : rimA w h f p i = true) (h2 : rimA w h f p (i + 1) = false) : rimZ w h f p = rimI w h f p i := by
  have hal := adj_len p
  unfold rimZ
  match i, hi with
  | 0, _ => rw [if_pos h2]
  | 1, _ => rw [if_neg (by rw [h1]; decide), if_pos h2]
  | 2, _ => rw [if_neg (by rw [rimA_mono (i := 1) (by omega) h1]; decide), if_neg (by rw [h1]; decide), if_pos h2]
  | 3, _ =>
    have a2 := rimA_mono (i := 2) (by omega) h1
    rw [if_neg (by rw [rimA_mono (i := 1) (by omega) a2]; decide), if_neg (by rw [a2]; decide), if_neg (by rw [h1]; decide), if_pos h2]
theorem rimZ_end {w h : Int} {f : FD} {p : P2} (h1 : rimA w h f p 4 = true) : rimZ w h f p = rimI w h f p 4 := by
  have hal := adj_len p
  have a3 := rimA_mono (i := 3) (by omega) h1
  have a2 := rimA_mono (i := 2) (by omega) a3
  have a1 := rimA_mono (i := 1) (by omega) a2
  unfold rimZ
  rw [if_neg (by rw [a1]; decide), if_neg (by rw [a2]; decide), if_neg (by rw [a3]; decide), if_neg (by rw [h1]; decide)]
theorem rim_eq (w h : Int) (f : FD) (p : P2) : decide (rimZ w h f p < 4) = rimB w h f p := by
  have hal := adj_len p
  cases hA : rimA w h f p 4 with
  | true =>
    rw [rimZ_end hA]
    have hall : ∀ n ∈ adjL p, (!onP w h n || f.has n) = true := List.all_eq_true.1 hA
    unfold rimI rimB
    rw [show (adjL p).take 4 = adjL p from rfl]
    cases hon : (adjL p).all (onP w h) with
    | true =>
      have h1 : (adjL p).filter (onP w h) = adjL p := List.filter_eq_self.2 (List.all_eq_true.1 hon)
      have h2 : ((adjL p).all fun n => onP w h n && f.has n) = true := List.all_eq_true.2 fun n hn => by
        have a := List.all_eq_true.1 hon n hn
        have b := hall n hn
        rw [a] at b ⊢
        simpa using b
      rw [h1, h2, hal]
      rfl
    | false =>
      obtain ⟨n, hn, hno⟩ := List.all_eq_false.1 hon
      have h2 : ((adjL p).all fun n => onP w h n && f.has n) = false := List.all_eq_false.2 ⟨n, hn, by simp [hno]⟩
      have h1 : ((adjL p).filter (onP w h)).length < (adjL p).length := by
        rcases Nat.lt_or_ge ((adjL p).filter (onP w h)).length (adjL p).length with g | g
        · exact g
        · have := List.length_filter_eq_length_iff.1 (Nat.le_antisymm (List.length_filter_le ..) g) n hn
          exact absurd this hno
      rw [h2]
      simp only [Bool.not_false, decide_eq_true_eq]
      omega
  | false =>
    have h3 : rimZ w h f p < 4 := by
      have i0 := rimI_le w h f p 0
      have i1 := rimI_le w h f p 1
      have i2 := rimI_le w h f p 2
      have i3 := rimI_le w h f p 3
      unfold rimZ
      rw [hA, if_pos (rfl : false = false)]
      split
      · omega
      · split
        · omega
        · split <;> omega
    rw [decide_eq_true h3]
    unfold rimB
    obtain ⟨n, hn, hno⟩ := List.all_eq_false.1 hA
    have h2 : ((adjL p).all fun n => onP w h n && f.has n) = false := List.all_eq_false.2 ⟨n, hn, by
      intro e
      simp only [Bool.and_eq_true] at e
      rw [e.1, e.2] at hno
      exact hno rfl⟩
    rw [h2]
    rfl
end Go.Proofs.YtfnhckildfbikaaGreat
namespace Go.Proofs.YtfnhckildfbikaaGreat
set_option maxRecDepth 4000
set_option linter.unusedVariables false
set_option linter.unusedSimpArgs false
open Go.RowKit
attribute [local irreducible] zFD srL goF bfsF
attribute [local irreducible] spF spN
theorem zr75 : zrC Tryz.prog 75 = some [.pointer none] := by kernel_rfl
set_option maxRecDepth 4000 in
set_option maxHeartbeats 1000000 in
theorem region_d (w h : Int) (ds : List D) (ts : List TL) (hr : RowOk ds ts) (hc : CvOk w h ts) (hg : tsRng ts) (p : P2) (tol : Int) (h0 : (refE w h [tol] [p]) = 0) : DFun Tryz.prog 7 [cvD w h ds, .val (.agg #[.int .i64 p.x, .int .i64 p.y]), .val (.int .i64 tol)] [] (.tup [.slf 3 (rgS w h (rgF w h ts tol p)).length ((rgS w h (rgF w h ts tol p)).flatMap s3), .val (.int .i64 0)]) [] := by
  obtain ⟨⟨ht, ht2⟩, hp⟩ := refE_ok h0
  refine zan (N := 26) 0 (by kernel_rfl) Tryz.func7 rfl rfl rfl (by simp only [fr0, Nat.zero_add, Nat.reduceAdd]; exact rfl) rfl fun s0 hs0 => ?_
  refine zaf ?_
  refine zah 1 (by simp only [holes, List.cons_append, List.nil_append]; exact rfl) ?_
  refine zac ?_
  refine zaj rfl rfl rfl (op_boxa 0 rfl (ev1 rfl) rfl) (by simp only [upd, zaa, za]; exact rfl) ?_
  refine zab rfl rfl rfl (zad (.inr rfl) (ev1 rfl)) ?_
  refine zab rfl rfl rfl (zad (.inr rfl) (ev1 rfl)) ?_
  refine zae ?_
  refine zaf ?_
  refine zaf ?_
  refine zac ?_
  refine zab rfl rfl rfl (zad (.inl rfl) (ev1 rfl)) ?_
  refine zab rfl rfl rfl (zad (.inl rfl) (ev1 rfl)) ?_
  refine zab rfl rfl rfl (op_bs (ps := [(0, .tmp 11)]) rfl sl61 zr3 rfl (vc (ev1 rfl) vn) rfl (by decide) (by decide)) ?_
  refine zab rfl rfl rfl (op_ldw rfl tb26 (ev1 rfl) rfl rfl) ?_
  refine zab rfl rfl rfl (op_bs (ps := [(0, .tmp 13)]) rfl sl55 zr26 rfl (vc (ev1 rfl) vn) rfl (by decide) (by decide)) ?_
  refine zab rfl rfl rfl (zai [] [] [] rfl (ev1 rfl) (ec (ev1 rfl) (ec (ev1 rfl) (ec (ev1 rfl) en))) rfl rfl (refuse_d w h ds ts hr hc [tol] [p]) rfl rfl rfl rfl rfl rfl) ?_
  refine zab rfl rfl rfl (zad (.inr rfl) (ev1 rfl)) ?_
  refine zae ?_
  refine zaf ?_
  refine zac ?_
  refine zab rfl rfl rfl (zad (.inl rfl) (ev1 rfl)) ?_
  refine zab rfl rfl rfl (op_neq rfl (ev1 rfl) (ev1 rfl)) ?_
  refine zae ?_
  refine dwp_if_f rfl (by rw [h0]; rfl) ?_
  refine zal ?_
  refine zaf ?_
  refine zah 3 (by simp only [holes, List.cons_append, List.nil_append]; exact rfl) ?_
  refine zac ?_
  refine zab rfl rfl rfl (zad (.inl rfl) (ev1 rfl)) ?_
  refine zab rfl rfl rfl (op_ldw rfl tb26 (ev1 rfl) rfl rfl) ?_
  refine zab rfl rfl rfl (zad (.inl rfl) (ev1 rfl)) ?_
  refine zaj rfl rfl rfl (zai [] [] [1, 2] rfl (ev1 rfl) (ec (ev1 rfl) (ec (ev1 rfl) (ec (ev1 rfl) en))) rfl rfl (region_o w h ds ts hr hc hg p hp tol ht) rfl rfl rfl (by exact (wrc (sb_srx rfl rfl) (wrc rfl rfl))) rfl rfl) (by simp only [upd, zaa, za]; exact rfl) ?_
  refine zaj rfl rfl rfl (op_alloc 3 rfl zr75 rfl) (by simp only [upd, zaa, za]; exact rfl) ?_
  refine walk_s rfl rfl (op_stfm rfl tb75 (ev1 rfl) (ev1 rfl) (fun s v h => by cases h <;> exact ⟨rfl, rfl⟩) rfl (by decide)) (by simp only [upd, zaa, za]; exact rfl) ?_
  refine zae ?_
  refine zaf ?_
  refine zac ?_
  refine zab rfl rfl rfl (op_ldm rfl tb75 (ev1 rfl) rfl rfl) ?_
  refine zab rfl rfl rfl (op_mkf rfl en (ec (ev1 rfl) en)) ?_
  refine zaj rfl rfl rfl (zai [1, 2, 3] [] [] rfl (ev1 rfl) (ec (ev1 rfl) (ec (ev1 rfl) en)) rfl (by exact mfits _ _ ⟨zam rfl rfl rfl, rfl, rfl, trivial⟩) (gatS_d w h ds ts hr hc _ _ []) rfl rfl rfl (by exact (wrc (sb_srx rfl rfl) (wrc rfl (wrc rfl rfl)))) rfl rfl) (by simp only [upd, zaa, za]; exact rfl) ?_
  refine zab rfl rfl rfl (zad (.inr rfl) (ev1 rfl)) ?_
  refine zab rfl rfl rfl (zad (.inr rfl) (ev1 rfl)) ?_
  refine zae ?_
  refine dwp_ret ?_
  refine kend0 (rs2 rfl (rv_t rfl) (rv_t rfl)) rfl ?_
  rfl
set_option maxRecDepth 4000 in
set_option maxHeartbeats 1000000 in
theorem region_n (w h : Int) (ds : List D) (ts : List TL) (hr : RowOk ds ts) (hc : CvOk w h ts) (hg : tsRng ts) (p : P2) (tol : Int) (h0 : (refE w h [tol] [p]) ≠ 0) : DFun Tryz.prog 7 [cvD w h ds, .val (.agg #[.int .i64 p.x, .int .i64 p.y]), .val (.int .i64 tol)] [] (.tup [.val (.slice none 0 0), .val (.int .i64 (refE w h [tol] [p]))]) [] := by
  refine zan (N := 26) 0 (by kernel_rfl) Tryz.func7 rfl rfl rfl (by simp only [fr0, Nat.zero_add, Nat.reduceAdd]; exact rfl) rfl fun s0 hs0 => ?_
  refine zaf ?_
  refine zah 1 (by simp only [holes, List.cons_append, List.nil_append]; exact rfl) ?_
  refine zac ?_
  refine zaj rfl rfl rfl (op_boxa 0 rfl (ev1 rfl) rfl) (by simp only [upd, zaa, za]; exact rfl) ?_
  refine zab rfl rfl rfl (zad (.inr rfl) (ev1 rfl)) ?_
  refine zab rfl rfl rfl (zad (.inr rfl) (ev1 rfl)) ?_
  refine zae ?_
  refine zaf ?_
  refine zaf ?_
  refine zac ?_
  refine zab rfl rfl rfl (zad (.inl rfl) (ev1 rfl)) ?_
  refine zab rfl rfl rfl (zad (.inl rfl) (ev1 rfl)) ?_
  refine zab rfl rfl rfl (op_bs (ps := [(0, .tmp 11)]) rfl sl61 zr3 rfl (vc (ev1 rfl) vn) rfl (by decide) (by decide)) ?_
  refine zab rfl rfl rfl (op_ldw rfl tb26 (ev1 rfl) rfl rfl) ?_
  refine zab rfl rfl rfl (op_bs (ps := [(0, .tmp 13)]) rfl sl55 zr26 rfl (vc (ev1 rfl) vn) rfl (by decide) (by decide)) ?_
  refine zab rfl rfl rfl (zai [] [] [] rfl (ev1 rfl) (ec (ev1 rfl) (ec (ev1 rfl) (ec (ev1 rfl) en))) rfl rfl (refuse_d w h ds ts hr hc [tol] [p]) rfl rfl rfl rfl rfl rfl) ?_
  refine zab rfl rfl rfl (zad (.inr rfl) (ev1 rfl)) ?_
  refine zae ?_
  refine zaf ?_
  refine zac ?_
  refine zab rfl rfl rfl (zad (.inl rfl) (ev1 rfl)) ?_
  refine zab rfl rfl rfl (op_neq rfl (ev1 rfl) (ev1 rfl)) ?_
  refine zae ?_
  refine dwp_if_t rfl (by simpa using h0) ?_
  refine zaf ?_
  refine zac ?_
  refine zab rfl rfl rfl (zad (.inl rfl) (ev1 rfl)) ?_
  refine zab rfl rfl rfl (zad (.inr rfl) (ev1 rfl)) ?_
  refine zab rfl rfl rfl (zad (.inr rfl) (ev1 rfl)) ?_
  refine zae ?_
  refine dwp_ret ?_
  refine kend0 (rs2 rfl (rv_t rfl) (rv_t rfl)) rfl ?_
  rfl
set_option maxRecDepth 4000 in
set_option maxHeartbeats 1000000 in
theorem fil1_n (w h : Int) (ds : List D) (f : FD) (k : Nat) (q : List P2) (l : List P2) (hl : l.length ≤ 5000) (p : P2) (hp : inF32 p) (hh : f.has p = false) : DFun Tryz.prog 41 [.farr 3 l.length, .val (.agg #[.int .i64 p.x, .int .i64 p.y]), .loc 2 0] [.mix 115 (srL (cvD w h ds) (f).l (.farr 1 (k))), .fam (fmQ (k) (q)), .mix 75 [.loc 0 0], .fam (fmP (l))] (.farr 3 l.length) [.mix 115 (srL (cvD w h ds) (f).l (.farr 1 (k))), .fam (fmQ (k) (q)), .mix 75 [.loc 0 0], .fam (fmP (l))] := by
  have hp2 := hp
  unfold inF32 at hp2
  refine zan (N := 14) 4 (by kernel_rfl) Tryz.func41 rfl rfl rfl (by simp only [fr0, Nat.zero_add, Nat.reduceAdd]; exact rfl) rfl fun s0 hs0 => ?_
  refine zaf ?_
  refine zah 1 (by simp only [holes, List.cons_append, List.nil_append]; exact rfl) ?_
  refine zac ?_
  refine zaj rfl rfl rfl (op_boxa 4 rfl (ev1 rfl) rfl) (by simp only [upd, zaa, za]; exact rfl) ?_
  refine zab rfl rfl rfl (zad (.inr rfl) (ev1 rfl)) ?_
  refine zae ?_
  refine zaf ?_
  refine zaf ?_
  refine zac ?_
  refine zab rfl rfl rfl (op_ldm rfl tb75 (ev1 rfl) rfl rfl) ?_
  refine zab rfl rfl rfl (op_ldw rfl tb26 (ev1 rfl) rfl rfl) ?_
  refine zaj rfl rfl rfl (zai [0, 1] [] [] rfl (ev1 rfl) (ec (ev1 rfl) (ec (ev1 rfl) en)) rfl (by exact mfits _ _ ⟨zam rfl rfl rfl, rfl, trivial⟩) (has_s w h ds f k q p hp) rfl rfl rfl (by exact (wrc (sb_srx rfl rfl) (wrc rfl rfl))) rfl rfl) (by simp only [upd, zaa, za]; exact rfl) ?_
  refine zae ?_
  refine dwp_if_f rfl (by rw [hh]) ?_
  refine zal ?_
  refine zaf ?_
  refine zac ?_
  refine zab rfl rfl rfl (zad (.inl rfl) (ev1 rfl)) ?_
  refine zab rfl rfl rfl (zad (.inr rfl) (ev1 rfl)) ?_
  refine zae ?_
  refine dwp_ret ?_
  refine kend [0, 1, 2, 3] (rs1 rfl (rv_t rfl)) rfl rfl ?_ ⟨zam rfl rfl rfl, rfl, rfl, rfl, trivial⟩
  rfl
set_option maxRecDepth 4000 in
set_option maxHeartbeats 1000000 in
theorem fil1_y (w h : Int) (ds : List D) (f : FD) (k : Nat) (q : List P2) (l : List P2) (hl : l.length ≤ 5000) (p : P2) (hp : inF32 p) (hh : f.has p = true) : DFun Tryz.prog 41 [.farr 3 l.length, .val (.agg #[.int .i64 p.x, .int .i64 p.y]), .loc 2 0] [.mix 115 (srL (cvD w h ds) (f).l (.farr 1 (k))), .fam (fmQ (k) (q)), .mix 75 [.loc 0 0], .fam (fmP (l))] (.farr 3 (l ++ [p]).length) [.mix 115 (srL (cvD w h ds) (f).l (.farr 1 (k))), .fam (fmQ (k) (q)), .mix 75 [.loc 0 0], .fam (fmP (l ++ [p]))] := by
  have hp2 := hp
  unfold inF32 at hp2
  refine zan (N := 14) 4 (by kernel_rfl) Tryz.func41 rfl rfl rfl (by simp only [fr0, Nat.zero_add, Nat.reduceAdd]; exact rfl) rfl fun s0 hs0 => ?_
  refine zaf ?_
  refine zah 1 (by simp only [holes, List.cons_append, List.nil_append]; exact rfl) ?_
  refine zac ?_
  refine zaj rfl rfl rfl (op_boxa 4 rfl (ev1 rfl) rfl) (by simp only [upd, zaa, za]; exact rfl) ?_
  refine zab rfl rfl rfl (zad (.inr rfl) (ev1 rfl)) ?_
  refine zae ?_
  refine zaf ?_
  refine zaf ?_
  refine zac ?_
  refine zab rfl rfl rfl (op_ldm rfl tb75 (ev1 rfl) rfl rfl) ?_
  refine zab rfl rfl rfl (op_ldw rfl tb26 (ev1 rfl) rfl rfl) ?_
  refine zaj rfl rfl rfl (zai [0, 1] [] [] rfl (ev1 rfl) (ec (ev1 rfl) (ec (ev1 rfl) en)) rfl (by exact mfits _ _ ⟨zam rfl rfl rfl, rfl, trivial⟩) (has_s w h ds f k q p hp) rfl rfl rfl (by exact (wrc (sb_srx rfl rfl) (wrc rfl rfl))) rfl rfl) (by simp only [upd, zaa, za]; exact rfl) ?_
  refine zae ?_
  refine dwp_if_t rfl (by rw [hh]) ?_
  refine zah 2 (by simp only [holes, List.cons_append, List.nil_append]; exact rfl) ?_
  refine zac ?_
  refine zab rfl rfl rfl (zad (.inl rfl) (ev1 rfl)) ?_
  refine zab rfl rfl rfl (op_ldw rfl tb26 (ev1 rfl) rfl rfl) ?_
  refine zab rfl rfl rfl (op_bs (ps := [(0, .tmp 10)]) rfl sl55 zr26 rfl (vc (ev1 rfl) vn) rfl (by decide) (by decide)) ?_
  refine zaj rfl rfl rfl (op_appF (j1 := 5) (j2 := 6) rfl rfl sl55 zr26 rfl (ev1 rfl) (ev1 rfl) rfl (fmP_at l) rfl rfl rfl (fun _ => rfl) (fun _ => ⟨by omega, by omega⟩)) (by simp only [upd, zaa, za]; exact rfl) ?_
  refine zab rfl rfl rfl (zad (.inr rfl) (ev1 rfl)) ?_
  refine zae ?_
  refine zaf ?_
  refine zac ?_
  refine zab rfl rfl rfl (zad (.inl rfl) (ev1 rfl)) ?_
  refine zab rfl rfl rfl (zad (.inr rfl) (ev1 rfl)) ?_
  refine zae ?_
  refine dwp_ret ?_
  refine kend [0, 1, 2, 3] (rs1 rfl (rv_t rfl)) rfl rfl ?_ ⟨zam rfl rfl rfl, rfl, rfl, congrArg (fun B => some (Blk.fam B)) (fmP_add l p), trivial⟩
  rw [fmP_len, List.length_append]
  rfl
set_option maxRecDepth 4000 in
set_option maxHeartbeats 1000000 in
theorem gatF_d (w h : Int) (ds : List D) (ts : List TL) (hr : RowOk ds ts) (hc : CvOk w h ts) (f : FD) (k : Nat) (q : List P2) : DFun Tryz.prog 40 [.loc 0 0, .fn (.func 41) [] [.loc 2 0]] [.mix 115 (srL (cvD w h ds) (f).l (.farr 1 (k))), .fam (fmQ (k) (q)), .mix 75 [.loc 0 0]] (.slf 2 (gtP f.has (w * 8).toNat ((h * 8).toNat * (w * 8).toNat)).length ((gtP f.has (w * 8).toNat ((h * 8).toNat * (w * 8).toNat)).flatMap p2)) [.mix 115 (srL (cvD w h ds) (f).l (.farr 1 (k))), .fam (fmQ (k) (q)), .mix 75 [.loc 0 0]] := by
  have hb := mayS_b hc.may
  have hW : ((w * 8).toNat : Int) = w * 8 := by omega
  have hH : ((h * 8).toNat : Int) = h * 8 := by omega
  have hWH : (h * 8).toNat * (w * 8).toNat ≤ 32 * 32 := Nat.mul_le_mul (by omega) (by omega)
  refine zan (N := 35) 3 (by kernel_rfl) Tryz.func40 rfl rfl rfl (by simp only [fr0, Nat.zero_add, Nat.reduceAdd]; exact rfl) rfl fun s0 hs0 => ?_
  refine zaf ?_
  refine zac ?_
  refine zab rfl rfl rfl (zad (.inr rfl) (ev1 rfl)) ?_
  refine zae ?_
  refine zaf ?_
  refine zac ?_
  refine zab rfl rfl rfl (zad (.inr rfl) (ev1 rfl)) ?_
  refine zae ?_
  refine zaf ?_
  refine dwp_adopt (m := 3) 5 26 2 rfl rfl rfl ?_
  refine dwp_hole ?_
  refine dwp_fam 4 rfl (by simp only [List.cons_append, List.nil_append, zaa, za]; exact rfl) ?_
  refine zac ?_
  refine zab rfl rfl rfl (zad (.inl rfl) (ev1 rfl)) ?_
  refine zab rfl rfl rfl (op_nc rfl (ev1 rfl) (fun s v h => by cases h; exact ⟨_, rfl⟩)) ?_
  refine zab rfl rfl rfl (op_fa rfl fo115_0 (ev1 rfl)) ?_
  refine zab rfl rfl rfl (op_ldm rfl tb29 (ev1 rfl) rfl (srL_0 rfl)) ?_
  refine zab rfl rfl rfl (zai [] [] [] rfl (ev1 rfl) (ec (ev1 rfl) en) rfl rfl (size_d w h ds ts hr hc) rfl rfl rfl rfl rfl rfl) ?_
  refine zab rfl rfl rfl (zad (.inl rfl) (ev1 rfl)) ?_
  refine zab rfl rfl rfl (op_ext rfl (ev1 rfl) rfl) ?_
  refine zab rfl rfl rfl (op_ext rfl (ev1 rfl) rfl) ?_
  refine zab rfl rfl rfl (zad (.inr rfl) (ev1 rfl)) ?_
  refine zab rfl rfl rfl (zad (.inr rfl) (ev1 rfl)) ?_
  refine zae ?_
  refine zaf ?_
  refine zaf ?_
  refine dwp_abs 5 4 rfl rfl rfl (by simp only [zaa, za]; exact rfl) ?_
  refine zac ?_
  refine zab rfl rfl rfl (zad (.inl rfl) (ev1 rfl)) ?_
  refine zab rfl rfl rfl (zad (.inl rfl) (ev1 rfl)) ?_
  refine zae ?_
  refine zak ?_
  refine dwp_loopS ⟨hs0, rfl⟩ (α := Nat) (fun y => [(5, .farr 4 (gtP f.has (w * 8).toNat (y * (w * 8).toNat)).length), (19, .val (.int .i64 (y : Int)))]) [(1, _), (6, _), (18, _)] (fun y => [(4, .fam (fmP ((gtP f.has (w * 8).toNat (y * (w * 8).toNat)))))]) [_, _, _, _, .hole] (fun y => y ≤ (h * 8).toNat) (fun y => (h * 8).toNat - y) 0 [0, 1, 2, 3, 4] (Nat.zero_le _) rfl ⟨rfl, rfl, rfl, trivial⟩ ⟨by rw [Nat.zero_mul]; rfl, rfl, trivial⟩ ⟨zam rfl rfl rfl, rfl, rfl, rfl, by rw [Nat.zero_mul]; rfl, trivial⟩ ?_
  intro y hx
  simp only [upd, zaa, za, List.cons_append, List.nil_append]
  have hy0 := hx
  have hyW : y * (w * 8).toNat ≤ (h * 8).toNat * (w * 8).toNat := Nat.mul_le_mul_right _ hy0
  refine zaf ?_
  refine zac ?_
  refine zab rfl rfl rfl (op_lss rfl (ev1 rfl) (ev1 rfl)) ?_
  refine zae ?_
  refine zaf ?_
  refine dwp_cond rfl (fun c1 => ?_) (fun c1 => ?_)
  · try simp only [decide_eq_true_eq, decide_eq_false_iff_not, beq_iff_eq, bne_iff_ne, beq_eq_false_iff_ne, bne_eq_false_iff_eq, Bool.not_eq_true', Bool.not_eq_false', Bool.and_eq_true, Bool.or_eq_true, Bool.or_eq_false_iff, ne_eq, Decidable.not_not, Int.not_lt, Int.not_le] at c1
    refine zal ?_
    refine zaf ?_
    refine zak ?_
    refine zaf ?_
    refine zac ?_
    refine zab rfl rfl rfl (zad (.inl rfl) (ev1 rfl)) ?_
    refine zab rfl rfl rfl (zad (.inr rfl) (ev1 rfl)) ?_
    refine zae ?_
    refine zaf ?_
    refine zac ?_
    refine zab rfl rfl rfl (zad (.inl rfl) (ev1 rfl)) ?_
    refine zab rfl rfl rfl (zad (.inl rfl) (ev1 rfl)) ?_
    refine zae ?_
    refine zak ?_
    refine dwp_loopS ⟨hs0, rfl⟩ (α := Nat) (fun x => [(5, .farr 4 (gtP f.has (w * 8).toNat (y * (w * 8).toNat + x)).length), (23, .val (.int .i64 (x : Int)))]) [(1, _), (6, _), (8, _), (18, _), (19, _), (22, _)] (fun x => [(4, .fam (fmP ((gtP f.has (w * 8).toNat (y * (w * 8).toNat + x)))))]) [_, _, _, _, .hole] (fun x => x ≤ (w * 8).toNat) (fun x => (w * 8).toNat - x) 0 [0, 1, 2, 3, 4] (Nat.zero_le _) rfl ⟨rfl, rfl, rfl, rfl, rfl, rfl, trivial⟩ ⟨by rw [Nat.add_zero]; rfl, rfl, trivial⟩ ⟨zam rfl rfl rfl, rfl, rfl, rfl, by rw [Nat.add_zero]; rfl, trivial⟩ ?_
    intro x hx
    simp only [upd, zaa, za, List.cons_append, List.nil_append]
    have hx0 := hx
    have hgl := gtS_len f.has (w * 8).toNat (y * (w * 8).toNat + x)
    have hgp := gtP_len f.has (w * 8).toNat (y * (w * 8).toNat + x)
    refine zaf ?_
    refine zac ?_
    refine zab rfl rfl rfl (op_lss rfl (ev1 rfl) (ev1 rfl)) ?_
    refine zae ?_
    refine zaf ?_
    refine dwp_cond rfl (fun c2 => ?_) (fun c2 => ?_)
    · try simp only [decide_eq_true_eq, decide_eq_false_iff_not, beq_iff_eq, bne_iff_ne, beq_eq_false_iff_ne, bne_eq_false_iff_eq, Bool.not_eq_true', Bool.not_eq_false', Bool.and_eq_true, Bool.or_eq_true, Bool.or_eq_false_iff, ne_eq, Decidable.not_not, Int.not_lt, Int.not_le] at c2
      refine zal ?_
      refine zaf ?_
      refine zak ?_
      refine zaf ?_
      refine zac ?_
      refine zab rfl rfl rfl (zad (.inl rfl) (ev1 rfl)) ?_
      refine zab rfl rfl rfl (zad (.inr rfl) (ev1 rfl)) ?_
      refine zae ?_
      by_cases hh : f.has (atN x y) = true
      · have hxW : x < (w * 8).toNat := by omega
        have hyH : y < (h * 8).toNat := by omega
        have hyW2 : (y + 1) * (w * 8).toNat ≤ (h * 8).toNat * (w * 8).toNat := Nat.mul_le_mul_right _ hyH
        rw [Nat.succ_mul] at hyW2
        have hpi : inF32 (atN x y) := by unfold inF32 atN; simp only; omega
        have hpo : onS w h (atN x y).x (atN x y).y = true := onS_iff.2 ⟨by show (0 : Int) ≤ (x : Int) ∧ (x : Int) < w * 8; omega, by show (0 : Int) ≤ (y : Int) ∧ (y : Int) < h * 8; omega⟩
        refine zac ?_
        refine zab rfl rfl rfl (zad (.inl rfl) (ev1 rfl)) ?_
        refine zab rfl rfl rfl (zad (.inl rfl) (ev1 rfl)) ?_
        refine zab rfl rfl rfl (zad (.inl rfl) (ev1 rfl)) ?_
        refine zab rfl rfl rfl (zad (.inl rfl) (ev1 rfl)) ?_
        refine zab rfl rfl rfl (op_build (ps := [(0, .tmp 28), (1, .tmp 29)]) rfl fl26 zr26 (vc (ev1 rfl) (vc (ev1 rfl) vn)) rfl rfl) ?_
        refine zaj rfl rfl rfl (zai [0, 1, 2, 4] [] [] rfl (ev1 rfl) (ec (ev1 rfl) (ec (ev1 rfl) en)) rfl (by exact mfits _ _ ⟨zam rfl rfl rfl, rfl, rfl, rfl, trivial⟩) (fil1_y w h ds f k q _ (by omega) (atN x y) hpi hh) rfl rfl rfl (by exact (wrc (sb_srx rfl rfl) (wrc rfl (wrc rfl (wrc rfl rfl))))) rfl rfl) (by simp only [upd, zaa, za]; exact rfl) ?_
        refine zab rfl rfl rfl (zad (.inr rfl) (ev1 rfl)) ?_
        refine zae ?_
        refine zac ?_
        refine zab rfl rfl rfl (op_add' rfl (ev1 rfl) (ev1 rfl) (fun _ => IntWalk.i64_in _ (by omega))) ?_
        refine zab rfl rfl rfl (zad (.inl rfl) (ev1 rfl)) ?_
        refine zae ?_
        refine ⟨x + 1, [0, 1, 2, 3, 4], by omega, by simp only []; omega, rfl, ⟨by rw [gtP_yes hxW hh, List.length_append]; rfl, rfl, rfl, rfl, rfl, rfl, rfl, rfl, trivial⟩, ⟨zam rfl rfl rfl, rfl, rfl, rfl, by rw [gtP_yes hxW hh]; rfl, trivial⟩⟩
      · have hh : f.has (atN x y) = false := by simpa using hh
        have hxW : x < (w * 8).toNat := by omega
        have hyH : y < (h * 8).toNat := by omega
        have hyW2 : (y + 1) * (w * 8).toNat ≤ (h * 8).toNat * (w * 8).toNat := Nat.mul_le_mul_right _ hyH
        rw [Nat.succ_mul] at hyW2
        have hpi : inF32 (atN x y) := by unfold inF32 atN; simp only; omega
        have hpo : onS w h (atN x y).x (atN x y).y = true := onS_iff.2 ⟨by show (0 : Int) ≤ (x : Int) ∧ (x : Int) < w * 8; omega, by show (0 : Int) ≤ (y : Int) ∧ (y : Int) < h * 8; omega⟩
        refine zac ?_
        refine zab rfl rfl rfl (zad (.inl rfl) (ev1 rfl)) ?_
        refine zab rfl rfl rfl (zad (.inl rfl) (ev1 rfl)) ?_
        refine zab rfl rfl rfl (zad (.inl rfl) (ev1 rfl)) ?_
        refine zab rfl rfl rfl (zad (.inl rfl) (ev1 rfl)) ?_
        refine zab rfl rfl rfl (op_build (ps := [(0, .tmp 28), (1, .tmp 29)]) rfl fl26 zr26 (vc (ev1 rfl) (vc (ev1 rfl) vn)) rfl rfl) ?_
        refine zaj rfl rfl rfl (zai [0, 1, 2, 4] [] [] rfl (ev1 rfl) (ec (ev1 rfl) (ec (ev1 rfl) en)) rfl (by exact mfits _ _ ⟨zam rfl rfl rfl, rfl, rfl, rfl, trivial⟩) (fil1_n w h ds f k q _ (by omega) (atN x y) hpi hh) rfl rfl rfl (by exact (wrc (sb_srx rfl rfl) (wrc rfl (wrc rfl (wrc rfl rfl))))) rfl rfl) (by simp only [upd, zaa, za]; exact rfl) ?_
        refine zab rfl rfl rfl (zad (.inr rfl) (ev1 rfl)) ?_
        refine zae ?_
        refine zac ?_
        refine zab rfl rfl rfl (op_add' rfl (ev1 rfl) (ev1 rfl) (fun _ => IntWalk.i64_in _ (by omega))) ?_
        refine zab rfl rfl rfl (zad (.inl rfl) (ev1 rfl)) ?_
        refine zae ?_
        refine ⟨x + 1, [0, 1, 2, 3, 4], by omega, by simp only []; omega, rfl, ⟨by rw [gtP_no hxW hh]; rfl, rfl, rfl, rfl, rfl, rfl, rfl, rfl, trivial⟩, ⟨zam rfl rfl rfl, rfl, rfl, rfl, by rw [gtP_no hxW hh]; rfl, trivial⟩⟩
    · try simp only [decide_eq_true_eq, decide_eq_false_iff_not, beq_iff_eq, bne_iff_ne, beq_eq_false_iff_ne, bne_eq_false_iff_eq, Bool.not_eq_true', Bool.not_eq_false', Bool.and_eq_true, Bool.or_eq_true, Bool.or_eq_false_iff, ne_eq, Decidable.not_not, Int.not_lt, Int.not_le] at c2
      refine dwp_exit ?_
      refine zac ?_
      refine zab rfl rfl rfl (op_add' rfl (ev1 rfl) (ev1 rfl) (fun _ => IntWalk.i64_in _ (by omega))) ?_
      refine zab rfl rfl rfl (zad (.inl rfl) (ev1 rfl)) ?_
      refine zae ?_
      obtain rfl : x = (w * 8).toNat := by omega
      refine ⟨y + 1, [0, 1, 2, 3, 4], by omega, by simp only []; omega, rfl, ⟨by rw [Nat.succ_mul]; rfl, rfl, rfl, rfl, rfl, trivial⟩, ⟨zam rfl rfl rfl, rfl, rfl, rfl, by rw [Nat.succ_mul]; rfl, trivial⟩⟩
  · try simp only [decide_eq_true_eq, decide_eq_false_iff_not, beq_iff_eq, bne_iff_ne, beq_eq_false_iff_ne, bne_eq_false_iff_eq, Bool.not_eq_true', Bool.not_eq_false', Bool.and_eq_true, Bool.or_eq_true, Bool.or_eq_false_iff, ne_eq, Decidable.not_not, Int.not_lt, Int.not_le] at c1
    refine dwp_exit ?_
    refine zaf ?_
    refine zac ?_
    refine zab rfl rfl rfl (zad (.inl rfl) (ev1 rfl)) ?_
    refine zab rfl rfl rfl (zad (.inr rfl) (ev1 rfl)) ?_
    refine zae ?_
    refine dwp_hole ?_
    refine dwp_rel 4 4 (j := 5) rfl rfl (fmP_at _) rfl (by simp only [List.cons_append, List.nil_append, zaa, za]; exact rfl) ?_
    refine dwp_giveA 4 rfl rfl (by simp only [List.cons_append, List.nil_append, zaa, za]; exact rfl) ?_
    refine dwp_ret ?_
    obtain rfl : y = (h * 8).toNat := by omega
    refine kend [0, 1, 2] (rs1 rfl (rv_t rfl)) rfl rfl ?_ ⟨zam rfl rfl rfl, rfl, rfl, trivial⟩
    rfl
set_option maxRecDepth 4000 in
set_option maxHeartbeats 1000000 in
theorem fill_d (w h : Int) (ds : List D) (ts : List TL) (hr : RowOk ds ts) (hc : CvOk w h ts) (hg : tsRng ts) (p : P2) (tol : Int) (c : C4) (h0 : (refE w h [tol] [p]) = 0) : DFun Tryz.prog 15 [cvD w h ds, .val (.agg #[.int .i64 p.x, .int .i64 p.y]), .val (.int .i64 tol), .val (.agg (c4 c).toArray)] [] (.tup [cvD w h (dpR (putsC w h ts (dtsC c (rgP w h (rgF w h ts tol p))))), .val (.int .i64 0)]) [] := by
  obtain ⟨⟨ht, ht2⟩, hp⟩ := refE_ok h0
  have hpl := rgP_len hc.may (rgF w h ts tol p)
  refine zan (N := 31) 0 (by kernel_rfl) Tryz.func15 rfl rfl rfl (by simp only [fr0, Nat.zero_add, Nat.reduceAdd]; exact rfl) rfl fun s0 hs0 => ?_
  refine zaf ?_
  refine zah 2 (by simp only [holes, List.cons_append, List.nil_append]; exact rfl) ?_
  refine zac ?_
  refine zaj rfl rfl rfl (op_boxa 0 rfl (ev1 rfl) rfl) (by simp only [upd, zaa, za]; exact rfl) ?_
  refine zaj rfl rfl rfl (op_boxa 1 rfl (ev1 rfl) rfl) (by simp only [upd, zaa, za]; exact rfl) ?_
  refine zab rfl rfl rfl (zad (.inr rfl) (ev1 rfl)) ?_
  refine zab rfl rfl rfl (zad (.inr rfl) (ev1 rfl)) ?_
  refine zae ?_
  refine zaf ?_
  refine zaf ?_
  refine zac ?_
  refine zab rfl rfl rfl (zad (.inl rfl) (ev1 rfl)) ?_
  refine zab rfl rfl rfl (zad (.inl rfl) (ev1 rfl)) ?_
  refine zab rfl rfl rfl (op_bs (ps := [(0, .tmp 13)]) rfl sl61 zr3 rfl (vc (ev1 rfl) vn) rfl (by decide) (by decide)) ?_
  refine zab rfl rfl rfl (op_ldw rfl tb26 (ev1 rfl) rfl rfl) ?_
  refine zab rfl rfl rfl (op_bs (ps := [(0, .tmp 15)]) rfl sl55 zr26 rfl (vc (ev1 rfl) vn) rfl (by decide) (by decide)) ?_
  refine zab rfl rfl rfl (zai [] [] [] rfl (ev1 rfl) (ec (ev1 rfl) (ec (ev1 rfl) (ec (ev1 rfl) en))) rfl rfl (refuse_d w h ds ts hr hc [tol] [p]) rfl rfl rfl rfl rfl rfl) ?_
  refine zab rfl rfl rfl (zad (.inr rfl) (ev1 rfl)) ?_
  refine zae ?_
  refine zaf ?_
  refine zac ?_
  refine zab rfl rfl rfl (zad (.inl rfl) (ev1 rfl)) ?_
  refine zab rfl rfl rfl (op_neq rfl (ev1 rfl) (ev1 rfl)) ?_
  refine zae ?_
  refine dwp_if_f rfl (by rw [h0]; rfl) ?_
  refine zal ?_
  refine zaf ?_
  refine zah 3 (by simp only [holes, List.cons_append, List.nil_append]; exact rfl) ?_
  refine zac ?_
  refine zab rfl rfl rfl (zad (.inl rfl) (ev1 rfl)) ?_
  refine zab rfl rfl rfl (op_ldw rfl tb26 (ev1 rfl) rfl rfl) ?_
  refine zab rfl rfl rfl (zad (.inl rfl) (ev1 rfl)) ?_
  refine zaj rfl rfl rfl (zai [] [] [2, 3] rfl (ev1 rfl) (ec (ev1 rfl) (ec (ev1 rfl) (ec (ev1 rfl) en))) rfl rfl (region_o w h ds ts hr hc hg p hp tol ht) rfl rfl rfl (by exact (wrc (sb_srx rfl rfl) (wrc rfl rfl))) rfl rfl) (by simp only [upd, zaa, za]; exact rfl) ?_
  refine zaj rfl rfl rfl (op_alloc 4 rfl zr75 rfl) (by simp only [upd, zaa, za]; exact rfl) ?_
  refine walk_s rfl rfl (op_stfm rfl tb75 (ev1 rfl) (ev1 rfl) (fun s v h => by cases h <;> exact ⟨rfl, rfl⟩) rfl (by decide)) (by simp only [upd, zaa, za]; exact rfl) ?_
  refine zae ?_
  refine zaf ?_
  refine dwp_draw [([], []), ([1], []), ([4], []), ([], []), ([2, 3, 4], [2, 3, 4]), ([], []), ([], []), ([], [])] mixed (by kernel_rfl) ?_
  refine zag rfl rfl (zad (.inl rfl) (ev1 rfl)) ?_
  refine zag rfl rfl (op_ldw rfl tb44 (ev1 rfl) rfl rfl) ?_
  refine zag rfl rfl (op_ldm rfl tb75 (ev1 rfl) rfl rfl) ?_
  refine zag rfl rfl (op_mkf rfl en (ec (ev1 rfl) en)) ?_
  refine lex_w rfl rfl (zai [2, 3, 4] [] [] rfl (ev1 rfl) (ec (ev1 rfl) (ec (ev1 rfl) en)) rfl (by exact mfits _ _ ⟨zam rfl rfl rfl, rfl, rfl, trivial⟩) (gatF_d w h ds ts hr hc (rgF w h ts tol p) _ []) rfl rfl rfl (by exact (wrc (sb_srx rfl rfl) (wrc rfl (wrc rfl rfl)))) rfl rfl) rfl (by simp only [upd, zaa, za]; exact rfl) ?_
  refine zag rfl rfl (zai [] [] [] rfl (ev1 rfl) (ec (ev1 rfl) (ec (ev1 rfl) (ec (ev1 rfl) en))) rfl rfl (set_d w h ds ts hr hc c (rgP w h (rgF w h ts tol p)) (by omega)) rfl rfl rfl rfl rfl rfl) ?_
  refine zag rfl rfl (zad (.inr rfl) (ev1 rfl)) ?_
  refine zag rfl rfl (zad (.inr rfl) (ev1 rfl)) ?_
  refine lex_nil ?_
  refine dwp_ret ?_
  refine kend0 (rs2 rfl (rv_t rfl) (rv_t rfl)) rfl ?_
  rfl
def FD.le (f : FD) (B : Nat) : Prop := ∀ p, inF32 p → f.at p ≤ B
set_option maxRecDepth 4000 in
set_option maxHeartbeats 1000000 in
theorem steps_d (w h : Int) (ds : List D) (ts : List TL) (hr : RowOk ds ts) (hc : CvOk w h ts) (hg : tsRng ts) (p u : P2) (tol : Int) (h0 : (refE w h [tol] [p, u]) = 0) (hh : (rgF w h ts tol p).has u = true) : DFun Tryz.prog 20 [cvD w h ds, .val (.agg #[.int .i64 p.x, .int .i64 p.y]), .val (.agg #[.int .i64 u.x, .int .i64 u.y]), .val (.int .i64 tol)] [] (.tup [.val (.int .i64 ((((rgF w h ts tol p).at u : Nat) : Int) - 1)), .val (.int .i64 0)]) [] := by
  obtain ⟨⟨ht, ht2⟩, hp, hu⟩ := refE_two h0
  have hui := onP_in hc.may u hu
  have hat := rgF_le (ts := ts) (tol := tol) hc.may hp hui
  refine zan (N := 33) 0 (by kernel_rfl) Tryz.func20 rfl rfl rfl (by simp only [fr0, Nat.zero_add, Nat.reduceAdd]; exact rfl) rfl fun s0 hs0 => ?_
  refine zaf ?_
  refine zah 2 (by simp only [holes, List.cons_append, List.nil_append]; exact rfl) ?_
  refine zac ?_
  refine zaj rfl rfl rfl (op_boxa 0 rfl (ev1 rfl) rfl) (by simp only [upd, zaa, za]; exact rfl) ?_
  refine zaj rfl rfl rfl (op_boxa 1 rfl (ev1 rfl) rfl) (by simp only [upd, zaa, za]; exact rfl) ?_
  refine zab rfl rfl rfl (zad (.inr rfl) (ev1 rfl)) ?_
  refine zab rfl rfl rfl (zad (.inr rfl) (ev1 rfl)) ?_
  refine zae ?_
  refine zaf ?_
  refine zaf ?_
  refine zac ?_
  refine zab rfl rfl rfl (zad (.inl rfl) (ev1 rfl)) ?_
  refine zab rfl rfl rfl (zad (.inl rfl) (ev1 rfl)) ?_
  refine zab rfl rfl rfl (op_bs (ps := [(0, .tmp 13)]) rfl sl61 zr3 rfl (vc (ev1 rfl) vn) rfl (by decide) (by decide)) ?_
  refine zab rfl rfl rfl (op_ldw rfl tb26 (ev1 rfl) rfl rfl) ?_
  refine zab rfl rfl rfl (op_ldw rfl tb26 (ev1 rfl) rfl rfl) ?_
  refine zab rfl rfl rfl (op_bs (ps := [(0, .tmp 15), (1, .tmp 16)]) rfl sl55 zr26 rfl (vc (ev1 rfl) (vc (ev1 rfl) vn)) rfl (by decide) (by decide)) ?_
  refine zab rfl rfl rfl (zai [] [] [] rfl (ev1 rfl) (ec (ev1 rfl) (ec (ev1 rfl) (ec (ev1 rfl) en))) rfl rfl (refuse_d w h ds ts hr hc [tol] [p, u]) rfl rfl rfl rfl rfl rfl) ?_
  refine zab rfl rfl rfl (zad (.inr rfl) (ev1 rfl)) ?_
  refine zae ?_
  refine zaf ?_
  refine zac ?_
  refine zab rfl rfl rfl (zad (.inl rfl) (ev1 rfl)) ?_
  refine zab rfl rfl rfl (op_neq rfl (ev1 rfl) (ev1 rfl)) ?_
  refine zae ?_
  refine dwp_if_f rfl (by rw [h0]; rfl) ?_
  refine zal ?_
  refine zaf ?_
  refine zah 2 (by simp only [holes, List.cons_append, List.nil_append]; exact rfl) ?_
  refine zac ?_
  refine zab rfl rfl rfl (zad (.inl rfl) (ev1 rfl)) ?_
  refine zab rfl rfl rfl (op_ldw rfl tb26 (ev1 rfl) rfl rfl) ?_
  refine zab rfl rfl rfl (zad (.inl rfl) (ev1 rfl)) ?_
  refine zaj rfl rfl rfl (zai [] [] [2, 3] rfl (ev1 rfl) (ec (ev1 rfl) (ec (ev1 rfl) (ec (ev1 rfl) en))) rfl rfl (region_o w h ds ts hr hc hg p hp tol ht) rfl rfl rfl (by exact (wrc (sb_srx rfl rfl) (wrc rfl rfl))) rfl rfl) (by simp only [upd, zaa, za]; exact rfl) ?_
  refine zab rfl rfl rfl (zad (.inr rfl) (ev1 rfl)) ?_
  refine zae ?_
  refine zaf ?_
  refine zaf ?_
  refine zac ?_
  refine zab rfl rfl rfl (zad (.inl rfl) (ev1 rfl)) ?_
  refine zab rfl rfl rfl (op_ldw rfl tb26 (ev1 rfl) rfl rfl) ?_
  refine zaj rfl rfl rfl (zai [2, 3] [] [] rfl (ev1 rfl) (ec (ev1 rfl) (ec (ev1 rfl) en)) rfl (by exact mfits _ _ ⟨zam rfl rfl rfl, rfl, trivial⟩) (has_s w h ds (rgF w h ts tol p) _ [] u hui) rfl rfl rfl (by exact (wrc (sb_srx rfl rfl) (wrc rfl rfl))) rfl rfl) (by simp only [upd, zaa, za]; exact rfl) ?_
  refine zab rfl rfl rfl (op_not rfl (ev1 rfl)) ?_
  refine zae ?_
  refine dwp_if_f rfl (by rw [hh]; rfl) ?_
  refine zal ?_
  refine zaf ?_
  refine zac ?_
  refine zab rfl rfl rfl (zad (.inl rfl) (ev1 rfl)) ?_
  refine zab rfl rfl rfl (op_ldw rfl tb26 (ev1 rfl) rfl rfl) ?_
  refine zaj rfl rfl rfl (zai [2, 3] [] [] rfl (ev1 rfl) (ec (ev1 rfl) (ec (ev1 rfl) en)) rfl (by exact mfits _ _ ⟨zam rfl rfl rfl, rfl, trivial⟩) (steps_s w h ds (rgF w h ts tol p) _ [] u hui hat) rfl rfl rfl (by exact (wrc (sb_srx rfl rfl) (wrc rfl rfl))) rfl rfl) (by simp only [upd, zaa, za]; exact rfl) ?_
  refine zab rfl rfl rfl (zad (.inr rfl) (ev1 rfl)) ?_
  refine zab rfl rfl rfl (zad (.inr rfl) (ev1 rfl)) ?_
  refine zae ?_
  refine dwp_ret ?_
  refine kend0 (rs2 rfl (rv_t rfl) (rv_t rfl)) rfl ?_
  rfl
set_option maxRecDepth 4000 in
set_option maxHeartbeats 1000000 in
theorem steps_no (w h : Int) (ds : List D) (ts : List TL) (hr : RowOk ds ts) (hc : CvOk w h ts) (hg : tsRng ts) (p u : P2) (tol : Int) (h0 : (refE w h [tol] [p, u]) = 0) (hh : (rgF w h ts tol p).has u = false) : DFun Tryz.prog 20 [cvD w h ds, .val (.agg #[.int .i64 p.x, .int .i64 p.y]), .val (.agg #[.int .i64 u.x, .int .i64 u.y]), .val (.int .i64 tol)] [] (.tup [.val (.int .i64 0), .val (.int .i64 4)]) [] := by
  obtain ⟨⟨ht, ht2⟩, hp, hu⟩ := refE_two h0
  have hui := onP_in hc.may u hu
  refine zan (N := 33) 0 (by kernel_rfl) Tryz.func20 rfl rfl rfl (by simp only [fr0, Nat.zero_add, Nat.reduceAdd]; exact rfl) rfl fun s0 hs0 => ?_
  refine zaf ?_
  refine zah 2 (by simp only [holes, List.cons_append, List.nil_append]; exact rfl) ?_
  refine zac ?_
  refine zaj rfl rfl rfl (op_boxa 0 rfl (ev1 rfl) rfl) (by simp only [upd, zaa, za]; exact rfl) ?_
  refine zaj rfl rfl rfl (op_boxa 1 rfl (ev1 rfl) rfl) (by simp only [upd, zaa, za]; exact rfl) ?_
  refine zab rfl rfl rfl (zad (.inr rfl) (ev1 rfl)) ?_
  refine zab rfl rfl rfl (zad (.inr rfl) (ev1 rfl)) ?_
  refine zae ?_
  refine zaf ?_
  refine zaf ?_
  refine zac ?_
  refine zab rfl rfl rfl (zad (.inl rfl) (ev1 rfl)) ?_
  refine zab rfl rfl rfl (zad (.inl rfl) (ev1 rfl)) ?_
  refine zab rfl rfl rfl (op_bs (ps := [(0, .tmp 13)]) rfl sl61 zr3 rfl (vc (ev1 rfl) vn) rfl (by decide) (by decide)) ?_
  refine zab rfl rfl rfl (op_ldw rfl tb26 (ev1 rfl) rfl rfl) ?_
  refine zab rfl rfl rfl (op_ldw rfl tb26 (ev1 rfl) rfl rfl) ?_
  refine zab rfl rfl rfl (op_bs (ps := [(0, .tmp 15), (1, .tmp 16)]) rfl sl55 zr26 rfl (vc (ev1 rfl) (vc (ev1 rfl) vn)) rfl (by decide) (by decide)) ?_
  refine zab rfl rfl rfl (zai [] [] [] rfl (ev1 rfl) (ec (ev1 rfl) (ec (ev1 rfl) (ec (ev1 rfl) en))) rfl rfl (refuse_d w h ds ts hr hc [tol] [p, u]) rfl rfl rfl rfl rfl rfl) ?_
  refine zab rfl rfl rfl (zad (.inr rfl) (ev1 rfl)) ?_
  refine zae ?_
  refine zaf ?_
  refine zac ?_
  refine zab rfl rfl rfl (zad (.inl rfl) (ev1 rfl)) ?_
  refine zab rfl rfl rfl (op_neq rfl (ev1 rfl) (ev1 rfl)) ?_
  refine zae ?_
  refine dwp_if_f rfl (by rw [h0]; rfl) ?_
  refine zal ?_
  refine zaf ?_
  refine zah 2 (by simp only [holes, List.cons_append, List.nil_append]; exact rfl) ?_
  refine zac ?_
  refine zab rfl rfl rfl (zad (.inl rfl) (ev1 rfl)) ?_
  refine zab rfl rfl rfl (op_ldw rfl tb26 (ev1 rfl) rfl rfl) ?_
  refine zab rfl rfl rfl (zad (.inl rfl) (ev1 rfl)) ?_
  refine zaj rfl rfl rfl (zai [] [] [2, 3] rfl (ev1 rfl) (ec (ev1 rfl) (ec (ev1 rfl) (ec (ev1 rfl) en))) rfl rfl (region_o w h ds ts hr hc hg p hp tol ht) rfl rfl rfl (by exact (wrc (sb_srx rfl rfl) (wrc rfl rfl))) rfl rfl) (by simp only [upd, zaa, za]; exact rfl) ?_
  refine zab rfl rfl rfl (zad (.inr rfl) (ev1 rfl)) ?_
  refine zae ?_
  refine zaf ?_
  refine zaf ?_
  refine zac ?_
  refine zab rfl rfl rfl (zad (.inl rfl) (ev1 rfl)) ?_
  refine zab rfl rfl rfl (op_ldw rfl tb26 (ev1 rfl) rfl rfl) ?_
  refine zaj rfl rfl rfl (zai [2, 3] [] [] rfl (ev1 rfl) (ec (ev1 rfl) (ec (ev1 rfl) en)) rfl (by exact mfits _ _ ⟨zam rfl rfl rfl, rfl, trivial⟩) (has_s w h ds (rgF w h ts tol p) _ [] u hui) rfl rfl rfl (by exact (wrc (sb_srx rfl rfl) (wrc rfl rfl))) rfl rfl) (by simp only [upd, zaa, za]; exact rfl) ?_
  refine zab rfl rfl rfl (op_not rfl (ev1 rfl)) ?_
  refine zae ?_
  refine dwp_if_t rfl (by rw [hh]; rfl) ?_
  refine zaf ?_
  refine zac ?_
  refine zab rfl rfl rfl (zad (.inr rfl) (ev1 rfl)) ?_
  refine zab rfl rfl rfl (zad (.inr rfl) (ev1 rfl)) ?_
  refine zae ?_
  refine dwp_ret ?_
  refine kend0 (rs2 rfl (rv_t rfl) (rv_t rfl)) rfl ?_
  rfl
end Go.Proofs.YtfnhckildfbikaaGreat
namespace Go.Proofs.YtfnhckildfbikaaGreat
set_option maxRecDepth 4000
set_option linter.unusedVariables false
set_option linter.unusedSimpArgs false
open Go.RowKit
attribute [local irreducible] zFD srL goF bfsF
attribute [local irreducible] spF spN prK
set_option maxRecDepth 4000 in
set_option maxHeartbeats 1000000 in
theorem par1_y (w h : Int) (ds : List D) (ts : List TL) (hr : RowOk ds ts) (hc : CvOk w h ts) (hg : tsRng ts) (p : P2) (hp : onS w h p.x p.y = true) (tol : Int) (ht : 0 ≤ tol) (f : FD) (k : Nat) (l : List P2) (hl : l.length ≤ 5000) (hh : f.has p = true) : DFun Tryz.prog 46 [.farr 5 l.length, .val (.agg #[.int .i64 p.x, .int .i64 p.y]), .loc 2 0, .loc 3 0, .loc 4 0] [.mix 115 (srL (cvD w h ds) (f).l (.farr 1 (k))), .fam (fmQ (k) (([] : List P2))), .mix 75 [.loc 0 0], .mix 29 [cvD w h ds], .flat 3 [.int .i64 tol], .fam (fmP (l))] (.farr 5 l.length) [.mix 115 (srL (cvD w h ds) (f).l (.farr 1 (k))), .fam (fmQ (k) (([] : List P2))), .mix 75 [.loc 0 0], .mix 29 [cvD w h ds], .flat 3 [.int .i64 tol], .fam (fmP (l))] := by
  have hpi := onP_in hc.may p hp
  refine zan (N := 23) 6 (by kernel_rfl) Tryz.func46 rfl rfl rfl (by simp only [fr0, Nat.zero_add, Nat.reduceAdd]; exact rfl) rfl fun s0 hs0 => ?_
  refine zaf ?_
  refine zah 1 (by simp only [holes, List.cons_append, List.nil_append]; exact rfl) ?_
  refine zac ?_
  refine zaj rfl rfl rfl (op_boxa 6 rfl (ev1 rfl) rfl) (by simp only [upd, zaa, za]; exact rfl) ?_
  refine zab rfl rfl rfl (zad (.inr rfl) (ev1 rfl)) ?_
  refine zae ?_
  refine zaf ?_
  refine zaf ?_
  refine zac ?_
  refine zab rfl rfl rfl (op_ldm rfl tb75 (ev1 rfl) rfl rfl) ?_
  refine zab rfl rfl rfl (op_ldw rfl tb26 (ev1 rfl) rfl rfl) ?_
  refine zaj rfl rfl rfl (zai [0, 1] [] [] rfl (ev1 rfl) (ec (ev1 rfl) (ec (ev1 rfl) en)) rfl (by exact mfits _ _ ⟨zam rfl rfl rfl, rfl, trivial⟩) (has_s w h ds f k [] p hpi) rfl rfl rfl (by exact (wrc (sb_srx rfl rfl) (wrc rfl rfl))) rfl rfl) (by simp only [upd, zaa, za]; exact rfl) ?_
  refine zae ?_
  refine dwp_if_t rfl (by rw [hh]) ?_
  refine zaf ?_
  refine zac ?_
  refine zab rfl rfl rfl (zad (.inl rfl) (ev1 rfl)) ?_
  refine zab rfl rfl rfl (zad (.inr rfl) (ev1 rfl)) ?_
  refine zae ?_
  refine dwp_ret ?_
  refine kend [0, 1, 2, 3, 4, 5] (rs1 rfl (rv_t rfl)) rfl rfl ?_ ⟨zam rfl rfl rfl, rfl, rfl, rfl, rfl, rfl, trivial⟩
  rfl
set_option maxRecDepth 4000 in
set_option maxHeartbeats 1000000 in
theorem par1_n (w h : Int) (ds : List D) (ts : List TL) (hr : RowOk ds ts) (hc : CvOk w h ts) (hg : tsRng ts) (p : P2) (hp : onS w h p.x p.y = true) (tol : Int) (ht : 0 ≤ tol) (f : FD) (k : Nat) (l : List P2) (hl : l.length ≤ 5000) (hh : f.has p = false) : DFun Tryz.prog 46 [.farr 5 l.length, .val (.agg #[.int .i64 p.x, .int .i64 p.y]), .loc 2 0, .loc 3 0, .loc 4 0] [.mix 115 (srL (cvD w h ds) (f).l (.farr 1 (k))), .fam (fmQ (k) (([] : List P2))), .mix 75 [.loc 0 0], .mix 29 [cvD w h ds], .flat 3 [.int .i64 tol], .fam (fmP (l))] (.farr 5 (l ++ [p]).length) [.mix 115 (srL (cvD w h ds) ((spF (onP w h) (nearP w ts tol (getC w ts p.x p.y)) f p)).l (.farr 1 ((spN (onP w h) (nearP w ts tol (getC w ts p.x p.y)) k f p)))), .fam (fmQ ((spN (onP w h) (nearP w ts tol (getC w ts p.x p.y)) k f p)) (([] : List P2))), .mix 75 [.loc 0 0], .mix 29 [cvD w h ds], .flat 3 [.int .i64 tol], .fam (fmP (l ++ [p]))] := by
  have hpi := onP_in hc.may p hp
  have h0 := hasF_no hh
  refine zan (N := 23) 6 (by kernel_rfl) Tryz.func46 rfl rfl rfl (by simp only [fr0, Nat.zero_add, Nat.reduceAdd]; exact rfl) rfl fun s0 hs0 => ?_
  refine zaf ?_
  refine zah 1 (by simp only [holes, List.cons_append, List.nil_append]; exact rfl) ?_
  refine zac ?_
  refine zaj rfl rfl rfl (op_boxa 6 rfl (ev1 rfl) rfl) (by simp only [upd, zaa, za]; exact rfl) ?_
  refine zab rfl rfl rfl (zad (.inr rfl) (ev1 rfl)) ?_
  refine zae ?_
  refine zaf ?_
  refine zaf ?_
  refine zac ?_
  refine zab rfl rfl rfl (op_ldm rfl tb75 (ev1 rfl) rfl rfl) ?_
  refine zab rfl rfl rfl (op_ldw rfl tb26 (ev1 rfl) rfl rfl) ?_
  refine zaj rfl rfl rfl (zai [0, 1] [] [] rfl (ev1 rfl) (ec (ev1 rfl) (ec (ev1 rfl) en)) rfl (by exact mfits _ _ ⟨zam rfl rfl rfl, rfl, trivial⟩) (has_s w h ds f k [] p hpi) rfl rfl rfl (by exact (wrc (sb_srx rfl rfl) (wrc rfl rfl))) rfl rfl) (by simp only [upd, zaa, za]; exact rfl) ?_
  refine zae ?_
  refine dwp_if_f rfl (by rw [hh]) ?_
  refine zal ?_
  refine zaf ?_
  refine zah 3 (by simp only [holes, List.cons_append, List.nil_append]; exact rfl) ?_
  refine dwp_draw [([2], []), ([6], []), ([3], []), ([6], []), ([4], []), ([7, 8, 9], [7, 8, 9]), ([0, 1, 7, 8, 9], [0, 1, 7, 8, 9])] mixed (by kernel_rfl) ?_
  refine zag rfl rfl (op_ldm rfl tb75 (ev1 rfl) rfl rfl) ?_
  refine zag rfl rfl (op_ldw rfl tb26 (ev1 rfl) rfl rfl) ?_
  refine zag rfl rfl (op_ldm rfl tb29 (ev1 rfl) rfl rfl) ?_
  refine zag rfl rfl (op_ldw rfl tb26 (ev1 rfl) rfl rfl) ?_
  refine zag rfl rfl (op_ldo rfl tb3 (ev1 rfl) rfl rfl) ?_
  refine lex_w rfl rfl (zai [] [] [7, 8, 9] rfl (ev1 rfl) (ec (ev1 rfl) (ec (ev1 rfl) (ec (ev1 rfl) en))) rfl rfl (like_d w h ds ts hr hc hg p tol hp) rfl rfl rfl rfl rfl rfl) rfl (by simp only [upd, zaa, za]; exact rfl) ?_
  refine lex_w rfl rfl (zai [0, 1, 7, 8, 9] [] [] rfl (ev1 rfl) (ec (ev1 rfl) (ec (ev1 rfl) (ec (ev1 rfl) en))) rfl (by exact mfits _ _ ⟨zam rfl rfl rfl, rfl, rfl, rfl, rfl, trivial⟩) (spread_d w h ds ts hr hc hg p hp (getC w ts p.x p.y) (getC_rng hg _ _ _) tol ht f k h0) rfl rfl rfl (by exact (wrc (sb_srx rfl rfl) (wrc rfl (wrc rfl (wrc rfl (wrc rfl rfl)))))) rfl rfl) rfl (by simp only [upd, zaa, za]; exact rfl) ?_
  refine lex_nil ?_
  refine zaf ?_
  refine zah 2 (by simp only [holes, List.cons_append, List.nil_append]; exact rfl) ?_
  refine zac ?_
  refine zab rfl rfl rfl (zad (.inl rfl) (ev1 rfl)) ?_
  refine zab rfl rfl rfl (op_ldw rfl tb26 (ev1 rfl) rfl rfl) ?_
  refine zab rfl rfl rfl (op_bs (ps := [(0, .tmp 20)]) rfl sl55 zr26 rfl (vc (ev1 rfl) vn) rfl (by decide) (by decide)) ?_
  refine zaj rfl rfl rfl (op_appF (j1 := 10) (j2 := 11) rfl rfl sl55 zr26 rfl (ev1 rfl) (ev1 rfl) rfl (fmP_at l) rfl rfl rfl (fun _ => rfl) (fun _ => ⟨by omega, by omega⟩)) (by simp only [upd, zaa, za]; exact rfl) ?_
  refine zab rfl rfl rfl (zad (.inr rfl) (ev1 rfl)) ?_
  refine zae ?_
  refine dwp_ret ?_
  refine kend [0, 1, 2, 3, 4, 5] (rs1 rfl (rv_t rfl)) rfl rfl ?_ ⟨zam rfl rfl rfl, rfl, rfl, rfl, rfl, congrArg (fun B => some (Blk.fam B)) (fmP_add l p), trivial⟩
  rw [fmP_len, List.length_append]
  rfl
set_option maxRecDepth 4000 in
set_option maxHeartbeats 1000000 in
theorem gatP_d (w h : Int) (ds : List D) (ts : List TL) (hr : RowOk ds ts) (hc : CvOk w h ts) (hg : tsRng ts) (tol : Int) (ht : 0 ≤ tol) : DFun Tryz.prog 40 [.loc 0 0, .fn (.func 46) [] [.loc 2 0, .loc 3 0, .loc 4 0]] [.mix 115 (srL (cvD w h ds) (zFD).l (.farr 1 (0))), .fam (fmQ (0) (([] : List P2))), .mix 75 [.loc 0 0], .mix 29 [cvD w h ds], .flat 3 [.int .i64 tol]] (.slf 2 ((prK w h ts tol ((h * 8).toNat * (w * 8).toNat)).2.2).length (((prK w h ts tol ((h * 8).toNat * (w * 8).toNat)).2.2).flatMap p2)) [.mix 115 (srL (cvD w h ds) ((prK w h ts tol ((h * 8).toNat * (w * 8).toNat)).1).l (.farr 1 ((prK w h ts tol ((h * 8).toNat * (w * 8).toNat)).2.1))), .fam (fmQ ((prK w h ts tol ((h * 8).toNat * (w * 8).toNat)).2.1) (([] : List P2))), .mix 75 [.loc 0 0], .mix 29 [cvD w h ds], .flat 3 [.int .i64 tol]] := by
  have hb := mayS_b hc.may
  have hW : ((w * 8).toNat : Int) = w * 8 := by omega
  have hH : ((h * 8).toNat : Int) = h * 8 := by omega
  have hWH : (h * 8).toNat * (w * 8).toNat ≤ 32 * 32 := Nat.mul_le_mul (by omega) (by omega)
  refine zan (N := 35) 5 (by kernel_rfl) Tryz.func40 rfl rfl rfl (by simp only [fr0, Nat.zero_add, Nat.reduceAdd]; exact rfl) rfl fun s0 hs0 => ?_
  refine zaf ?_
  refine zac ?_
  refine zab rfl rfl rfl (zad (.inr rfl) (ev1 rfl)) ?_
  refine zae ?_
  refine zaf ?_
  refine zac ?_
  refine zab rfl rfl rfl (zad (.inr rfl) (ev1 rfl)) ?_
  refine zae ?_
  refine zaf ?_
  refine dwp_adopt (m := 5) 5 26 2 rfl rfl rfl ?_
  refine dwp_hole ?_
  refine dwp_fam 6 rfl (by simp only [List.cons_append, List.nil_append, zaa, za]; exact rfl) ?_
  refine zac ?_
  refine zab rfl rfl rfl (zad (.inl rfl) (ev1 rfl)) ?_
  refine zab rfl rfl rfl (op_nc rfl (ev1 rfl) (fun s v h => by cases h; exact ⟨_, rfl⟩)) ?_
  refine zab rfl rfl rfl (op_fa rfl fo115_0 (ev1 rfl)) ?_
  refine zab rfl rfl rfl (op_ldm rfl tb29 (ev1 rfl) rfl (srL_0 rfl)) ?_
  refine zab rfl rfl rfl (zai [] [] [] rfl (ev1 rfl) (ec (ev1 rfl) en) rfl rfl (size_d w h ds ts hr hc) rfl rfl rfl rfl rfl rfl) ?_
  refine zab rfl rfl rfl (zad (.inl rfl) (ev1 rfl)) ?_
  refine zab rfl rfl rfl (op_ext rfl (ev1 rfl) rfl) ?_
  refine zab rfl rfl rfl (op_ext rfl (ev1 rfl) rfl) ?_
  refine zab rfl rfl rfl (zad (.inr rfl) (ev1 rfl)) ?_
  refine zab rfl rfl rfl (zad (.inr rfl) (ev1 rfl)) ?_
  refine zae ?_
  refine zaf ?_
  refine zaf ?_
  refine dwp_abs 5 6 rfl rfl rfl (by simp only [zaa, za]; exact rfl) ?_
  refine zac ?_
  refine zab rfl rfl rfl (zad (.inl rfl) (ev1 rfl)) ?_
  refine zab rfl rfl rfl (zad (.inl rfl) (ev1 rfl)) ?_
  refine zae ?_
  refine zak ?_
  refine dwp_loopS ⟨hs0, rfl⟩ (α := Nat) (fun y => [(5, .farr 6 (prK w h ts tol (y * (w * 8).toNat)).2.2.length), (19, .val (.int .i64 (y : Int)))]) [(1, _), (6, _), (18, _)] (fun y => [(0, .mix 115 (srL (cvD w h ds) ((prK w h ts tol (y * (w * 8).toNat)).1).l (.farr 1 ((prK w h ts tol (y * (w * 8).toNat)).2.1)))), (1, .fam (fmQ ((prK w h ts tol (y * (w * 8).toNat)).2.1) (([] : List P2)))), (6, .fam (fmP ((prK w h ts tol (y * (w * 8).toNat)).2.2)))]) [.hole, .hole, _, _, _, _, .hole] (fun y => y ≤ (h * 8).toNat) (fun y => (h * 8).toNat - y) 0 [0, 1, 2, 3, 4, 5, 6] (Nat.zero_le _) rfl ⟨rfl, rfl, rfl, trivial⟩ ⟨by rw [Nat.zero_mul, prK_zero]; rfl, rfl, trivial⟩ ⟨zam (by rw [Nat.zero_mul, prK_zero]) rfl (by rw [Nat.zero_mul, prK_zero]; rfl), by rw [Nat.zero_mul, prK_zero]; rfl, rfl, rfl, rfl, rfl, by rw [Nat.zero_mul, prK_zero]; rfl, trivial⟩ ?_
  intro y hx
  simp only [upd, zaa, za, List.cons_append, List.nil_append]
  have hy0 := hx
  have hyW : y * (w * 8).toNat ≤ (h * 8).toNat * (w * 8).toNat := Nat.mul_le_mul_right _ hy0
  refine zaf ?_
  refine zac ?_
  refine zab rfl rfl rfl (op_lss rfl (ev1 rfl) (ev1 rfl)) ?_
  refine zae ?_
  refine zaf ?_
  refine dwp_cond rfl (fun c1 => ?_) (fun c1 => ?_)
  · try simp only [decide_eq_true_eq, decide_eq_false_iff_not, beq_iff_eq, bne_iff_ne, beq_eq_false_iff_ne, bne_eq_false_iff_eq, Bool.not_eq_true', Bool.not_eq_false', Bool.and_eq_true, Bool.or_eq_true, Bool.or_eq_false_iff, ne_eq, Decidable.not_not, Int.not_lt, Int.not_le] at c1
    refine zal ?_
    refine zaf ?_
    refine zak ?_
    refine zaf ?_
    refine zac ?_
    refine zab rfl rfl rfl (zad (.inl rfl) (ev1 rfl)) ?_
    refine zab rfl rfl rfl (zad (.inr rfl) (ev1 rfl)) ?_
    refine zae ?_
    refine zaf ?_
    refine zac ?_
    refine zab rfl rfl rfl (zad (.inl rfl) (ev1 rfl)) ?_
    refine zab rfl rfl rfl (zad (.inl rfl) (ev1 rfl)) ?_
    refine zae ?_
    refine zak ?_
    refine dwp_loopS ⟨hs0, rfl⟩ (α := Nat) (fun x => [(5, .farr 6 (prK w h ts tol (y * (w * 8).toNat + x)).2.2.length), (23, .val (.int .i64 (x : Int)))]) [(1, _), (6, _), (8, _), (18, _), (19, _), (22, _)] (fun x => [(0, .mix 115 (srL (cvD w h ds) ((prK w h ts tol (y * (w * 8).toNat + x)).1).l (.farr 1 ((prK w h ts tol (y * (w * 8).toNat + x)).2.1)))), (1, .fam (fmQ ((prK w h ts tol (y * (w * 8).toNat + x)).2.1) (([] : List P2)))), (6, .fam (fmP ((prK w h ts tol (y * (w * 8).toNat + x)).2.2)))]) [.hole, .hole, _, _, _, _, .hole] (fun x => x ≤ (w * 8).toNat) (fun x => (w * 8).toNat - x) 0 [0, 1, 2, 3, 4, 5, 6] (Nat.zero_le _) rfl ⟨rfl, rfl, rfl, rfl, rfl, rfl, trivial⟩ ⟨by rw [Nat.add_zero]; rfl, rfl, trivial⟩ ⟨zam (by rw [Nat.add_zero]) rfl (by rw [Nat.add_zero]; rfl), by rw [Nat.add_zero]; rfl, rfl, rfl, rfl, rfl, by rw [Nat.add_zero]; rfl, trivial⟩ ?_
    intro x hx
    simp only [upd, zaa, za, List.cons_append, List.nil_append]
    have hx0 := hx
    have hpl := prK_len w h ts tol (y * (w * 8).toNat + x)
    refine zaf ?_
    refine zac ?_
    refine zab rfl rfl rfl (op_lss rfl (ev1 rfl) (ev1 rfl)) ?_
    refine zae ?_
    refine zaf ?_
    refine dwp_cond rfl (fun c2 => ?_) (fun c2 => ?_)
    · try simp only [decide_eq_true_eq, decide_eq_false_iff_not, beq_iff_eq, bne_iff_ne, beq_eq_false_iff_ne, bne_eq_false_iff_eq, Bool.not_eq_true', Bool.not_eq_false', Bool.and_eq_true, Bool.or_eq_true, Bool.or_eq_false_iff, ne_eq, Decidable.not_not, Int.not_lt, Int.not_le] at c2
      refine zal ?_
      refine zaf ?_
      refine zak ?_
      refine zaf ?_
      refine zac ?_
      refine zab rfl rfl rfl (zad (.inl rfl) (ev1 rfl)) ?_
      refine zab rfl rfl rfl (zad (.inr rfl) (ev1 rfl)) ?_
      refine zae ?_
      by_cases hh : (prK w h ts tol (y * (w * 8).toNat + x)).1.has (atN x y) = true
      · have hxW : x < (w * 8).toNat := by omega
        have hyH : y < (h * 8).toNat := by omega
        have hyW2 : (y + 1) * (w * 8).toNat ≤ (h * 8).toNat * (w * 8).toNat := Nat.mul_le_mul_right _ hyH
        rw [Nat.succ_mul] at hyW2
        have hpi : inF32 (atN x y) := by unfold inF32 atN; simp only; omega
        have hpo : onS w h (atN x y).x (atN x y).y = true := onS_iff.2 ⟨by show (0 : Int) ≤ (x : Int) ∧ (x : Int) < w * 8; omega, by show (0 : Int) ≤ (y : Int) ∧ (y : Int) < h * 8; omega⟩
        refine zac ?_
        refine zab rfl rfl rfl (zad (.inl rfl) (ev1 rfl)) ?_
        refine zab rfl rfl rfl (zad (.inl rfl) (ev1 rfl)) ?_
        refine zab rfl rfl rfl (zad (.inl rfl) (ev1 rfl)) ?_
        refine zab rfl rfl rfl (zad (.inl rfl) (ev1 rfl)) ?_
        refine zab rfl rfl rfl (op_build (ps := [(0, .tmp 28), (1, .tmp 29)]) rfl fl26 zr26 (vc (ev1 rfl) (vc (ev1 rfl) vn)) rfl rfl) ?_
        refine zaj rfl rfl rfl (zai [0, 1, 2, 3, 4, 6] [] [] rfl (ev1 rfl) (ec (ev1 rfl) (ec (ev1 rfl) en)) rfl (by exact mfits _ _ ⟨zam rfl rfl rfl, rfl, rfl, rfl, rfl, rfl, trivial⟩) (par1_y w h ds ts hr hc hg (atN x y) hpo tol ht _ _ _ (by omega) hh) rfl rfl rfl (by exact (wrc (sb_srx rfl rfl) (wrc rfl (wrc rfl (wrc rfl (wrc rfl (wrc rfl rfl))))))) rfl rfl) (by simp only [upd, zaa, za]; exact rfl) ?_
        refine zab rfl rfl rfl (zad (.inr rfl) (ev1 rfl)) ?_
        refine zae ?_
        refine zac ?_
        refine zab rfl rfl rfl (op_add' rfl (ev1 rfl) (ev1 rfl) (fun _ => IntWalk.i64_in _ (by omega))) ?_
        refine zab rfl rfl rfl (zad (.inl rfl) (ev1 rfl)) ?_
        refine zae ?_
        refine ⟨x + 1, [0, 1, 2, 3, 4, 5, 6], by omega, by simp only []; omega, rfl, ⟨by rw [prK_add hxW, prV_yes hh]; rfl, rfl, rfl, rfl, rfl, rfl, rfl, rfl, trivial⟩, ⟨zam (by rw [prK_add hxW, prV_yes hh]) rfl (by rw [prK_add hxW, prV_yes hh]; rfl), by rw [prK_add hxW, prV_yes hh]; rfl, rfl, rfl, rfl, rfl, by rw [prK_add hxW, prV_yes hh]; rfl, trivial⟩⟩
      · have hh : (prK w h ts tol (y * (w * 8).toNat + x)).1.has (atN x y) = false := by simpa using hh
        have hxW : x < (w * 8).toNat := by omega
        have hyH : y < (h * 8).toNat := by omega
        have hyW2 : (y + 1) * (w * 8).toNat ≤ (h * 8).toNat * (w * 8).toNat := Nat.mul_le_mul_right _ hyH
        rw [Nat.succ_mul] at hyW2
        have hpi : inF32 (atN x y) := by unfold inF32 atN; simp only; omega
        have hpo : onS w h (atN x y).x (atN x y).y = true := onS_iff.2 ⟨by show (0 : Int) ≤ (x : Int) ∧ (x : Int) < w * 8; omega, by show (0 : Int) ≤ (y : Int) ∧ (y : Int) < h * 8; omega⟩
        refine zac ?_
        refine zab rfl rfl rfl (zad (.inl rfl) (ev1 rfl)) ?_
        refine zab rfl rfl rfl (zad (.inl rfl) (ev1 rfl)) ?_
        refine zab rfl rfl rfl (zad (.inl rfl) (ev1 rfl)) ?_
        refine zab rfl rfl rfl (zad (.inl rfl) (ev1 rfl)) ?_
        refine zab rfl rfl rfl (op_build (ps := [(0, .tmp 28), (1, .tmp 29)]) rfl fl26 zr26 (vc (ev1 rfl) (vc (ev1 rfl) vn)) rfl rfl) ?_
        refine zaj rfl rfl rfl (zai [0, 1, 2, 3, 4, 6] [] [] rfl (ev1 rfl) (ec (ev1 rfl) (ec (ev1 rfl) en)) rfl (by exact mfits _ _ ⟨zam rfl rfl rfl, rfl, rfl, rfl, rfl, rfl, trivial⟩) (par1_n w h ds ts hr hc hg (atN x y) hpo tol ht _ _ _ (by omega) hh) rfl rfl rfl (by exact (wrc (sb_srx rfl rfl) (wrc rfl (wrc rfl (wrc rfl (wrc rfl (wrc rfl rfl))))))) rfl rfl) (by simp only [upd, zaa, za]; exact rfl) ?_
        refine zab rfl rfl rfl (zad (.inr rfl) (ev1 rfl)) ?_
        refine zae ?_
        refine zac ?_
        refine zab rfl rfl rfl (op_add' rfl (ev1 rfl) (ev1 rfl) (fun _ => IntWalk.i64_in _ (by omega))) ?_
        refine zab rfl rfl rfl (zad (.inl rfl) (ev1 rfl)) ?_
        refine zae ?_
        refine ⟨x + 1, [0, 1, 2, 3, 4, 5, 6], by omega, by simp only []; omega, rfl, ⟨by rw [prK_add hxW, prV_no hh]; rfl, rfl, rfl, rfl, rfl, rfl, rfl, rfl, trivial⟩, ⟨zam (by rw [prK_add hxW, prV_no hh]) rfl (by rw [prK_add hxW, prV_no hh]; rfl), by rw [prK_add hxW, prV_no hh]; rfl, rfl, rfl, rfl, rfl, by rw [prK_add hxW, prV_no hh]; rfl, trivial⟩⟩
    · try simp only [decide_eq_true_eq, decide_eq_false_iff_not, beq_iff_eq, bne_iff_ne, beq_eq_false_iff_ne, bne_eq_false_iff_eq, Bool.not_eq_true', Bool.not_eq_false', Bool.and_eq_true, Bool.or_eq_true, Bool.or_eq_false_iff, ne_eq, Decidable.not_not, Int.not_lt, Int.not_le] at c2
      refine dwp_exit ?_
      refine zac ?_
      refine zab rfl rfl rfl (op_add' rfl (ev1 rfl) (ev1 rfl) (fun _ => IntWalk.i64_in _ (by omega))) ?_
      refine zab rfl rfl rfl (zad (.inl rfl) (ev1 rfl)) ?_
      refine zae ?_
      obtain rfl : x = (w * 8).toNat := by omega
      refine ⟨y + 1, [0, 1, 2, 3, 4, 5, 6], by omega, by simp only []; omega, rfl, ⟨by rw [Nat.succ_mul]; rfl, rfl, rfl, rfl, rfl, trivial⟩, ⟨zam (by rw [Nat.succ_mul]) rfl (by rw [Nat.succ_mul]; rfl), by rw [Nat.succ_mul]; rfl, rfl, rfl, rfl, rfl, by rw [Nat.succ_mul]; rfl, trivial⟩⟩
  · try simp only [decide_eq_true_eq, decide_eq_false_iff_not, beq_iff_eq, bne_iff_ne, beq_eq_false_iff_ne, bne_eq_false_iff_eq, Bool.not_eq_true', Bool.not_eq_false', Bool.and_eq_true, Bool.or_eq_true, Bool.or_eq_false_iff, ne_eq, Decidable.not_not, Int.not_lt, Int.not_le] at c1
    refine dwp_exit ?_
    refine zaf ?_
    refine zac ?_
    refine zab rfl rfl rfl (zad (.inl rfl) (ev1 rfl)) ?_
    refine zab rfl rfl rfl (zad (.inr rfl) (ev1 rfl)) ?_
    refine zae ?_
    refine dwp_hole ?_
    refine dwp_rel 4 6 (j := 7) rfl rfl (fmP_at _) rfl (by simp only [List.cons_append, List.nil_append, zaa, za]; exact rfl) ?_
    refine dwp_giveA 4 rfl rfl (by simp only [List.cons_append, List.nil_append, zaa, za]; exact rfl) ?_
    refine dwp_ret ?_
    obtain rfl : y = (h * 8).toNat := by omega
    refine kend [0, 1, 2, 3, 4] (rs1 rfl (rv_t rfl)) rfl rfl ?_ ⟨zam rfl rfl rfl, rfl, rfl, rfl, rfl, trivial⟩
    rfl
end Go.Proofs.YtfnhckildfbikaaGreat
namespace Go.Proofs.YtfnhckildfbikaaGreat
set_option maxRecDepth 4000
set_option linter.unusedVariables false
set_option linter.unusedSimpArgs false
open Go.RowKit
attribute [local irreducible] zFD srL goF bfsF
attribute [local irreducible] spF spN prK
def pcV (w h : Int) (ts : List TL) (t : Int) : Int := ((prN w h ts t : Nat) : Int)
theorem refE_nop {w h : Int} {l : List Int} (h0 : refE w h l [] = 0) : ∀ t ∈ l, 0 ≤ t ∧ t ≤ 1020 := by
  intro t ht
  refine badT_no ?_
  unfold refE at h0
  split at h0
  · omega
  · rename_i h1
    have := h1
    simp only [Bool.not_eq_true, List.any_eq_false] at this
    simpa using this t ht
theorem iv_add {f : Int → Int} {l : List Int} {i : Nat} (hi : i < l.length) : ((l.take i).map f).flatMap iV ++ [Value.int .i64 (f l[i])] = ((l.take (i + 1)).map f).flatMap iV := by
  rw [List.take_succ_eq_append_getElem hi, List.map_append, List.flatMap_append]
  rfl
set_option maxRecDepth 4000 in
set_option maxHeartbeats 1000000 in
theorem parts_d (w h : Int) (ds : List D) (ts : List TL) (hr : RowOk ds ts) (hc : CvOk w h ts) (hg : tsRng ts) (l : List Int) (h0 : (refE w h l []) = 0) (hl : l.length ≤ 5000) : DFun Tryz.prog 19 [cvD w h ds, .slf 1 l.length (l.flatMap iV)] [] (.tup [.slf 1 ((l).map (pcV w h ts)).length (((l).map (pcV w h ts)).flatMap iV), .val (.int .i64 0)]) [] := by
  have hall := refE_nop h0
  refine zan (N := 39) 0 (by kernel_rfl) Tryz.func19 rfl rfl rfl (by simp only [fr0, Nat.zero_add, Nat.reduceAdd]; exact rfl) rfl fun s0 hs0 => ?_
  refine dwp_len (t := 1) rfl fun hl1 hL1 => ?_
  refine zaf ?_
  refine zah 1 (by simp only [holes, List.cons_append, List.nil_append]; exact rfl) ?_
  refine zac ?_
  refine zaj rfl rfl rfl (op_boxm 0 rfl (ev1 rfl) (fun s v h => by cases h <;> rfl) rfl) (by simp only [upd, zaa, za]; exact rfl) ?_
  refine zab rfl rfl rfl (zad (.inr rfl) (ev1 rfl)) ?_
  refine zab rfl rfl rfl (zad (.inr rfl) (ev1 rfl)) ?_
  refine zae ?_
  refine zaf ?_
  refine zaf ?_
  refine zac ?_
  refine zab rfl rfl rfl (op_ldm rfl tb29 (ev1 rfl) rfl rfl) ?_
  refine zab rfl rfl rfl (zad (.inl rfl) (ev1 rfl)) ?_
  refine zab rfl rfl rfl (zai [] [] [] rfl (ev1 rfl) (ec (ev1 rfl) (ec (ev1 rfl) (ec (evnil 2 (ev1 rfl)) en))) rfl rfl (refuse_d w h ds ts hr hc l []) rfl rfl rfl rfl rfl rfl) ?_
  refine zab rfl rfl rfl (zad (.inr rfl) (ev1 rfl)) ?_
  refine zae ?_
  refine zaf ?_
  refine zac ?_
  refine zab rfl rfl rfl (zad (.inl rfl) (ev1 rfl)) ?_
  refine zab rfl rfl rfl (op_neq rfl (ev1 rfl) (ev1 rfl)) ?_
  refine zae ?_
  refine dwp_if_f rfl (by rw [h0]; rfl) ?_
  refine zal ?_
  refine zaf ?_
  refine zah 1 (by simp only [holes, List.cons_append, List.nil_append]; exact rfl) ?_
  refine zac ?_
  refine zab rfl rfl rfl (zad (.inl rfl) (ev1 rfl)) ?_
  refine zab rfl rfl rfl (op_len rfl sl61 (ev1 rfl)) ?_
  refine zaj rfl rfl rfl (op_mk0 1 (l.length) rfl sl61 zr3 (ev1 rfl) (ev1 rfl) (fun _ => rfl) (fun _ => by omega) rfl (fun _ => ⟨by omega, by omega⟩)) (by simp only [upd, zaa, za]; exact rfl) ?_
  refine zab rfl rfl rfl (zad (.inr rfl) (ev1 rfl)) ?_
  refine zae ?_
  refine zaf ?_
  refine zaf ?_
  refine zac ?_
  refine zab rfl rfl rfl (zad (.inl rfl) (ev1 rfl)) ?_
  refine zab rfl rfl rfl (op_len rfl sl61 (ev1 rfl)) ?_
  refine zab rfl rfl rfl (zad (.inl rfl) (ev1 rfl)) ?_
  refine zae ?_
  refine zak ?_
  refine dwp_loopS ⟨hs0, rfl⟩ (α := Nat) (fun i => [(23, .val (.int .i64 (i : Int)))]) [(2, _), (7, _), (21, _), (22, _)] (fun i => [(1, .arr 3 1 ((l.take i).map (pcV w h ts)).length (((l.take i).map (pcV w h ts)).flatMap iV))]) [_, .hole] (fun i => i ≤ l.length) (fun i => l.length - i) 0 [0, 1] (Nat.zero_le _) rfl ⟨rfl, rfl, rfl, rfl, trivial⟩ ⟨rfl, trivial⟩ ⟨rfl, rfl, trivial⟩ ?_
  intro i hx
  simp only [upd, zaa, za, List.cons_append, List.nil_append]
  have hi0 := hx
  refine zaf ?_
  refine zac ?_
  refine zab rfl rfl rfl (op_lss rfl (ev1 rfl) (ev1 rfl)) ?_
  refine zae ?_
  refine zaf ?_
  refine dwp_cond rfl (fun c2 => ?_) (fun c2 => ?_)
  · try simp only [decide_eq_true_eq, decide_eq_false_iff_not, beq_iff_eq, bne_iff_ne, beq_eq_false_iff_ne, bne_eq_false_iff_eq, Bool.not_eq_true', Bool.not_eq_false', Bool.and_eq_true, Bool.or_eq_true, Bool.or_eq_false_iff, ne_eq, Decidable.not_not, Int.not_lt, Int.not_le] at c2
    refine zal ?_
    refine zaf ?_
    refine zak ?_
    refine zaf ?_
    have hi : i < l.length := by omega
    have hml : ((l.take i).map (pcV w h ts)).length ≤ 5000 := by rw [List.length_map, List.length_take]; omega
    have ht := hall _ (List.getElem_mem hi)
    refine zah 1 (by simp only [holes, List.cons_append, List.nil_append]; exact rfl) ?_
    refine zac ?_
    refine zab rfl rfl rfl (op_ixsr (j := i) rfl sl61 (ev1 rfl) (ev1 rfl) (fun _ => rfl) (by decide) (by omega) (by omega)) ?_
    refine zab rfl rfl rfl (op_ldod rfl tb3 (ev1 rfl) rfl) ?_
    refine zaj rfl rfl rfl (op_alloc 2 rfl zr3 rfl) (by simp only [upd, zaa, za]; exact rfl) ?_
    refine walk_s rfl rfl (op_stwi rfl tb3 (ev1 rfl) (ev1 rfl) rfl) (by simp only [upd, zaa, za]; exact rfl) ?_
    refine zae ?_
    refine zaf ?_
    refine zah 3 (by simp only [holes, List.cons_append, List.nil_append]; exact rfl) ?_
    refine zac ?_
    refine zab rfl rfl rfl (op_ldm rfl tb29 (ev1 rfl) rfl rfl) ?_
    refine zaj rfl rfl rfl (zai [] [] [3, 4] rfl (ev1 rfl) (ec (ev1 rfl) en) rfl rfl (searchOf_d w h ds) rfl rfl rfl (by exact (wrc (sb_srx rfl rfl) (wrc rfl rfl))) rfl rfl) (by simp only [upd, zaa, za]; exact rfl) ?_
    refine zaj rfl rfl rfl (op_alloc 5 rfl zr75 rfl) (by simp only [upd, zaa, za]; exact rfl) ?_
    refine walk_s rfl rfl (op_stfm rfl tb75 (ev1 rfl) (ev1 rfl) (fun s v h => by cases h <;> exact ⟨rfl, rfl⟩) rfl (by decide)) (by simp only [upd, zaa, za]; exact rfl) ?_
    refine zae ?_
    refine zaf ?_
    refine zac ?_
    refine zab rfl rfl rfl (op_ldm rfl tb75 (ev1 rfl) rfl rfl) ?_
    refine zab rfl rfl rfl (op_mkf rfl en (ec (ev1 rfl) (ec (ev1 rfl) (ec (ev1 rfl) en)))) ?_
    refine zaj rfl rfl rfl (zai [3, 4, 5, 0, 2] [] [] rfl (ev1 rfl) (ec (ev1 rfl) (ec (ev1 rfl) en)) rfl (by exact mfits _ _ ⟨zam rfl rfl rfl, rfl, rfl, rfl, rfl, trivial⟩) (gatP_d w h ds ts hr hc hg l[i] ht.1) rfl rfl rfl (by exact (wrc (sb_srx rfl rfl) (wrc rfl (wrc rfl (wrc rfl (wrc rfl rfl)))))) rfl rfl) (by simp only [upd, zaa, za]; exact rfl) ?_
    refine zab rfl rfl rfl (zad (.inr rfl) (ev1 rfl)) ?_
    refine zae ?_
    refine zah 1 (by simp only [holes, List.cons_append, List.nil_append]; exact rfl) ?_
    refine zac ?_
    refine zab rfl rfl rfl (zad (.inl rfl) (ev1 rfl)) ?_
    refine zab rfl rfl rfl (zad (.inl rfl) (ev1 rfl)) ?_
    refine zab rfl rfl rfl ((op_len rfl sl55 (ev1 rfl)).cast (d' := .val (.int .i64 (pcV w h ts l[i]))) (by rfl)) ?_
    refine zab rfl rfl rfl (op_bs (ps := [(0, .tmp 34)]) rfl sl61 zr3 rfl (vc (ev1 rfl) vn) rfl (by decide) (by decide)) ?_
    refine zaj rfl rfl rfl (op_app (j := 6) rfl sl61 zr3 rfl (ev1 rfl) (ev1 rfl) src_slf rfl rfl (fun _ => rfl) (fun _ => ⟨by omega, by omega⟩)) (by simp only [upd, zaa, za]; exact rfl) ?_
    refine zab rfl rfl rfl (zad (.inr rfl) (ev1 rfl)) ?_
    refine zae ?_
    refine zac ?_
    refine zab rfl rfl rfl (op_add' rfl (ev1 rfl) (ev1 rfl) (fun _ => IntWalk.i64_in _ (by omega))) ?_
    refine zab rfl rfl rfl (zad (.inl rfl) (ev1 rfl)) ?_
    refine zae ?_
    refine ⟨i + 1, [0, 6], by omega, by simp only []; omega, rfl, ⟨rfl, rfl, rfl, rfl, rfl, trivial⟩, ⟨rfl, arr_eq (by simp; omega) (iv_add hi), trivial⟩⟩
  · try simp only [decide_eq_true_eq, decide_eq_false_iff_not, beq_iff_eq, bne_iff_ne, beq_eq_false_iff_ne, bne_eq_false_iff_eq, Bool.not_eq_true', Bool.not_eq_false', Bool.and_eq_true, Bool.or_eq_true, Bool.or_eq_false_iff, ne_eq, Decidable.not_not, Int.not_lt, Int.not_le] at c2
    refine dwp_exit ?_
    refine zaf ?_
    refine dwp_giveA 7 rfl rfl (by simp only [zaa, za]; exact rfl) ?_
    obtain rfl : i = l.length := by omega
    rw [List.take_length]
    refine zac ?_
    refine zab rfl rfl rfl (zad (.inl rfl) (ev1 rfl)) ?_
    refine zab rfl rfl rfl (zad (.inr rfl) (ev1 rfl)) ?_
    refine zab rfl rfl rfl (zad (.inr rfl) (ev1 rfl)) ?_
    refine zae ?_
    refine dwp_ret ?_
    refine kend0 (rs2 rfl (rv_t rfl) (rv_t rfl)) rfl ?_
    rfl
end Go.Proofs.YtfnhckildfbikaaGreat
namespace Go.Proofs.YtfnhckildfbikaaGreat
set_option maxRecDepth 4000
set_option linter.unusedVariables false
set_option linter.unusedSimpArgs false
open Go.RowKit
attribute [local irreducible] zFD srL goF bfsF
attribute [local irreducible] spF spN prK
noncomputable def armA : Code := rfA (pth [1, 0, 1, 1, 0, 1, 0] (bodyOf Tryz.f52))
noncomputable def armB : Code := rfB (pth [1, 0, 1, 1, 0, 1, 0] (bodyOf Tryz.f52))
theorem rimA_four {w h : Int} {f : FD} {p : P2} {i : Nat} (hi : i < 4) (h1 : rimA w h f p (i + 1) = false) : rimA w h f p 4 = false := by
  have hal := adj_len p
  have key : rimA w h f p 4 = true → rimA w h f p (i + 1) = true := by
    intro h4
    have a3 := rimA_mono (i := 3) (by omega) h4
    have a2 := rimA_mono (i := 2) (by omega) a3
    have a1 := rimA_mono (i := 1) (by omega) a2
    match i, hi with
    | 0, _ => exact a1
    | 1, _ => exact a2
    | 2, _ => exact a3
    | 3, _ => exact h4
  cases h4 : rimA w h f p 4 with
  | false => rfl
  | true => rw [key h4] at h1; exact absurd h1 (by decide)
set_option maxRecDepth 4000 in
set_option maxHeartbeats 1000000 in
theorem armRound_y (w h : Int) (ds : List D) (f : FD) (k : Nat) (q : List P2) (c : Nat) (hcb : c ≤ 100) (n : P2) (hn : inF32 n) (h1 : f.has n = true) : DRound Tryz.prog 0 [.val (.agg #[.int .i64 n.x, .int .i64 n.y])] [.lp 19 [(2, .loc 1 0), (5, .loc 2 0)] #[10] armA armB .ready none, .mix 75 [.loc 3 0], .flat 3 [.int .i64 ((c : Nat) : Int)], .mix 115 (srL (cvD w h ds) (f).l (.farr 4 (k))), .fam (fmQ (k) (q))] true [.lp 19 [(2, .loc 1 0), (5, .loc 2 0)] #[10] armA armB .ready none, .mix 75 [.loc 3 0], .flat 3 [.int .i64 ((c + 1 : Nat) : Int)], .mix 115 (srL (cvD w h ds) (f).l (.farr 4 (k))), .fam (fmQ (k) (q))] := by
  refine dround_go 5 rfl rfl (by simp) rfl rfl fun s0 hs0 => ?_
  refine zah 1 (by simp only [holes, List.cons_append, List.nil_append]; exact rfl) ?_
  refine zac ?_
  refine zaj rfl rfl rfl (op_alloc 5 rfl zr26 rfl) (by simp only [upd, zaa, za]; exact rfl) ?_
  refine walk_s rfl rfl (op_stwa rfl tb26 (ev1 rfl) (ev1 rfl) rfl rfl rfl rfl) (by simp only [upd, zaa, za]; exact rfl) ?_
  refine zae ?_
  refine ⟨rfl, ?_⟩
  simp only [zaa, za]
  refine zak ?_
  refine zaf ?_
  refine zaf ?_
  refine zac ?_
  refine zab rfl rfl rfl (op_ldm rfl tb75 (ev1 rfl) rfl rfl) ?_
  refine zab rfl rfl rfl (op_ldw rfl tb26 (ev1 rfl) rfl rfl) ?_
  refine zaj rfl rfl rfl (zai [3, 4] [] [] rfl (ev1 rfl) (ec (ev1 rfl) (ec (ev1 rfl) en)) rfl (by exact mfits _ _ ⟨zam rfl rfl rfl, rfl, trivial⟩) (has_s w h ds f k q n hn) rfl rfl rfl (by exact (wrc (sb_srx rfl rfl) (wrc rfl rfl))) rfl rfl) (by simp only [upd, zaa, za]; exact rfl) ?_
  refine zab rfl rfl rfl (op_not rfl (ev1 rfl)) ?_
  refine zae ?_
  refine dwp_if_f rfl (by rw [h1]; rfl) ?_
  refine zal ?_
  refine zac ?_
  refine zab rfl rfl rfl (op_ldo rfl tb3 (ev1 rfl) rfl rfl) ?_
  refine zab rfl rfl rfl (op_add' rfl (ev1 rfl) (ev1 rfl) (fun _ => IntWalk.i64_in _ (by omega))) ?_
  refine walk_s rfl rfl (op_stwi rfl tb3 (ev1 rfl) (ev1 rfl) rfl) (by simp only [upd, zaa, za]; exact rfl) ?_
  refine zae ?_
  refine ⟨by first | rfl | assumption | simp_all, rfl, [0, 1, 2, 3, 4], rfl, ⟨rfl, rfl, rfl, zam rfl rfl rfl, rfl, trivial⟩⟩
set_option maxRecDepth 4000 in
set_option maxHeartbeats 1000000 in
theorem armRound_n (w h : Int) (ds : List D) (f : FD) (k : Nat) (q : List P2) (c : Nat) (hcb : c ≤ 100) (n : P2) (hn : inF32 n) (h1 : f.has n = false) : DRound Tryz.prog 0 [.val (.agg #[.int .i64 n.x, .int .i64 n.y])] [.lp 19 [(2, .loc 1 0), (5, .loc 2 0)] #[10] armA armB .ready none, .mix 75 [.loc 3 0], .flat 3 [.int .i64 ((c : Nat) : Int)], .mix 115 (srL (cvD w h ds) (f).l (.farr 4 (k))), .fam (fmQ (k) (q))] false [.lp 19 [(2, .loc 1 0), (5, .loc 2 0)] #[10] armA armB .done (some (.exit 0)), .mix 75 [.loc 3 0], .flat 3 [.int .i64 ((c : Nat) : Int)], .mix 115 (srL (cvD w h ds) (f).l (.farr 4 (k))), .fam (fmQ (k) (q))] := by
  refine dround_go 5 rfl rfl (by simp) rfl rfl fun s0 hs0 => ?_
  refine zah 1 (by simp only [holes, List.cons_append, List.nil_append]; exact rfl) ?_
  refine zac ?_
  refine zaj rfl rfl rfl (op_alloc 5 rfl zr26 rfl) (by simp only [upd, zaa, za]; exact rfl) ?_
  refine walk_s rfl rfl (op_stwa rfl tb26 (ev1 rfl) (ev1 rfl) rfl rfl rfl rfl) (by simp only [upd, zaa, za]; exact rfl) ?_
  refine zae ?_
  refine ⟨rfl, ?_⟩
  simp only [zaa, za]
  refine zak ?_
  refine zaf ?_
  refine zaf ?_
  refine zac ?_
  refine zab rfl rfl rfl (op_ldm rfl tb75 (ev1 rfl) rfl rfl) ?_
  refine zab rfl rfl rfl (op_ldw rfl tb26 (ev1 rfl) rfl rfl) ?_
  refine zaj rfl rfl rfl (zai [3, 4] [] [] rfl (ev1 rfl) (ec (ev1 rfl) (ec (ev1 rfl) en)) rfl (by exact mfits _ _ ⟨zam rfl rfl rfl, rfl, trivial⟩) (has_s w h ds f k q n hn) rfl rfl rfl (by exact (wrc (sb_srx rfl rfl) (wrc rfl rfl))) rfl rfl) (by simp only [upd, zaa, za]; exact rfl) ?_
  refine zab rfl rfl rfl (op_not rfl (ev1 rfl)) ?_
  refine zae ?_
  refine dwp_if_t rfl (by rw [h1]; rfl) ?_
  refine dwp_exit ?_
  refine ⟨by first | rfl | assumption | simp_all, rfl, [0, 1, 2, 3, 4], rfl, ⟨rfl, rfl, rfl, zam rfl rfl rfl, rfl, trivial⟩⟩
set_option maxRecDepth 4000 in
set_option maxHeartbeats 1000000 in
theorem nbs_rim (w h : Int) (ds : List D) (ts : List TL) (hr : RowOk ds ts) (hc : CvOk w h ts) (hg : tsRng ts) (f : FD) (k : Nat) (q : List P2) (p : P2) (hpi : inF32 p) : DFun Tryz.prog 93 [.yld 0, .loc 5 0, .loc 6 0] [.lp 19 [(2, .loc 1 0), (5, .loc 2 0)] #[10] armA armB .ready none, .mix 75 [.loc 3 0], .flat 3 [.int .i64 0], .mix 115 (srL (cvD w h ds) (f).l (.farr 4 (k))), .fam (fmQ (k) (q)), .flat 57 ((adjL p).flatMap p2), .mix 75 [.loc 3 0]] (.tup []) [.lp 19 [(2, .loc 1 0), (5, .loc 2 0)] #[10] armA armB (rst (rimA w h f p 4)) (rpe (.exit 0) (rimA w h f p 4)), .mix 75 [.loc 3 0], .flat 3 [.int .i64 ((rimZ w h f p : Nat) : Int)], .mix 115 (srL (cvD w h ds) (f).l (.farr 4 (k))), .fam (fmQ (k) (q)), .flat 57 ((adjL p).flatMap p2), .mix 75 [.loc 3 0]] := by
  have hal := adj_len p
  refine zan (N := 32) 7 (by kernel_rfl) Tryz.func93 rfl rfl rfl (by simp only [fr0, Nat.zero_add, Nat.reduceAdd]; exact rfl) rfl fun s0 hs0 => ?_
  refine zaf ?_
  refine zac ?_
  refine zab rfl rfl rfl (op_ldw rfl tb57 (ev1 rfl) rfl rfl) ?_
  refine zab rfl rfl rfl (zad (.inl rfl) (ev1 rfl)) ?_
  refine zae ?_
  refine zak ?_
  refine dwp_loopS ⟨hs0, rfl⟩ (α := Nat) (fun i => [(9, .val (.int .i64 (i : Int)))]) [(0, _), (2, _), (8, _)] (fun i => [(2, .flat 3 [.int .i64 ((rimI w h f p i : Nat) : Int)])]) [_, _, .hole, _, _, _, _] (fun i => i ≤ 4 ∧ rimA w h f p i = true) (fun i => 4 - i) 0 [0, 1, 2, 3, 4, 5, 6] (⟨Nat.zero_le _, rfl⟩) rfl ⟨rfl, rfl, rfl, trivial⟩ ⟨rfl, trivial⟩ ⟨rfl, rfl, rfl, zam rfl rfl rfl, rfl, rfl, rfl, trivial⟩ ?_
  intro i hx
  simp only [upd, zaa, za, List.cons_append, List.nil_append]
  obtain ⟨hi0, hra⟩ := hx
  have hil := rimI_le w h f p i
  refine zaf ?_
  refine zac ?_
  refine zab rfl rfl rfl (op_lss rfl (ev1 rfl) (ev1 rfl)) ?_
  refine zae ?_
  refine zaf ?_
  refine dwp_cond rfl (fun c1 => ?_) (fun c1 => ?_)
  · try simp only [decide_eq_true_eq, decide_eq_false_iff_not, beq_iff_eq, bne_iff_ne, beq_eq_false_iff_ne, bne_eq_false_iff_eq, Bool.not_eq_true', Bool.not_eq_false', Bool.and_eq_true, Bool.or_eq_true, Bool.or_eq_false_iff, ne_eq, Decidable.not_not, Int.not_lt, Int.not_le] at c1
    refine zal ?_
    refine zaf ?_
    refine zak ?_
    refine zaf ?_
    have hi : i < (adjL p).length := by omega
    have had := adj_in hpi (List.getElem_mem hi)
    have hni : onP w h (adjL p)[i] = true → inF32 (adjL p)[i] := onP_in hc.may _
    refine zah 1 (by simp only [holes, List.cons_append, List.nil_append]; exact rfl) ?_
    refine zac ?_
    refine zab rfl rfl rfl ((op_ixv (j := i) (zP2) rfl av57 (ev1 rfl) (ev1 rfl) (fun _ => rfl) (fun _ => by omega) (adj_len _) (fun _ => rfl)).wk (Wk.of_eq (d' := .val (.agg (p2 (adjL p)[i]).toArray)) (by rw [gD_at hi]))) ?_
    refine zaj rfl rfl rfl (op_alloc 7 rfl zr26 rfl) (by simp only [upd, zaa, za]; exact rfl) ?_
    refine walk_s rfl rfl (op_stwa rfl tb26 (ev1 rfl) (ev1 rfl) rfl rfl rfl rfl) (by simp only [upd, zaa, za]; exact rfl) ?_
    refine zae ?_
    refine zaf ?_
    refine zah 1 (by simp only [holes, List.cons_append, List.nil_append]; exact rfl) ?_
    refine dwp_draw [([6], []), ([], []), ([], []), ([3], []), ([], []), ([7], []), ([], []), ([7], []), ([], []), ([], []), ([], []), ([], []), ([8], [8]), ([8], [8]), ([], [])] mixed (by kernel_rfl) ?_
    refine zag rfl rfl (op_ldm rfl tb75 (ev1 rfl) rfl rfl) ?_
    refine zag rfl rfl (op_nc rfl (ev1 rfl) (fun s v h => by cases h; exact ⟨_, rfl⟩)) ?_
    refine zag rfl rfl (op_fa rfl fo115_0 (ev1 rfl)) ?_
    refine zag rfl rfl (op_ldm rfl tb29 (ev1 rfl) rfl (srL_0 rfl)) ?_
    refine zag rfl rfl (op_fa rfl fo26_0 (ev1 rfl)) ?_
    refine zag rfl rfl (op_ldo rfl tb3 (ev1 rfl) rfl rfl) ?_
    refine zag rfl rfl (op_fa rfl fo26_1 (ev1 rfl)) ?_
    refine zag rfl rfl (op_ldo rfl tb3 (ev1 rfl) rfl rfl) ?_
    refine zag rfl rfl (zai [] [] [] rfl (ev1 rfl) (ec (ev1 rfl) (ec (ev1 rfl) (ec (ev1 rfl) en))) rfl rfl (at_d w h ds ts hr hc (adjL p)[i].x (adjL p)[i].y) rfl rfl rfl rfl rfl rfl) ?_
    refine zag rfl rfl (zad (.inl rfl) (ev1 rfl)) ?_
    refine zag rfl rfl (op_ext rfl (ev1 rfl) rfl) ?_
    refine zag rfl rfl (op_ext rfl (ev1 rfl) rfl) ?_
    refine lex_w rfl rfl (op_alloc 8 rfl zr44 rfl) rfl (by simp only [upd, zaa, za]; exact rfl) ?_
    refine lex_s rfl rfl (op_stwa rfl tb44 (ev1 rfl) (ev1 rfl) rfl rfl rfl rfl) rfl (by simp only [upd, zaa, za]; exact rfl) ?_
    refine zag rfl rfl (zad (.inr rfl) (ev1 rfl)) ?_
    refine lex_nil ?_
    refine zaf ?_
    by_cases hoo : onP w h (adjL p)[i] = true
    · by_cases hh : f.has (adjL p)[i] = true
      · refine zac ?_
        refine zab rfl rfl rfl (zad (.inl rfl) (ev1 rfl)) ?_
        refine zab rfl rfl rfl ((zad (.inl rfl) (ev1 rfl)).cast (d' := .val (.bool true)) (by rw [show onS w h (adjL p)[i].x (adjL p)[i].y = true from hoo])) ?_
        refine walk_k (gd_t (b := true) rfl rfl rfl) rfl rfl rfl (zad (.inl rfl) (ev1 rfl)) (by simp only [upd, zaa, za]; exact rfl) ?_
        refine walk_k (gd_t (b := true) rfl rfl rfl) rfl rfl rfl (op_ldw rfl tb26 (ev1 rfl) rfl rfl) (by simp only [upd, zaa, za]; exact rfl) ?_
        refine walk_k (gd_t (b := true) rfl rfl rfl) rfl rfl rfl (op_y (i := 0) [0, 1, 2, 3, 4] [] [] rfl (ev2 rfl) (ec (ev2 rfl) en) rfl rfl (by exact mfits _ _ ⟨rfl, rfl, rfl, zam rfl rfl rfl, rfl, trivial⟩) (armRound_y w h ds f k q _ (by omega) _ (hni hoo) hh) rfl rfl rfl (by exact (wrc rfl (wrc rfl (wrc rfl (wrc (sb_srx rfl rfl) (wrc rfl rfl)))))) rfl) (by simp only [upd, zaa, za]; exact rfl) ?_
        refine walk_k (gd_t (b := true) rfl rfl rfl) rfl rfl rfl ((op_not rfl (ev2 rfl)).cast (d' := .val (.bool false)) (by kernel_rfl)) (by simp only [upd, zaa, za]; exact rfl) ?_
        refine zab rfl rfl rfl ((op_and rfl (ev1 rfl) (ev3 rfl (fun _ => rfl))).cast (d' := .val (.bool false)) (by rfl)) ?_
        refine zae ?_
        refine dwp_if_f rfl (rfl) ?_
        refine zal ?_
        refine zac ?_
        refine zab rfl rfl rfl (op_add' rfl (ev1 rfl) (ev1 rfl) (fun _ => IntWalk.i64_in _ (by omega))) ?_
        refine zab rfl rfl rfl (zad (.inl rfl) (ev1 rfl)) ?_
        refine zae ?_
        refine ⟨i + 1, [0, 1, 2, 3, 4, 5, 6], ⟨by omega, (by rw [rimA_add hi, hra, hh]; simp)⟩, by simp only []; omega, rfl, ⟨rfl, rfl, rfl, rfl, trivial⟩, ⟨rfl, rfl, by rw [rimI_yes hi hoo]; rfl, zam rfl rfl rfl, rfl, rfl, rfl, trivial⟩⟩
      · have hh : f.has (adjL p)[i] = false := by simpa using hh
        refine zac ?_
        refine zab rfl rfl rfl (zad (.inl rfl) (ev1 rfl)) ?_
        refine zab rfl rfl rfl ((zad (.inl rfl) (ev1 rfl)).cast (d' := .val (.bool true)) (by rw [show onS w h (adjL p)[i].x (adjL p)[i].y = true from hoo])) ?_
        refine walk_k (gd_t (b := true) rfl rfl rfl) rfl rfl rfl (zad (.inl rfl) (ev1 rfl)) (by simp only [upd, zaa, za]; exact rfl) ?_
        refine walk_k (gd_t (b := true) rfl rfl rfl) rfl rfl rfl (op_ldw rfl tb26 (ev1 rfl) rfl rfl) (by simp only [upd, zaa, za]; exact rfl) ?_
        refine walk_k (gd_t (b := true) rfl rfl rfl) rfl rfl rfl (op_y (i := 0) [0, 1, 2, 3, 4] [] [] rfl (ev2 rfl) (ec (ev2 rfl) en) rfl rfl (by exact mfits _ _ ⟨rfl, rfl, rfl, zam rfl rfl rfl, rfl, trivial⟩) (armRound_n w h ds f k q _ (by omega) _ (hni hoo) hh) rfl rfl rfl (by exact (wrc rfl (wrc rfl (wrc rfl (wrc (sb_srx rfl rfl) (wrc rfl rfl)))))) rfl) (by simp only [upd, zaa, za]; exact rfl) ?_
        refine walk_k (gd_t (b := true) rfl rfl rfl) rfl rfl rfl ((op_not rfl (ev2 rfl)).cast (d' := .val (.bool true)) (by kernel_rfl)) (by simp only [upd, zaa, za]; exact rfl) ?_
        refine zab rfl rfl rfl ((op_and rfl (ev1 rfl) (ev3 rfl (fun _ => rfl))).cast (d' := .val (.bool true)) (by rfl)) ?_
        refine zae ?_
        refine dwp_if_t rfl (rfl) ?_
        refine dwp_ret ?_
        have e1 : rimA w h f p (i + 1) = false := by rw [rimA_add hi, hra, hoo, hh]; rfl
        have e2 := rimZ_stop (by omega) hra e1
        have e3 := rimA_four (by omega) e1
        rw [e2, e3]
        refine kend [0, 1, 2, 3, 4, 5, 6] (res_none rfl) rfl rfl ?_ ⟨rfl, rfl, rfl, zam rfl rfl rfl, rfl, rfl, rfl, trivial⟩
        rfl
    · have hoo : onP w h (adjL p)[i] = false := by simpa using hoo
      refine zac ?_
      refine zab rfl rfl rfl (zad (.inl rfl) (ev1 rfl)) ?_
      refine zab rfl rfl rfl ((zad (.inl rfl) (ev1 rfl)).cast (d' := .val (.bool false)) (by rw [show onS w h (adjL p)[i].x (adjL p)[i].y = false from hoo])) ?_
      refine walk_gr (gd_t (b := false) rfl rfl rfl) rfl rfl rfl (dop_never (d := .junk)) ?_
      refine walk_gr (gd_t (b := false) rfl rfl rfl) rfl rfl rfl (dop_never (d := .junk)) ?_
      refine walk_gr (gd_t (b := false) rfl rfl rfl) rfl rfl rfl (dop_never (d := .val (.bool false))) ?_
      refine walk_gr (gd_t (b := false) rfl rfl rfl) rfl rfl rfl (dop_never (d := .val (.bool false))) ?_
      refine zab rfl rfl rfl ((op_and rfl (ev1 rfl) (ev3 rfl id)).cast (d' := .val (.bool false)) (by rfl)) ?_
      refine zae ?_
      refine dwp_if_f rfl (rfl) ?_
      refine zal ?_
      refine zac ?_
      refine zab rfl rfl rfl (op_add' rfl (ev1 rfl) (ev1 rfl) (fun _ => IntWalk.i64_in _ (by omega))) ?_
      refine zab rfl rfl rfl (zad (.inl rfl) (ev1 rfl)) ?_
      refine zae ?_
      refine ⟨i + 1, [0, 1, 2, 3, 4, 5, 6], ⟨by omega, (by rw [rimA_add hi, hra, hoo]; rfl)⟩, by simp only []; omega, rfl, ⟨rfl, rfl, rfl, rfl, trivial⟩, ⟨rfl, rfl, by rw [rimI_no hi hoo]; rfl, zam rfl rfl rfl, rfl, rfl, rfl, trivial⟩⟩
  · try simp only [decide_eq_true_eq, decide_eq_false_iff_not, beq_iff_eq, bne_iff_ne, beq_eq_false_iff_ne, bne_eq_false_iff_eq, Bool.not_eq_true', Bool.not_eq_false', Bool.and_eq_true, Bool.or_eq_true, Bool.or_eq_false_iff, ne_eq, Decidable.not_not, Int.not_lt, Int.not_le] at c1
    refine dwp_exit ?_
    obtain rfl : i = 4 := by omega
    have e2 := rimZ_end hra
    rw [e2, hra]
    refine kend [0, 1, 2, 3, 4, 5, 6] (res_none rfl) rfl rfl ?_ ⟨rfl, rfl, rfl, zam rfl rfl rfl, rfl, rfl, rfl, trivial⟩
    rfl
set_option maxRecDepth 4000 in
set_option maxHeartbeats 1000000 in
theorem atRim_d (w h : Int) (ds : List D) (ts : List TL) (hr : RowOk ds ts) (hc : CvOk w h ts) (hg : tsRng ts) (f : FD) (k : Nat) (q : List P2) (p : P2) (hpi : inF32 p) : DFun Tryz.prog 52 [.loc 0 0, .val (.agg #[.int .i64 p.x, .int .i64 p.y])] [.mix 115 (srL (cvD w h ds) (f).l (.farr 1 (k))), .fam (fmQ (k) (q))] (.val (.bool (rimB w h f p))) [.mix 115 (srL (cvD w h ds) (f).l (.farr 1 (k))), .fam (fmQ (k) (q))] := by
  have e0 := rim_eq w h f p
  have e5 : decide ((((rimZ w h f p : Nat) : Int)) < 4) = rimB w h f p := by rw [← e0, Bool.eq_iff_iff, decide_eq_true_eq, decide_eq_true_eq]; omega
  refine zan (N := 19) 2 (by kernel_rfl) Tryz.func52 rfl rfl rfl (by simp only [fr0, Nat.zero_add, Nat.reduceAdd]; exact rfl) rfl fun s0 hs0 => ?_
  refine zaf ?_
  refine zah 2 (by simp only [holes, List.cons_append, List.nil_append]; exact rfl) ?_
  refine zac ?_
  refine zaj rfl rfl rfl (op_boxm 2 rfl (ev1 rfl) (fun s v h => by cases h <;> rfl) rfl) (by simp only [upd, zaa, za]; exact rfl) ?_
  refine zaj rfl rfl rfl (op_boxa 3 rfl (ev1 rfl) rfl) (by simp only [upd, zaa, za]; exact rfl) ?_
  refine zab rfl rfl rfl (zad (.inr rfl) (ev1 rfl)) ?_
  refine zae ?_
  refine dwp_scope ?_
  refine zaf ?_
  refine zah 1 (by simp only [holes, List.cons_append, List.nil_append]; exact rfl) ?_
  refine zac ?_
  refine zaj rfl rfl rfl (op_alloc 4 rfl zr3 rfl) (by simp only [upd, zaa, za]; exact rfl) ?_
  refine walk_s rfl rfl (op_stwi rfl tb3 (ev1 rfl) (ev1 rfl) rfl) (by simp only [upd, zaa, za]; exact rfl) ?_
  refine zae ?_
  refine zaf ?_
  refine dwp_label ?_
  refine zaf ?_
  refine zaf ?_
  refine zah 2 (by simp only [holes, List.cons_append, List.nil_append]; exact rfl) ?_
  refine zac ?_
  refine zab rfl rfl rfl (op_ldm rfl tb75 (ev1 rfl) rfl rfl) ?_
  refine zab rfl rfl rfl (op_ldw rfl tb26 (ev1 rfl) rfl rfl) ?_
  refine zaj rfl rfl rfl (zai [0, 1] [] [5, 6] rfl (ev1 rfl) (ec (ev1 rfl) (ec (ev1 rfl) en)) rfl (by exact mfits _ _ ⟨zam rfl rfl rfl, rfl, trivial⟩) (nbs_d w h ds f k q p hpi) rfl rfl rfl (by exact (wrc (sb_srx rfl rfl) (wrc rfl (wrc rfl (wrc rfl rfl))))) rfl rfl) (by simp only [upd, zaa, za]; exact rfl) ?_
  refine zae ?_
  refine zak ?_
  refine dwp_hole ?_
  simp only [List.cons_append, List.nil_append]
  refine dwp_rf (FL := [(2, _), (5, _)]) (st := (rst (rimA w h f p 4))) (pe := (rpe (.exit 0) (rimA w h f p 4))) [7, 2, 4, 0, 1, 5, 6] [] [] 7 rfl rfl (ev1 rfl) rfl (subF_lk ⟨rfl, rfl, trivial⟩) rfl rfl (by exact mfits _ _ ⟨rfl, rfl, rfl, zam rfl rfl rfl, rfl, rfl, rfl, trivial⟩) (nbs_rim w h ds ts hr hc hg f k q p hpi) rfl rfl rfl (by exact (wrc rfl (wrc rfl (wrc rfl (wrc (sb_srx rfl rfl) (wrc rfl (wrc rfl (wrc rfl rfl)))))))) rfl rfl rfl (rst_busy _) (fun e => ?_) (fun c e => ?_)
  · simp only [upd, zaa, za]
    refine zaf ?_
    refine zac ?_
    refine zab rfl rfl rfl (op_ldo rfl tb3 (ev1 rfl) rfl rfl) ?_
    refine zab rfl rfl rfl (op_lss rfl (ev1 rfl) (ev1 rfl)) ?_
    refine zab rfl rfl rfl (zad (.inr rfl) (ev1 rfl)) ?_
    refine zae ?_
    refine dwp_ret ?_
    refine kend [0, 1] (rs1 rfl (rv_t rfl)) rfl rfl ?_ ⟨zam rfl rfl rfl, rfl, trivial⟩
    rw [e5]
  · obtain ⟨e1, rfl⟩ : rimA w h f p 4 = false ∧ c = .exit 0 := by
      cases h : rimA w h f p 4 <;> simp_all [rpe]
    simp only [upd, zaa, za]
    refine dwp_exit ?_
    refine zaf ?_
    refine zac ?_
    refine zab rfl rfl rfl (op_ldo rfl tb3 (ev1 rfl) rfl rfl) ?_
    refine zab rfl rfl rfl (op_lss rfl (ev1 rfl) (ev1 rfl)) ?_
    refine zab rfl rfl rfl (zad (.inr rfl) (ev1 rfl)) ?_
    refine zae ?_
    refine dwp_ret ?_
    refine kend [0, 1] (rs1 rfl (rv_t rfl)) rfl rfl ?_ ⟨zam rfl rfl rfl, rfl, trivial⟩
    rw [e5]
end Go.Proofs.YtfnhckildfbikaaGreat
namespace Go.Proofs.YtfnhckildfbikaaGreat
set_option maxRecDepth 4000
set_option linter.unusedVariables false
set_option linter.unusedSimpArgs false
open Go.RowKit
attribute [local irreducible] zFD srL goF bfsF
attribute [local irreducible] spF spN prK
theorem tb33 : tyB Tryz.prog 33 = some (false, 1) := by kernel_rfl
def rmB (w h : Int) (f : FD) (p : P2) : Bool := f.has p && rimB w h f p
def mtF (P : List P2) : FD := P.foldl (fun f p => f.put p (0 + 1)) zFD
theorem mtF_add (P : List P2) (p : P2) : mtF (P ++ [p]) = (mtF P).put p (0 + 1) := by unfold mtF; rw [List.foldl_append]; rfl
def oneS (w h : Int) (s : Sp) : Bool := s.pts.all (onP w h)
def onA (w h : Int) (l : List Sp) : Bool := (ptsS l).all (onP w h)
def tkS (w h : Int) (s : Sp) : List P2 := s.pts.takeWhile (onP w h)
def tkA (w h : Int) (l : List Sp) : List P2 := (ptsS l).takeWhile (onP w h)
def errZ (b : Bool) : Int := if b then 0 else 4
theorem tw_stop {α : Type} {q : α → Bool} : ∀ {l : List α} {k : Nat} (hk : k < l.length), (l.take k).all q = true → q l[k] = false → l.takeWhile q = l.take k
  | [], k, hk, _, _ => by simp at hk
  | a :: l, 0, _, _, h => by rw [List.takeWhile_cons]; rw [List.getElem_cons_zero] at h; rw [h]; rfl
  | a :: l, k + 1, hk, h1, h2 => by
    rw [List.take_succ_cons, List.all_cons, Bool.and_eq_true] at h1
    rw [List.takeWhile_cons, h1.1, List.take_succ_cons]
    rw [List.getElem_cons_succ] at h2
    simp only [if_true]
    rw [tw_stop (by simpa using hk) h1.2 h2]
theorem tw_all {α : Type} {q : α → Bool} {l : List α} (h : l.all q = true) : l.takeWhile q = l := by
  induction l with
  | nil => rfl
  | cons a l ih =>
    rw [List.all_cons, Bool.and_eq_true] at h
    rw [List.takeWhile_cons, h.1, ih h.2]; rfl
theorem tw_app {α : Type} {q : α → Bool} {l r : List α} (h : l.all q = true) : (l ++ r).takeWhile q = l ++ r.takeWhile q := by
  induction l with
  | nil => rfl
  | cons a l ih =>
    rw [List.all_cons, Bool.and_eq_true] at h
    rw [List.cons_append, List.takeWhile_cons, h.1, ih h.2]; rfl
theorem tw_not {α : Type} {q : α → Bool} {l r : List α} (h : l.all q = false) : (l ++ r).takeWhile q = l.takeWhile q := by
  induction l with
  | nil => simp at h
  | cons a l ih =>
    rw [List.cons_append, List.takeWhile_cons, List.takeWhile_cons]
    cases ha : q a with
    | false => rfl
    | true => rw [List.all_cons, ha, Bool.true_and] at h; rw [ih h]
theorem onA_stop {w h : Int} {l : List Sp} {i : Nat} (hi : i < l.length) (h1 : onA w h (l.take i) = true) (h2 : oneS w h l[i] = false) : onA w h l = false ∧ tkA w h l = ptsS (l.take i) ++ tkS w h l[i] := by
  unfold onA tkA tkS oneS at *
  have e : ptsS l = ptsS (l.take i) ++ (l[i].pts ++ ptsS (l.drop (i + 1))) := by
    conv => lhs; rw [← List.take_append_drop i l, List.drop_eq_getElem_cons hi]
    unfold ptsS
    rw [List.flatMap_append, List.flatMap_cons]
  constructor
  · rw [e, List.all_append, List.all_append, h2]; simp
  · rw [e, tw_app h1, tw_not h2]
theorem onA_add {w h : Int} {l : List Sp} {i : Nat} (hi : i < l.length) (h1 : onA w h (l.take i) = true) (h2 : oneS w h l[i] = true) : onA w h (l.take (i + 1)) = true := by
  unfold onA oneS at *
  rw [ptsS_add hi, List.all_append, h1, h2]; rfl
theorem tkA_all {w h : Int} {l : List Sp} (h1 : onA w h l = true) : tkA w h l = ptsS l := tw_all h1
theorem pts_get {s : Sp} {k : Nat} (hk : k < s.wd) : s.pts[k]? = some ⟨s.f + (k : Int), s.y⟩ := by unfold Sp.pts; simp [hk]
theorem tkS_stop {w h : Int} {s : Sp} {k : Nat} (hk : k < s.wd) (h1 : (s.pts.take k).all (onP w h) = true) (h2 : onP w h ⟨s.f + (k : Int), s.y⟩ = false) : tkS w h s = s.pts.take k := by
  have hl := pts_wd s
  have hg : s.pts[k]'(by omega) = ⟨s.f + (k : Int), s.y⟩ := Option.some.inj (by rw [← pts_get hk]; exact (List.getElem?_eq_getElem _).symm)
  exact tw_stop (by omega) h1 (by rw [hg]; exact h2)
theorem pts_on {w h : Int} {s : Sp} {k : Nat} (hk : k < s.wd) (h1 : (s.pts.take k).all (onP w h) = true) (h2 : onP w h ⟨s.f + (k : Int), s.y⟩ = true) : (s.pts.take (k + 1)).all (onP w h) = true := by rw [pts_add hk, List.all_append, h1]; simp [h2]
theorem oneS_at {w h : Int} {s : Sp} (h1 : oneS w h s = true) {k : Nat} (hk : k < s.wd) : onP w h ⟨s.f + (k : Int), s.y⟩ = true := List.all_eq_true.1 h1 _ (List.mem_map.2 ⟨k, List.mem_range.2 hk, rfl⟩)
set_option maxRecDepth 4000 in
set_option maxHeartbeats 1000000 in
theorem rim1_n1 (w h : Int) (ds : List D) (ts : List TL) (hr : RowOk ds ts) (hc : CvOk w h ts) (hg : tsRng ts) (f : FD) (k : Nat) (q : List P2) (l : List P2) (hl : l.length ≤ 5000) (p : P2) (hp : inF32 p) (hh : f.has p = false) : DFun Tryz.prog 51 [.farr 3 l.length, .val (.agg #[.int .i64 p.x, .int .i64 p.y]), .loc 2 0] [.mix 115 (srL (cvD w h ds) (f).l (.farr 1 (k))), .fam (fmQ (k) (q)), .mix 75 [.loc 0 0], .fam (fmP (l))] (.farr 3 l.length) [.mix 115 (srL (cvD w h ds) (f).l (.farr 1 (k))), .fam (fmQ (k) (q)), .mix 75 [.loc 0 0], .fam (fmP (l))] := by
  have hp2 := hp
  unfold inF32 at hp2
  refine zan (N := 19) 4 (by kernel_rfl) Tryz.func51 rfl rfl rfl (by simp only [fr0, Nat.zero_add, Nat.reduceAdd]; exact rfl) rfl fun s0 hs0 => ?_
  refine zaf ?_
  refine zah 1 (by simp only [holes, List.cons_append, List.nil_append]; exact rfl) ?_
  refine zac ?_
  refine zaj rfl rfl rfl (op_boxa 4 rfl (ev1 rfl) rfl) (by simp only [upd, zaa, za]; exact rfl) ?_
  refine zab rfl rfl rfl (zad (.inr rfl) (ev1 rfl)) ?_
  refine zae ?_
  refine zaf ?_
  refine zaf ?_
  refine zac ?_
  refine zab rfl rfl rfl (op_ldm rfl tb75 (ev1 rfl) rfl rfl) ?_
  refine zab rfl rfl rfl (op_ldw rfl tb26 (ev1 rfl) rfl rfl) ?_
  refine zaj rfl rfl rfl ((zai [0, 1] [] [] rfl (ev1 rfl) (ec (ev1 rfl) (ec (ev1 rfl) en)) rfl (by exact mfits _ _ ⟨zam rfl rfl rfl, rfl, trivial⟩) (has_s w h ds f k q p hp) rfl rfl rfl (by exact (wrc (sb_srx rfl rfl) (wrc rfl rfl))) rfl rfl).cast (d' := .val (.bool false)) (by rw [hh])) (by simp only [upd, zaa, za]; exact rfl) ?_
  refine zab rfl rfl rfl ((zad (.inl rfl) (ev1 rfl)).cast (d' := .val (.bool false)) (by rfl)) ?_
  refine walk_gr (gd_t (b := false) rfl rfl rfl) rfl rfl rfl (dop_never (d := .junk)) ?_
  refine walk_gr (gd_t (b := false) rfl rfl rfl) rfl rfl rfl (dop_never (d := .junk)) ?_
  refine walk_gr (gd_t (b := false) rfl rfl rfl) rfl rfl rfl (dop_never (d := .val (.bool false))) ?_
  refine zab rfl rfl rfl ((op_and rfl (ev1 rfl) (ev3 rfl id)).cast (d' := .val (.bool false)) (by rfl)) ?_
  refine zae ?_
  refine dwp_if_f rfl (rfl) ?_
  refine zal ?_
  refine zaf ?_
  refine zac ?_
  refine zab rfl rfl rfl (zad (.inl rfl) (ev1 rfl)) ?_
  refine zab rfl rfl rfl (zad (.inr rfl) (ev1 rfl)) ?_
  refine zae ?_
  refine dwp_ret ?_
  refine kend [0, 1, 2, 3] (rs1 rfl (rv_t rfl)) rfl rfl ?_ ⟨zam rfl rfl rfl, rfl, rfl, rfl, trivial⟩
  rfl
set_option maxRecDepth 4000 in
set_option maxHeartbeats 1000000 in
theorem rim1_n2 (w h : Int) (ds : List D) (ts : List TL) (hr : RowOk ds ts) (hc : CvOk w h ts) (hg : tsRng ts) (f : FD) (k : Nat) (q : List P2) (l : List P2) (hl : l.length ≤ 5000) (p : P2) (hp : inF32 p) (hh : f.has p = true) (h2 : rimB w h f p = false) : DFun Tryz.prog 51 [.farr 3 l.length, .val (.agg #[.int .i64 p.x, .int .i64 p.y]), .loc 2 0] [.mix 115 (srL (cvD w h ds) (f).l (.farr 1 (k))), .fam (fmQ (k) (q)), .mix 75 [.loc 0 0], .fam (fmP (l))] (.farr 3 l.length) [.mix 115 (srL (cvD w h ds) (f).l (.farr 1 (k))), .fam (fmQ (k) (q)), .mix 75 [.loc 0 0], .fam (fmP (l))] := by
  have hp2 := hp
  unfold inF32 at hp2
  refine zan (N := 19) 4 (by kernel_rfl) Tryz.func51 rfl rfl rfl (by simp only [fr0, Nat.zero_add, Nat.reduceAdd]; exact rfl) rfl fun s0 hs0 => ?_
  refine zaf ?_
  refine zah 1 (by simp only [holes, List.cons_append, List.nil_append]; exact rfl) ?_
  refine zac ?_
  refine zaj rfl rfl rfl (op_boxa 4 rfl (ev1 rfl) rfl) (by simp only [upd, zaa, za]; exact rfl) ?_
  refine zab rfl rfl rfl (zad (.inr rfl) (ev1 rfl)) ?_
  refine zae ?_
  refine zaf ?_
  refine zaf ?_
  refine zac ?_
  refine zab rfl rfl rfl (op_ldm rfl tb75 (ev1 rfl) rfl rfl) ?_
  refine zab rfl rfl rfl (op_ldw rfl tb26 (ev1 rfl) rfl rfl) ?_
  refine zaj rfl rfl rfl ((zai [0, 1] [] [] rfl (ev1 rfl) (ec (ev1 rfl) (ec (ev1 rfl) en)) rfl (by exact mfits _ _ ⟨zam rfl rfl rfl, rfl, trivial⟩) (has_s w h ds f k q p hp) rfl rfl rfl (by exact (wrc (sb_srx rfl rfl) (wrc rfl rfl))) rfl rfl).cast (d' := .val (.bool true)) (by rw [hh])) (by simp only [upd, zaa, za]; exact rfl) ?_
  refine zab rfl rfl rfl (zad (.inl rfl) (ev1 rfl)) ?_
  refine walk_k (gd_t (b := true) rfl rfl rfl) rfl rfl rfl (op_ldm rfl tb75 (ev1 rfl) rfl rfl) (by simp only [upd, zaa, za]; exact rfl) ?_
  refine walk_k (gd_t (b := true) rfl rfl rfl) rfl rfl rfl (op_ldw rfl tb26 (ev1 rfl) rfl rfl) (by simp only [upd, zaa, za]; exact rfl) ?_
  refine walk_k (gd_t (b := true) rfl rfl rfl) rfl rfl rfl ((zai [0, 1] [] [] rfl (ev1 rfl) (ec (ev2 rfl) (ec (ev2 rfl) en)) rfl (by exact mfits _ _ ⟨zam rfl rfl rfl, rfl, trivial⟩) (atRim_d w h ds ts hr hc hg f k q p hp) rfl rfl rfl (by exact (wrc (sb_srx rfl rfl) (wrc rfl rfl))) rfl rfl).cast (d' := .val (.bool false)) (by rw [h2])) (by simp only [upd, zaa, za]; exact rfl) ?_
  refine zab rfl rfl rfl ((op_and rfl (ev1 rfl) (ev3 rfl (fun _ => rfl))).cast (d' := .val (.bool false)) (by rfl)) ?_
  refine zae ?_
  refine dwp_if_f rfl (rfl) ?_
  refine zal ?_
  refine zaf ?_
  refine zac ?_
  refine zab rfl rfl rfl (zad (.inl rfl) (ev1 rfl)) ?_
  refine zab rfl rfl rfl (zad (.inr rfl) (ev1 rfl)) ?_
  refine zae ?_
  refine dwp_ret ?_
  refine kend [0, 1, 2, 3] (rs1 rfl (rv_t rfl)) rfl rfl ?_ ⟨zam rfl rfl rfl, rfl, rfl, rfl, trivial⟩
  rfl
set_option maxRecDepth 4000 in
set_option maxHeartbeats 1000000 in
theorem rim1_yy (w h : Int) (ds : List D) (ts : List TL) (hr : RowOk ds ts) (hc : CvOk w h ts) (hg : tsRng ts) (f : FD) (k : Nat) (q : List P2) (l : List P2) (hl : l.length ≤ 5000) (p : P2) (hp : inF32 p) (hh : f.has p = true) (h2 : rimB w h f p = true) : DFun Tryz.prog 51 [.farr 3 l.length, .val (.agg #[.int .i64 p.x, .int .i64 p.y]), .loc 2 0] [.mix 115 (srL (cvD w h ds) (f).l (.farr 1 (k))), .fam (fmQ (k) (q)), .mix 75 [.loc 0 0], .fam (fmP (l))] (.farr 3 (l ++ [p]).length) [.mix 115 (srL (cvD w h ds) (f).l (.farr 1 (k))), .fam (fmQ (k) (q)), .mix 75 [.loc 0 0], .fam (fmP (l ++ [p]))] := by
  have hp2 := hp
  unfold inF32 at hp2
  refine zan (N := 19) 4 (by kernel_rfl) Tryz.func51 rfl rfl rfl (by simp only [fr0, Nat.zero_add, Nat.reduceAdd]; exact rfl) rfl fun s0 hs0 => ?_
  refine zaf ?_
  refine zah 1 (by simp only [holes, List.cons_append, List.nil_append]; exact rfl) ?_
  refine zac ?_
  refine zaj rfl rfl rfl (op_boxa 4 rfl (ev1 rfl) rfl) (by simp only [upd, zaa, za]; exact rfl) ?_
  refine zab rfl rfl rfl (zad (.inr rfl) (ev1 rfl)) ?_
  refine zae ?_
  refine zaf ?_
  refine zaf ?_
  refine zac ?_
  refine zab rfl rfl rfl (op_ldm rfl tb75 (ev1 rfl) rfl rfl) ?_
  refine zab rfl rfl rfl (op_ldw rfl tb26 (ev1 rfl) rfl rfl) ?_
  refine zaj rfl rfl rfl ((zai [0, 1] [] [] rfl (ev1 rfl) (ec (ev1 rfl) (ec (ev1 rfl) en)) rfl (by exact mfits _ _ ⟨zam rfl rfl rfl, rfl, trivial⟩) (has_s w h ds f k q p hp) rfl rfl rfl (by exact (wrc (sb_srx rfl rfl) (wrc rfl rfl))) rfl rfl).cast (d' := .val (.bool true)) (by rw [hh])) (by simp only [upd, zaa, za]; exact rfl) ?_
  refine zab rfl rfl rfl (zad (.inl rfl) (ev1 rfl)) ?_
  refine walk_k (gd_t (b := true) rfl rfl rfl) rfl rfl rfl (op_ldm rfl tb75 (ev1 rfl) rfl rfl) (by simp only [upd, zaa, za]; exact rfl) ?_
  refine walk_k (gd_t (b := true) rfl rfl rfl) rfl rfl rfl (op_ldw rfl tb26 (ev1 rfl) rfl rfl) (by simp only [upd, zaa, za]; exact rfl) ?_
  refine walk_k (gd_t (b := true) rfl rfl rfl) rfl rfl rfl ((zai [0, 1] [] [] rfl (ev1 rfl) (ec (ev2 rfl) (ec (ev2 rfl) en)) rfl (by exact mfits _ _ ⟨zam rfl rfl rfl, rfl, trivial⟩) (atRim_d w h ds ts hr hc hg f k q p hp) rfl rfl rfl (by exact (wrc (sb_srx rfl rfl) (wrc rfl rfl))) rfl rfl).cast (d' := .val (.bool true)) (by rw [h2])) (by simp only [upd, zaa, za]; exact rfl) ?_
  refine zab rfl rfl rfl ((op_and rfl (ev1 rfl) (ev3 rfl (fun _ => rfl))).cast (d' := .val (.bool true)) (by rfl)) ?_
  refine zae ?_
  refine dwp_if_t rfl (rfl) ?_
  refine zah 2 (by simp only [holes, List.cons_append, List.nil_append]; exact rfl) ?_
  refine zac ?_
  refine zab rfl rfl rfl (zad (.inl rfl) (ev1 rfl)) ?_
  refine zab rfl rfl rfl (op_ldw rfl tb26 (ev1 rfl) rfl rfl) ?_
  refine zab rfl rfl rfl (op_bs (ps := [(0, .tmp 15)]) rfl sl55 zr26 rfl (vc (ev1 rfl) vn) rfl (by decide) (by decide)) ?_
  refine zaj rfl rfl rfl (op_appF (j1 := 5) (j2 := 6) rfl rfl sl55 zr26 rfl (ev1 rfl) (ev1 rfl) rfl (fmP_at l) rfl rfl rfl (fun _ => rfl) (fun _ => ⟨by omega, by omega⟩)) (by simp only [upd, zaa, za]; exact rfl) ?_
  refine zab rfl rfl rfl (zad (.inr rfl) (ev1 rfl)) ?_
  refine zae ?_
  refine zaf ?_
  refine zac ?_
  refine zab rfl rfl rfl (zad (.inl rfl) (ev1 rfl)) ?_
  refine zab rfl rfl rfl (zad (.inr rfl) (ev1 rfl)) ?_
  refine zae ?_
  refine dwp_ret ?_
  refine kend [0, 1, 2, 3] (rs1 rfl (rv_t rfl)) rfl rfl ?_ ⟨zam rfl rfl rfl, rfl, rfl, congrArg (fun B => some (Blk.fam B)) (fmP_add l p), trivial⟩
  rw [fmP_len, List.length_append]
  rfl
theorem rim1_y (w h : Int) (ds : List D) (ts : List TL) (hr : RowOk ds ts) (hc : CvOk w h ts) (hg : tsRng ts) (f : FD) (k : Nat) (q : List P2) (l : List P2) (hl : l.length ≤ 5000) (p : P2) (hp : inF32 p) (hb : rmB w h f p = true) : DFun Tryz.prog 51 [.farr 3 l.length, .val (.agg #[.int .i64 p.x, .int .i64 p.y]), .loc 2 0] [.mix 115 (srL (cvD w h ds) (f).l (.farr 1 (k))), .fam (fmQ (k) (q)), .mix 75 [.loc 0 0], .fam (fmP (l))] (.farr 3 (l ++ [p]).length) [.mix 115 (srL (cvD w h ds) (f).l (.farr 1 (k))), .fam (fmQ (k) (q)), .mix 75 [.loc 0 0], .fam (fmP (l ++ [p]))] := by
  unfold rmB at hb
  rw [Bool.and_eq_true] at hb
  exact rim1_yy w h ds ts hr hc hg f k q l hl p hp hb.1 hb.2
theorem rim1_n (w h : Int) (ds : List D) (ts : List TL) (hr : RowOk ds ts) (hc : CvOk w h ts) (hg : tsRng ts) (f : FD) (k : Nat) (q : List P2) (l : List P2) (hl : l.length ≤ 5000) (p : P2) (hp : inF32 p) (hb : rmB w h f p = false) : DFun Tryz.prog 51 [.farr 3 l.length, .val (.agg #[.int .i64 p.x, .int .i64 p.y]), .loc 2 0] [.mix 115 (srL (cvD w h ds) (f).l (.farr 1 (k))), .fam (fmQ (k) (q)), .mix 75 [.loc 0 0], .fam (fmP (l))] (.farr 3 l.length) [.mix 115 (srL (cvD w h ds) (f).l (.farr 1 (k))), .fam (fmQ (k) (q)), .mix 75 [.loc 0 0], .fam (fmP (l))] := by
  unfold rmB at hb
  by_cases h1 : f.has p = true
  · exact rim1_n2 w h ds ts hr hc hg f k q l hl p hp h1 (by rw [h1] at hb; simpa using hb)
  · exact rim1_n1 w h ds ts hr hc hg f k q l hl p hp (by simpa using h1)
set_option maxRecDepth 4000 in
set_option maxHeartbeats 1000000 in
theorem gatR_d (w h : Int) (ds : List D) (ts : List TL) (hr : RowOk ds ts) (hc : CvOk w h ts) (f : FD) (k : Nat) (q : List P2) (hg : tsRng ts) : DFun Tryz.prog 40 [.loc 0 0, .fn (.func 51) [] [.loc 2 0]] [.mix 115 (srL (cvD w h ds) (f).l (.farr 1 (k))), .fam (fmQ (k) (q)), .mix 75 [.loc 0 0]] (.slf 2 (gtP (rmB w h f) (w * 8).toNat ((h * 8).toNat * (w * 8).toNat)).length ((gtP (rmB w h f) (w * 8).toNat ((h * 8).toNat * (w * 8).toNat)).flatMap p2)) [.mix 115 (srL (cvD w h ds) (f).l (.farr 1 (k))), .fam (fmQ (k) (q)), .mix 75 [.loc 0 0]] := by
  have hb := mayS_b hc.may
  have hW : ((w * 8).toNat : Int) = w * 8 := by omega
  have hH : ((h * 8).toNat : Int) = h * 8 := by omega
  have hWH : (h * 8).toNat * (w * 8).toNat ≤ 32 * 32 := Nat.mul_le_mul (by omega) (by omega)
  refine zan (N := 35) 3 (by kernel_rfl) Tryz.func40 rfl rfl rfl (by simp only [fr0, Nat.zero_add, Nat.reduceAdd]; exact rfl) rfl fun s0 hs0 => ?_
  refine zaf ?_
  refine zac ?_
  refine zab rfl rfl rfl (zad (.inr rfl) (ev1 rfl)) ?_
  refine zae ?_
  refine zaf ?_
  refine zac ?_
  refine zab rfl rfl rfl (zad (.inr rfl) (ev1 rfl)) ?_
  refine zae ?_
  refine zaf ?_
  refine dwp_adopt (m := 3) 5 26 2 rfl rfl rfl ?_
  refine dwp_hole ?_
  refine dwp_fam 4 rfl (by simp only [List.cons_append, List.nil_append, zaa, za]; exact rfl) ?_
  refine zac ?_
  refine zab rfl rfl rfl (zad (.inl rfl) (ev1 rfl)) ?_
  refine zab rfl rfl rfl (op_nc rfl (ev1 rfl) (fun s v h => by cases h; exact ⟨_, rfl⟩)) ?_
  refine zab rfl rfl rfl (op_fa rfl fo115_0 (ev1 rfl)) ?_
  refine zab rfl rfl rfl (op_ldm rfl tb29 (ev1 rfl) rfl (srL_0 rfl)) ?_
  refine zab rfl rfl rfl (zai [] [] [] rfl (ev1 rfl) (ec (ev1 rfl) en) rfl rfl (size_d w h ds ts hr hc) rfl rfl rfl rfl rfl rfl) ?_
  refine zab rfl rfl rfl (zad (.inl rfl) (ev1 rfl)) ?_
  refine zab rfl rfl rfl (op_ext rfl (ev1 rfl) rfl) ?_
  refine zab rfl rfl rfl (op_ext rfl (ev1 rfl) rfl) ?_
  refine zab rfl rfl rfl (zad (.inr rfl) (ev1 rfl)) ?_
  refine zab rfl rfl rfl (zad (.inr rfl) (ev1 rfl)) ?_
  refine zae ?_
  refine zaf ?_
  refine zaf ?_
  refine dwp_abs 5 4 rfl rfl rfl (by simp only [zaa, za]; exact rfl) ?_
  refine zac ?_
  refine zab rfl rfl rfl (zad (.inl rfl) (ev1 rfl)) ?_
  refine zab rfl rfl rfl (zad (.inl rfl) (ev1 rfl)) ?_
  refine zae ?_
  refine zak ?_
  refine dwp_loopS ⟨hs0, rfl⟩ (α := Nat) (fun y => [(5, .farr 4 (gtP (rmB w h f) (w * 8).toNat (y * (w * 8).toNat)).length), (19, .val (.int .i64 (y : Int)))]) [(1, _), (6, _), (18, _)] (fun y => [(4, .fam (fmP ((gtP (rmB w h f) (w * 8).toNat (y * (w * 8).toNat)))))]) [_, _, _, _, .hole] (fun y => y ≤ (h * 8).toNat) (fun y => (h * 8).toNat - y) 0 [0, 1, 2, 3, 4] (Nat.zero_le _) rfl ⟨rfl, rfl, rfl, trivial⟩ ⟨by rw [Nat.zero_mul]; rfl, rfl, trivial⟩ ⟨zam rfl rfl rfl, rfl, rfl, rfl, by rw [Nat.zero_mul]; rfl, trivial⟩ ?_
  intro y hx
  simp only [upd, zaa, za, List.cons_append, List.nil_append]
  have hy0 := hx
  have hyW : y * (w * 8).toNat ≤ (h * 8).toNat * (w * 8).toNat := Nat.mul_le_mul_right _ hy0
  refine zaf ?_
  refine zac ?_
  refine zab rfl rfl rfl (op_lss rfl (ev1 rfl) (ev1 rfl)) ?_
  refine zae ?_
  refine zaf ?_
  refine dwp_cond rfl (fun c1 => ?_) (fun c1 => ?_)
  · try simp only [decide_eq_true_eq, decide_eq_false_iff_not, beq_iff_eq, bne_iff_ne, beq_eq_false_iff_ne, bne_eq_false_iff_eq, Bool.not_eq_true', Bool.not_eq_false', Bool.and_eq_true, Bool.or_eq_true, Bool.or_eq_false_iff, ne_eq, Decidable.not_not, Int.not_lt, Int.not_le] at c1
    refine zal ?_
    refine zaf ?_
    refine zak ?_
    refine zaf ?_
    refine zac ?_
    refine zab rfl rfl rfl (zad (.inl rfl) (ev1 rfl)) ?_
    refine zab rfl rfl rfl (zad (.inr rfl) (ev1 rfl)) ?_
    refine zae ?_
    refine zaf ?_
    refine zac ?_
    refine zab rfl rfl rfl (zad (.inl rfl) (ev1 rfl)) ?_
    refine zab rfl rfl rfl (zad (.inl rfl) (ev1 rfl)) ?_
    refine zae ?_
    refine zak ?_
    refine dwp_loopS ⟨hs0, rfl⟩ (α := Nat) (fun x => [(5, .farr 4 (gtP (rmB w h f) (w * 8).toNat (y * (w * 8).toNat + x)).length), (23, .val (.int .i64 (x : Int)))]) [(1, _), (6, _), (8, _), (18, _), (19, _), (22, _)] (fun x => [(4, .fam (fmP ((gtP (rmB w h f) (w * 8).toNat (y * (w * 8).toNat + x)))))]) [_, _, _, _, .hole] (fun x => x ≤ (w * 8).toNat) (fun x => (w * 8).toNat - x) 0 [0, 1, 2, 3, 4] (Nat.zero_le _) rfl ⟨rfl, rfl, rfl, rfl, rfl, rfl, trivial⟩ ⟨by rw [Nat.add_zero]; rfl, rfl, trivial⟩ ⟨zam rfl rfl rfl, rfl, rfl, rfl, by rw [Nat.add_zero]; rfl, trivial⟩ ?_
    intro x hx
    simp only [upd, zaa, za, List.cons_append, List.nil_append]
    have hx0 := hx
    have hgl := gtS_len (rmB w h f) (w * 8).toNat (y * (w * 8).toNat + x)
    have hgp := gtP_len (rmB w h f) (w * 8).toNat (y * (w * 8).toNat + x)
    refine zaf ?_
    refine zac ?_
    refine zab rfl rfl rfl (op_lss rfl (ev1 rfl) (ev1 rfl)) ?_
    refine zae ?_
    refine zaf ?_
    refine dwp_cond rfl (fun c2 => ?_) (fun c2 => ?_)
    · try simp only [decide_eq_true_eq, decide_eq_false_iff_not, beq_iff_eq, bne_iff_ne, beq_eq_false_iff_ne, bne_eq_false_iff_eq, Bool.not_eq_true', Bool.not_eq_false', Bool.and_eq_true, Bool.or_eq_true, Bool.or_eq_false_iff, ne_eq, Decidable.not_not, Int.not_lt, Int.not_le] at c2
      refine zal ?_
      refine zaf ?_
      refine zak ?_
      refine zaf ?_
      refine zac ?_
      refine zab rfl rfl rfl (zad (.inl rfl) (ev1 rfl)) ?_
      refine zab rfl rfl rfl (zad (.inr rfl) (ev1 rfl)) ?_
      refine zae ?_
      by_cases hh : (rmB w h f) (atN x y) = true
      · have hxW : x < (w * 8).toNat := by omega
        have hyH : y < (h * 8).toNat := by omega
        have hyW2 : (y + 1) * (w * 8).toNat ≤ (h * 8).toNat * (w * 8).toNat := Nat.mul_le_mul_right _ hyH
        rw [Nat.succ_mul] at hyW2
        have hpi : inF32 (atN x y) := by unfold inF32 atN; simp only; omega
        have hpo : onS w h (atN x y).x (atN x y).y = true := onS_iff.2 ⟨by show (0 : Int) ≤ (x : Int) ∧ (x : Int) < w * 8; omega, by show (0 : Int) ≤ (y : Int) ∧ (y : Int) < h * 8; omega⟩
        refine zac ?_
        refine zab rfl rfl rfl (zad (.inl rfl) (ev1 rfl)) ?_
        refine zab rfl rfl rfl (zad (.inl rfl) (ev1 rfl)) ?_
        refine zab rfl rfl rfl (zad (.inl rfl) (ev1 rfl)) ?_
        refine zab rfl rfl rfl (zad (.inl rfl) (ev1 rfl)) ?_
        refine zab rfl rfl rfl (op_build (ps := [(0, .tmp 28), (1, .tmp 29)]) rfl fl26 zr26 (vc (ev1 rfl) (vc (ev1 rfl) vn)) rfl rfl) ?_
        refine zaj rfl rfl rfl (zai [0, 1, 2, 4] [] [] rfl (ev1 rfl) (ec (ev1 rfl) (ec (ev1 rfl) en)) rfl (by exact mfits _ _ ⟨zam rfl rfl rfl, rfl, rfl, rfl, trivial⟩) (rim1_y w h ds ts hr hc hg f k q _ (by omega) (atN x y) hpi hh) rfl rfl rfl (by exact (wrc (sb_srx rfl rfl) (wrc rfl (wrc rfl (wrc rfl rfl))))) rfl rfl) (by simp only [upd, zaa, za]; exact rfl) ?_
        refine zab rfl rfl rfl (zad (.inr rfl) (ev1 rfl)) ?_
        refine zae ?_
        refine zac ?_
        refine zab rfl rfl rfl (op_add' rfl (ev1 rfl) (ev1 rfl) (fun _ => IntWalk.i64_in _ (by omega))) ?_
        refine zab rfl rfl rfl (zad (.inl rfl) (ev1 rfl)) ?_
        refine zae ?_
        refine ⟨x + 1, [0, 1, 2, 3, 4], by omega, by simp only []; omega, rfl, ⟨by rw [gtP_yes hxW hh, List.length_append]; rfl, rfl, rfl, rfl, rfl, rfl, rfl, rfl, trivial⟩, ⟨zam rfl rfl rfl, rfl, rfl, rfl, by rw [gtP_yes hxW hh]; rfl, trivial⟩⟩
      · have hh : (rmB w h f) (atN x y) = false := by simpa using hh
        have hxW : x < (w * 8).toNat := by omega
        have hyH : y < (h * 8).toNat := by omega
        have hyW2 : (y + 1) * (w * 8).toNat ≤ (h * 8).toNat * (w * 8).toNat := Nat.mul_le_mul_right _ hyH
        rw [Nat.succ_mul] at hyW2
        have hpi : inF32 (atN x y) := by unfold inF32 atN; simp only; omega
        have hpo : onS w h (atN x y).x (atN x y).y = true := onS_iff.2 ⟨by show (0 : Int) ≤ (x : Int) ∧ (x : Int) < w * 8; omega, by show (0 : Int) ≤ (y : Int) ∧ (y : Int) < h * 8; omega⟩
        refine zac ?_
        refine zab rfl rfl rfl (zad (.inl rfl) (ev1 rfl)) ?_
        refine zab rfl rfl rfl (zad (.inl rfl) (ev1 rfl)) ?_
        refine zab rfl rfl rfl (zad (.inl rfl) (ev1 rfl)) ?_
        refine zab rfl rfl rfl (zad (.inl rfl) (ev1 rfl)) ?_
        refine zab rfl rfl rfl (op_build (ps := [(0, .tmp 28), (1, .tmp 29)]) rfl fl26 zr26 (vc (ev1 rfl) (vc (ev1 rfl) vn)) rfl rfl) ?_
        refine zaj rfl rfl rfl (zai [0, 1, 2, 4] [] [] rfl (ev1 rfl) (ec (ev1 rfl) (ec (ev1 rfl) en)) rfl (by exact mfits _ _ ⟨zam rfl rfl rfl, rfl, rfl, rfl, trivial⟩) (rim1_n w h ds ts hr hc hg f k q _ (by omega) (atN x y) hpi hh) rfl rfl rfl (by exact (wrc (sb_srx rfl rfl) (wrc rfl (wrc rfl (wrc rfl rfl))))) rfl rfl) (by simp only [upd, zaa, za]; exact rfl) ?_
        refine zab rfl rfl rfl (zad (.inr rfl) (ev1 rfl)) ?_
        refine zae ?_
        refine zac ?_
        refine zab rfl rfl rfl (op_add' rfl (ev1 rfl) (ev1 rfl) (fun _ => IntWalk.i64_in _ (by omega))) ?_
        refine zab rfl rfl rfl (zad (.inl rfl) (ev1 rfl)) ?_
        refine zae ?_
        refine ⟨x + 1, [0, 1, 2, 3, 4], by omega, by simp only []; omega, rfl, ⟨by rw [gtP_no hxW hh]; rfl, rfl, rfl, rfl, rfl, rfl, rfl, rfl, trivial⟩, ⟨zam rfl rfl rfl, rfl, rfl, rfl, by rw [gtP_no hxW hh]; rfl, trivial⟩⟩
    · try simp only [decide_eq_true_eq, decide_eq_false_iff_not, beq_iff_eq, bne_iff_ne, beq_eq_false_iff_ne, bne_eq_false_iff_eq, Bool.not_eq_true', Bool.not_eq_false', Bool.and_eq_true, Bool.or_eq_true, Bool.or_eq_false_iff, ne_eq, Decidable.not_not, Int.not_lt, Int.not_le] at c2
      refine dwp_exit ?_
      refine zac ?_
      refine zab rfl rfl rfl (op_add' rfl (ev1 rfl) (ev1 rfl) (fun _ => IntWalk.i64_in _ (by omega))) ?_
      refine zab rfl rfl rfl (zad (.inl rfl) (ev1 rfl)) ?_
      refine zae ?_
      obtain rfl : x = (w * 8).toNat := by omega
      refine ⟨y + 1, [0, 1, 2, 3, 4], by omega, by simp only []; omega, rfl, ⟨by rw [Nat.succ_mul]; rfl, rfl, rfl, rfl, rfl, trivial⟩, ⟨zam rfl rfl rfl, rfl, rfl, rfl, by rw [Nat.succ_mul]; rfl, trivial⟩⟩
  · try simp only [decide_eq_true_eq, decide_eq_false_iff_not, beq_iff_eq, bne_iff_ne, beq_eq_false_iff_ne, bne_eq_false_iff_eq, Bool.not_eq_true', Bool.not_eq_false', Bool.and_eq_true, Bool.or_eq_true, Bool.or_eq_false_iff, ne_eq, Decidable.not_not, Int.not_lt, Int.not_le] at c1
    refine dwp_exit ?_
    refine zaf ?_
    refine zac ?_
    refine zab rfl rfl rfl (zad (.inl rfl) (ev1 rfl)) ?_
    refine zab rfl rfl rfl (zad (.inr rfl) (ev1 rfl)) ?_
    refine zae ?_
    refine dwp_hole ?_
    refine dwp_rel 4 4 (j := 5) rfl rfl (fmP_at _) rfl (by simp only [List.cons_append, List.nil_append, zaa, za]; exact rfl) ?_
    refine dwp_giveA 4 rfl rfl (by simp only [List.cons_append, List.nil_append, zaa, za]; exact rfl) ?_
    refine dwp_ret ?_
    obtain rfl : y = (h * 8).toNat := by omega
    refine kend [0, 1, 2] (rs1 rfl (rv_t rfl)) rfl rfl ?_ ⟨zam rfl rfl rfl, rfl, rfl, trivial⟩
    rfl
noncomputable def rmrA : Code := rfA (pth [1, 1, 1, 1, 0, 1, 0] (bodyOf Tryz.f21))
noncomputable def rmrB : Code := rfB (pth [1, 1, 1, 1, 0, 1, 0] (bodyOf Tryz.f21))
set_option maxRecDepth 4000 in
set_option maxHeartbeats 1000000 in
theorem rmRound_y (w h : Int) (ds : List D) (ts : List TL) (hr : RowOk ds ts) (hc : CvOk w h ts) (hg : tsRng ts) (P : List P2) (p : P2) (ho : onP w h p = true) : DRound Tryz.prog 0 [.val (.agg #[.int .i64 p.x, .int .i64 p.y])] [.lp 44 [(2, .loc 1 0), (4, .loc 2 0), (5, .loc 3 0), (8, .loc 4 0)] #[26] rmrA rmrB .ready none, .mix 29 [cvD w h ds], .flat 55 [.slice none 0 0], .flat 33 [.int .i64 0], .mix 75 [.loc 5 0], .mix 115 (srL (cvD w h ds) ((mtF (P))).l (.farr 6 (0))), .fam (fmQ (0) (([] : List P2)))] true [.lp 44 [(2, .loc 1 0), (4, .loc 2 0), (5, .loc 3 0), (8, .loc 4 0)] #[26] rmrA rmrB .ready none, .mix 29 [cvD w h ds], .flat 55 [.slice none 0 0], .flat 33 [.int .i64 0], .mix 75 [.loc 5 0], .mix 115 (srL (cvD w h ds) ((mtF (P ++ [p]))).l (.farr 6 (0))), .fam (fmQ (0) (([] : List P2)))] := by
  have hpi := onP_in hc.may p ho
  refine dround_go 7 rfl rfl (by simp) rfl rfl fun s0 hs0 => ?_
  refine zah 1 (by simp only [holes, List.cons_append, List.nil_append]; exact rfl) ?_
  refine zac ?_
  refine zaj rfl rfl rfl (op_alloc 7 rfl zr26 rfl) (by simp only [upd, zaa, za]; exact rfl) ?_
  refine walk_s rfl rfl (op_stwa rfl tb26 (ev1 rfl) (ev1 rfl) rfl rfl rfl rfl) (by simp only [upd, zaa, za]; exact rfl) ?_
  refine zae ?_
  refine ⟨rfl, ?_⟩
  simp only [zaa, za]
  refine zak ?_
  refine zaf ?_
  refine zaf ?_
  refine zah 1 (by simp only [holes, List.cons_append, List.nil_append]; exact rfl) ?_
  refine zac ?_
  refine zab rfl rfl rfl (op_ldm rfl tb29 (ev1 rfl) rfl rfl) ?_
  refine zab rfl rfl rfl (op_fa rfl fo26_0 (ev1 rfl)) ?_
  refine zab rfl rfl rfl (op_ldo rfl tb3 (ev1 rfl) rfl rfl) ?_
  refine zab rfl rfl rfl (op_fa rfl fo26_1 (ev1 rfl)) ?_
  refine zab rfl rfl rfl (op_ldo rfl tb3 (ev1 rfl) rfl rfl) ?_
  refine zab rfl rfl rfl (zai [] [] [] rfl (ev1 rfl) (ec (ev1 rfl) (ec (ev1 rfl) (ec (ev1 rfl) en))) rfl rfl (at_d w h ds ts hr hc p.x p.y) rfl rfl rfl rfl rfl rfl) ?_
  refine zab rfl rfl rfl (zad (.inl rfl) (ev1 rfl)) ?_
  refine zab rfl rfl rfl (op_ext rfl (ev1 rfl) rfl) ?_
  refine zab rfl rfl rfl (op_ext rfl (ev1 rfl) rfl) ?_
  refine zaj rfl rfl rfl (op_alloc 8 rfl zr44 rfl) (by simp only [upd, zaa, za]; exact rfl) ?_
  refine walk_s rfl rfl (op_stwa rfl tb44 (ev1 rfl) (ev1 rfl) rfl rfl rfl rfl) (by simp only [upd, zaa, za]; exact rfl) ?_
  refine zab rfl rfl rfl (zad (.inr rfl) (ev1 rfl)) ?_
  refine zae ?_
  refine zaf ?_
  refine zac ?_
  refine zab rfl rfl rfl (zad (.inl rfl) (ev1 rfl)) ?_
  refine zab rfl rfl rfl (op_not rfl (ev1 rfl)) ?_
  refine zae ?_
  refine dwp_if_f rfl (by rw [show onS w h p.x p.y = true from ho]; rfl) ?_
  refine zal ?_
  refine zac ?_
  refine zab rfl rfl rfl (op_ldm rfl tb75 (ev1 rfl) rfl rfl) ?_
  refine zab rfl rfl rfl (op_ldw rfl tb26 (ev1 rfl) rfl rfl) ?_
  refine zaj rfl rfl rfl (zai [5, 6] [] [] rfl (ev1 rfl) (ec (ev1 rfl) (ec (ev1 rfl) (ec (ev1 rfl) en))) rfl (by exact mfits _ _ ⟨zam rfl rfl rfl, rfl, trivial⟩) (meet_d w h ds (mtF P) 0 [] p 0 hpi (by omega)) rfl rfl rfl (by exact (wrc (sb_srx rfl rfl) (wrc rfl rfl))) rfl rfl) (by simp only [upd, zaa, za]; exact rfl) ?_
  refine zae ?_
  refine ⟨by first | rfl | assumption | simp_all, rfl, [0, 1, 2, 3, 4, 5, 6], rfl, ⟨rfl, rfl, rfl, rfl, rfl, zam (by rw [mtF_add]) rfl rfl, rfl, trivial⟩⟩
set_option maxRecDepth 4000 in
set_option maxHeartbeats 1000000 in
theorem rmRound_n (w h : Int) (ds : List D) (ts : List TL) (hr : RowOk ds ts) (hc : CvOk w h ts) (hg : tsRng ts) (P : List P2) (p : P2) (ho : onP w h p = false) : DRound Tryz.prog 0 [.val (.agg #[.int .i64 p.x, .int .i64 p.y])] [.lp 44 [(2, .loc 1 0), (4, .loc 2 0), (5, .loc 3 0), (8, .loc 4 0)] #[26] rmrA rmrB .ready none, .mix 29 [cvD w h ds], .flat 55 [.slice none 0 0], .flat 33 [.int .i64 0], .mix 75 [.loc 5 0], .mix 115 (srL (cvD w h ds) ((mtF (P))).l (.farr 6 (0))), .fam (fmQ (0) (([] : List P2)))] false [.lp 44 [(2, .loc 1 0), (4, .loc 2 0), (5, .loc 3 0), (8, .loc 4 0)] #[26] rmrA rmrB .done (some .ret), .mix 29 [cvD w h ds], .flat 55 [.slice none 0 0], .flat 33 [.int .i64 4], .mix 75 [.loc 5 0], .mix 115 (srL (cvD w h ds) ((mtF (P))).l (.farr 6 (0))), .fam (fmQ (0) (([] : List P2)))] := by
  refine dround_go 7 rfl rfl (by simp) rfl rfl fun s0 hs0 => ?_
  refine zah 1 (by simp only [holes, List.cons_append, List.nil_append]; exact rfl) ?_
  refine zac ?_
  refine zaj rfl rfl rfl (op_alloc 7 rfl zr26 rfl) (by simp only [upd, zaa, za]; exact rfl) ?_
  refine walk_s rfl rfl (op_stwa rfl tb26 (ev1 rfl) (ev1 rfl) rfl rfl rfl rfl) (by simp only [upd, zaa, za]; exact rfl) ?_
  refine zae ?_
  refine ⟨rfl, ?_⟩
  simp only [zaa, za]
  refine zak ?_
  refine zaf ?_
  refine zaf ?_
  refine zah 1 (by simp only [holes, List.cons_append, List.nil_append]; exact rfl) ?_
  refine zac ?_
  refine zab rfl rfl rfl (op_ldm rfl tb29 (ev1 rfl) rfl rfl) ?_
  refine zab rfl rfl rfl (op_fa rfl fo26_0 (ev1 rfl)) ?_
  refine zab rfl rfl rfl (op_ldo rfl tb3 (ev1 rfl) rfl rfl) ?_
  refine zab rfl rfl rfl (op_fa rfl fo26_1 (ev1 rfl)) ?_
  refine zab rfl rfl rfl (op_ldo rfl tb3 (ev1 rfl) rfl rfl) ?_
  refine zab rfl rfl rfl (zai [] [] [] rfl (ev1 rfl) (ec (ev1 rfl) (ec (ev1 rfl) (ec (ev1 rfl) en))) rfl rfl (at_d w h ds ts hr hc p.x p.y) rfl rfl rfl rfl rfl rfl) ?_
  refine zab rfl rfl rfl (zad (.inl rfl) (ev1 rfl)) ?_
  refine zab rfl rfl rfl (op_ext rfl (ev1 rfl) rfl) ?_
  refine zab rfl rfl rfl (op_ext rfl (ev1 rfl) rfl) ?_
  refine zaj rfl rfl rfl (op_alloc 8 rfl zr44 rfl) (by simp only [upd, zaa, za]; exact rfl) ?_
  refine walk_s rfl rfl (op_stwa rfl tb44 (ev1 rfl) (ev1 rfl) rfl rfl rfl rfl) (by simp only [upd, zaa, za]; exact rfl) ?_
  refine zab rfl rfl rfl (zad (.inr rfl) (ev1 rfl)) ?_
  refine zae ?_
  refine zaf ?_
  refine zac ?_
  refine zab rfl rfl rfl (zad (.inl rfl) (ev1 rfl)) ?_
  refine zab rfl rfl rfl (op_not rfl (ev1 rfl)) ?_
  refine zae ?_
  refine dwp_if_t rfl (by rw [show onS w h p.x p.y = false from ho]; rfl) ?_
  refine zaf ?_
  refine zac ?_
  refine walk_s rfl rfl (op_st rfl tb55 (ev1 rfl) (ev1 rfl) rfl rfl rfl rfl (by decide) rfl) (by simp only [upd, zaa, za]; exact rfl) ?_
  refine walk_s rfl rfl (op_stwi rfl tb33 (ev1 rfl) (ev1 rfl) rfl) (by simp only [upd, zaa, za]; exact rfl) ?_
  refine zae ?_
  refine dwp_ret ?_
  refine ⟨by first | rfl | assumption | simp_all, rfl, [0, 1, 2, 3, 4, 5, 6], rfl, ⟨rfl, rfl, rfl, rfl, rfl, zam rfl rfl rfl, rfl, trivial⟩⟩
end Go.Proofs.YtfnhckildfbikaaGreat
namespace Go.Proofs.YtfnhckildfbikaaGreat
set_option maxRecDepth 4000
set_option linter.unusedVariables false
set_option linter.unusedSimpArgs false
open Go.RowKit
attribute [local irreducible] zFD srL goF bfsF
attribute [local irreducible] spF spN prK
theorem zr33 : zrC Tryz.prog 33 = some [.int .i64 0] := by kernel_rfl
noncomputable def alrA : Code := rfA (pth [1, 1, 0] (bodyOf Tryz.f38))
noncomputable def alrB : Code := rfB (pth [1, 1, 0] (bodyOf Tryz.f38))
set_option maxRecDepth 4000 in
set_option maxHeartbeats 1000000 in
theorem rspan_y (w h : Int) (ds : List D) (ts : List TL) (hr : RowOk ds ts) (hc : CvOk w h ts) (hg : tsRng ts) (s : Sp) (hs : rchS s ∧ s.f ≤ s.t) (hon : oneS w h s = true) (P : List P2) : DRound Tryz.prog 0 [.val (.agg (s3 s).toArray)] [.lp 23 [(2, .loc 1 0)] #[7] alrA alrB .ready none, .mix 78 [.yld 2], .lp 44 [(2, .loc 3 0), (4, .loc 4 0), (5, .loc 5 0), (8, .loc 6 0)] #[26] rmrA rmrB .ready none, .mix 29 [cvD w h ds], .flat 55 [.slice none 0 0], .flat 33 [.int .i64 0], .mix 75 [.loc 7 0], .mix 115 (srL (cvD w h ds) ((mtF (P))).l (.farr 8 (0))), .fam (fmQ (0) (([] : List P2)))] true [.lp 23 [(2, .loc 1 0)] #[7] alrA alrB .ready none, .mix 78 [.yld 2], .lp 44 [(2, .loc 3 0), (4, .loc 4 0), (5, .loc 5 0), (8, .loc 6 0)] #[26] rmrA rmrB .ready none, .mix 29 [cvD w h ds], .flat 55 [.slice none 0 0], .flat 33 [.int .i64 0], .mix 75 [.loc 7 0], .mix 115 (srL (cvD w h ds) ((mtF (P ++ s.pts))).l (.farr 8 (0))), .fam (fmQ (0) (([] : List P2)))] := by
  obtain ⟨hrs, hft⟩ := hs
  have hr2 := hrs
  unfold rchS at hr2
  have hwd : (s.wd : Int) = s.t - s.f + 1 := by unfold Sp.wd; omega
  have hpw := pts_wd s
  refine dround_go 9 rfl rfl (by simp) rfl rfl fun s0 hs0 => ?_
  refine zah 1 (by simp only [holes, List.cons_append, List.nil_append]; exact rfl) ?_
  refine zac ?_
  refine zaj rfl rfl rfl (op_alloc 9 rfl zr41 rfl) (by simp only [upd, zaa, za]; exact rfl) ?_
  refine walk_s rfl rfl (op_stwa rfl tb41 (ev1 rfl) (ev1 rfl) rfl rfl rfl rfl) (by simp only [upd, zaa, za]; exact rfl) ?_
  refine zae ?_
  refine ⟨rfl, ?_⟩
  simp only [zaa, za]
  refine zak ?_
  refine zaf ?_
  refine zac ?_
  refine zab rfl rfl rfl (op_fa rfl fo41_1 (ev1 rfl)) ?_
  refine zab rfl rfl rfl (op_ldo rfl tb3 (ev1 rfl) rfl rfl) ?_
  refine zab rfl rfl rfl (zad (.inr rfl) (ev1 rfl)) ?_
  refine zae ?_
  refine zak ?_
  refine dwp_loopS ⟨hs0, rfl⟩ (α := Nat) (fun k => [(4, .val (.int .i64 (s.f + (k : Int))))]) [(2, _), (3, _)] (fun k => [(7, .mix 115 (srL (cvD w h ds) ((mtF (P ++ s.pts.take k))).l (.farr 8 (0))))]) [_, _, _, _, _, _, _, .hole, _, _] (fun k => k ≤ s.wd) (fun k => s.wd - k) 0 [0, 1, 2, 3, 4, 5, 6, 7, 8, 9] (Nat.zero_le _) rfl ⟨rfl, rfl, trivial⟩ ⟨congrArg (fun z => some (D.val (.int .i64 z))) (by first | rfl | omega), trivial⟩ ⟨rfl, rfl, rfl, rfl, rfl, rfl, rfl, zam (by rw [List.take_zero, List.append_nil]) rfl rfl, rfl, rfl, trivial⟩ ?_
  intro k hx
  simp only [upd, zaa, za, List.cons_append, List.nil_append]
  have hk0 := hx
  refine zaf ?_
  refine zaf ?_
  refine zac ?_
  refine zab rfl rfl rfl (zad (.inl rfl) (ev1 rfl)) ?_
  refine zab rfl rfl rfl (op_fa rfl fo41_2 (ev1 rfl)) ?_
  refine zab rfl rfl rfl (op_ldo rfl tb3 (ev1 rfl) rfl rfl) ?_
  refine zab rfl rfl rfl (op_leq rfl (ev1 rfl) (ev1 rfl)) ?_
  refine zae ?_
  refine dwp_cond rfl (fun c1 => ?_) (fun c1 => ?_)
  · try simp only [decide_eq_true_eq, decide_eq_false_iff_not, beq_iff_eq, bne_iff_ne, beq_eq_false_iff_ne, bne_eq_false_iff_eq, Bool.not_eq_true', Bool.not_eq_false', Bool.and_eq_true, Bool.or_eq_true, Bool.or_eq_false_iff, ne_eq, Decidable.not_not, Int.not_lt, Int.not_le] at c1
    refine zal ?_
    refine zaf ?_
    refine zak ?_
    refine zaf ?_
    have hk : k < s.wd := by omega
    have hok := oneS_at hon hk
    refine zac ?_
    refine zab rfl rfl rfl (op_ldm rfl tb78 (ev1 rfl) rfl rfl) ?_
    refine zab rfl rfl rfl (zad (.inl rfl) (ev1 rfl)) ?_
    refine zab rfl rfl rfl (op_fa rfl fo41_0 (ev1 rfl)) ?_
    refine zab rfl rfl rfl (op_ldo rfl tb3 (ev1 rfl) rfl rfl) ?_
    refine zab rfl rfl rfl (op_build (ps := [(0, .tmp 17), (1, .tmp 19)]) rfl fl26 zr26 (vc (ev1 rfl) (vc (ev1 rfl) vn)) rfl rfl) ?_
    refine zaj rfl rfl rfl (op_y (i := 0) [2, 3, 4, 5, 6, 7, 8] [] [] rfl (ev1 rfl) (ec (ev1 rfl) en) rfl rfl (by exact mfits _ _ ⟨rfl, rfl, rfl, rfl, rfl, zam rfl rfl rfl, rfl, trivial⟩) (rmRound_y w h ds ts hr hc hg _ ⟨s.f + (k : Int), s.y⟩ hok) rfl rfl rfl (by exact (wrc rfl (wrc rfl (wrc rfl (wrc rfl (wrc rfl (wrc (sb_srx rfl rfl) (wrc rfl rfl)))))))) rfl) (by simp only [upd, zaa, za]; exact rfl) ?_
    refine zab rfl rfl rfl (op_not rfl (ev1 rfl)) ?_
    refine zae ?_
    refine dwp_if_f rfl (rfl) ?_
    refine zal ?_
    refine zac ?_
    refine zab rfl rfl rfl (zad (.inl rfl) (ev1 rfl)) ?_
    refine zab rfl rfl rfl (op_add' rfl (ev1 rfl) (ev1 rfl) (fun _ => IntWalk.i64_in _ (by omega))) ?_
    refine zab rfl rfl rfl (zad (.inr rfl) (ev1 rfl)) ?_
    refine zae ?_
    refine ⟨k + 1, [0, 1, 2, 3, 4, 5, 6, 7, 8, 9], by omega, by simp only []; omega, rfl, ⟨congrArg (fun z => some (D.val (.int .i64 z))) (by first | rfl | omega), rfl, rfl, trivial⟩, ⟨rfl, rfl, rfl, rfl, rfl, rfl, rfl, zam (by rw [pts_add hk, ← List.append_assoc]) rfl rfl, rfl, rfl, trivial⟩⟩
  · try simp only [decide_eq_true_eq, decide_eq_false_iff_not, beq_iff_eq, bne_iff_ne, beq_eq_false_iff_ne, bne_eq_false_iff_eq, Bool.not_eq_true', Bool.not_eq_false', Bool.and_eq_true, Bool.or_eq_true, Bool.or_eq_false_iff, ne_eq, Decidable.not_not, Int.not_lt, Int.not_le] at c1
    refine dwp_exit ?_
    obtain rfl : k = s.wd := by omega
    rw [show s.pts.take s.wd = s.pts from List.take_of_length_le (by omega)]
    refine ⟨by first | rfl | assumption | simp_all, rfl, [0, 1, 2, 3, 4, 5, 6, 7, 8], rfl, ⟨rfl, rfl, rfl, rfl, rfl, rfl, rfl, zam rfl rfl rfl, rfl, trivial⟩⟩
set_option maxRecDepth 4000 in
set_option maxHeartbeats 1000000 in
theorem rspan_n (w h : Int) (ds : List D) (ts : List TL) (hr : RowOk ds ts) (hc : CvOk w h ts) (hg : tsRng ts) (s : Sp) (hs : rchS s ∧ s.f ≤ s.t) (hon : oneS w h s = false) (P : List P2) : DRound Tryz.prog 0 [.val (.agg (s3 s).toArray)] [.lp 23 [(2, .loc 1 0)] #[7] alrA alrB .ready none, .mix 78 [.yld 2], .lp 44 [(2, .loc 3 0), (4, .loc 4 0), (5, .loc 5 0), (8, .loc 6 0)] #[26] rmrA rmrB .ready none, .mix 29 [cvD w h ds], .flat 55 [.slice none 0 0], .flat 33 [.int .i64 0], .mix 75 [.loc 7 0], .mix 115 (srL (cvD w h ds) ((mtF (P))).l (.farr 8 (0))), .fam (fmQ (0) (([] : List P2)))] false [.lp 23 [(2, .loc 1 0)] #[7] alrA alrB .done (some .ret), .mix 78 [.yld 2], .lp 44 [(2, .loc 3 0), (4, .loc 4 0), (5, .loc 5 0), (8, .loc 6 0)] #[26] rmrA rmrB .done (some .ret), .mix 29 [cvD w h ds], .flat 55 [.slice none 0 0], .flat 33 [.int .i64 4], .mix 75 [.loc 7 0], .mix 115 (srL (cvD w h ds) ((mtF (P ++ tkS w h s))).l (.farr 8 (0))), .fam (fmQ (0) (([] : List P2)))] := by
  obtain ⟨hrs, hft⟩ := hs
  have hr2 := hrs
  unfold rchS at hr2
  have hwd : (s.wd : Int) = s.t - s.f + 1 := by unfold Sp.wd; omega
  have hpw := pts_wd s
  refine dround_go 9 rfl rfl (by simp) rfl rfl fun s0 hs0 => ?_
  refine zah 1 (by simp only [holes, List.cons_append, List.nil_append]; exact rfl) ?_
  refine zac ?_
  refine zaj rfl rfl rfl (op_alloc 9 rfl zr41 rfl) (by simp only [upd, zaa, za]; exact rfl) ?_
  refine walk_s rfl rfl (op_stwa rfl tb41 (ev1 rfl) (ev1 rfl) rfl rfl rfl rfl) (by simp only [upd, zaa, za]; exact rfl) ?_
  refine zae ?_
  refine ⟨rfl, ?_⟩
  simp only [zaa, za]
  refine zak ?_
  refine zaf ?_
  refine zac ?_
  refine zab rfl rfl rfl (op_fa rfl fo41_1 (ev1 rfl)) ?_
  refine zab rfl rfl rfl (op_ldo rfl tb3 (ev1 rfl) rfl rfl) ?_
  refine zab rfl rfl rfl (zad (.inr rfl) (ev1 rfl)) ?_
  refine zae ?_
  refine zak ?_
  refine dwp_loopS ⟨hs0, rfl⟩ (α := Nat) (fun k => [(4, .val (.int .i64 (s.f + (k : Int))))]) [(2, _), (3, _)] (fun k => [(7, .mix 115 (srL (cvD w h ds) ((mtF (P ++ s.pts.take k))).l (.farr 8 (0))))]) [_, _, _, _, _, _, _, .hole, _, _] (fun k => k ≤ s.wd ∧ (s.pts.take k).all (onP w h) = true) (fun k => s.wd - k) 0 [0, 1, 2, 3, 4, 5, 6, 7, 8, 9] (⟨Nat.zero_le _, rfl⟩) rfl ⟨rfl, rfl, trivial⟩ ⟨congrArg (fun z => some (D.val (.int .i64 z))) (by first | rfl | omega), trivial⟩ ⟨rfl, rfl, rfl, rfl, rfl, rfl, rfl, zam (by rw [List.take_zero, List.append_nil]) rfl rfl, rfl, rfl, trivial⟩ ?_
  intro k hx
  simp only [upd, zaa, za, List.cons_append, List.nil_append]
  obtain ⟨hk0, hall⟩ := hx
  refine zaf ?_
  refine zaf ?_
  refine zac ?_
  refine zab rfl rfl rfl (zad (.inl rfl) (ev1 rfl)) ?_
  refine zab rfl rfl rfl (op_fa rfl fo41_2 (ev1 rfl)) ?_
  refine zab rfl rfl rfl (op_ldo rfl tb3 (ev1 rfl) rfl rfl) ?_
  refine zab rfl rfl rfl (op_leq rfl (ev1 rfl) (ev1 rfl)) ?_
  refine zae ?_
  refine dwp_cond rfl (fun c1 => ?_) (fun c1 => ?_)
  · try simp only [decide_eq_true_eq, decide_eq_false_iff_not, beq_iff_eq, bne_iff_ne, beq_eq_false_iff_ne, bne_eq_false_iff_eq, Bool.not_eq_true', Bool.not_eq_false', Bool.and_eq_true, Bool.or_eq_true, Bool.or_eq_false_iff, ne_eq, Decidable.not_not, Int.not_lt, Int.not_le] at c1
    refine zal ?_
    refine zaf ?_
    refine zak ?_
    refine zaf ?_
    by_cases hok : onP w h ⟨s.f + (k : Int), s.y⟩ = true
    · have hk : k < s.wd := by omega
      refine zac ?_
      refine zab rfl rfl rfl (op_ldm rfl tb78 (ev1 rfl) rfl rfl) ?_
      refine zab rfl rfl rfl (zad (.inl rfl) (ev1 rfl)) ?_
      refine zab rfl rfl rfl (op_fa rfl fo41_0 (ev1 rfl)) ?_
      refine zab rfl rfl rfl (op_ldo rfl tb3 (ev1 rfl) rfl rfl) ?_
      refine zab rfl rfl rfl (op_build (ps := [(0, .tmp 17), (1, .tmp 19)]) rfl fl26 zr26 (vc (ev1 rfl) (vc (ev1 rfl) vn)) rfl rfl) ?_
      refine zaj rfl rfl rfl (op_y (i := 0) [2, 3, 4, 5, 6, 7, 8] [] [] rfl (ev1 rfl) (ec (ev1 rfl) en) rfl rfl (by exact mfits _ _ ⟨rfl, rfl, rfl, rfl, rfl, zam rfl rfl rfl, rfl, trivial⟩) (rmRound_y w h ds ts hr hc hg _ ⟨s.f + (k : Int), s.y⟩ hok) rfl rfl rfl (by exact (wrc rfl (wrc rfl (wrc rfl (wrc rfl (wrc rfl (wrc (sb_srx rfl rfl) (wrc rfl rfl)))))))) rfl) (by simp only [upd, zaa, za]; exact rfl) ?_
      refine zab rfl rfl rfl (op_not rfl (ev1 rfl)) ?_
      refine zae ?_
      refine dwp_if_f rfl (rfl) ?_
      refine zal ?_
      refine zac ?_
      refine zab rfl rfl rfl (zad (.inl rfl) (ev1 rfl)) ?_
      refine zab rfl rfl rfl (op_add' rfl (ev1 rfl) (ev1 rfl) (fun _ => IntWalk.i64_in _ (by omega))) ?_
      refine zab rfl rfl rfl (zad (.inr rfl) (ev1 rfl)) ?_
      refine zae ?_
      refine ⟨k + 1, [0, 1, 2, 3, 4, 5, 6, 7, 8, 9], ⟨by omega, pts_on hk hall hok⟩, by simp only []; omega, rfl, ⟨congrArg (fun z => some (D.val (.int .i64 z))) (by first | rfl | omega), rfl, rfl, trivial⟩, ⟨rfl, rfl, rfl, rfl, rfl, rfl, rfl, zam (by rw [pts_add hk, ← List.append_assoc]) rfl rfl, rfl, rfl, trivial⟩⟩
    · have hk : k < s.wd := by omega
      have hok : onP w h ⟨s.f + (k : Int), s.y⟩ = false := by simpa using hok
      refine zac ?_
      refine zab rfl rfl rfl (op_ldm rfl tb78 (ev1 rfl) rfl rfl) ?_
      refine zab rfl rfl rfl (zad (.inl rfl) (ev1 rfl)) ?_
      refine zab rfl rfl rfl (op_fa rfl fo41_0 (ev1 rfl)) ?_
      refine zab rfl rfl rfl (op_ldo rfl tb3 (ev1 rfl) rfl rfl) ?_
      refine zab rfl rfl rfl (op_build (ps := [(0, .tmp 17), (1, .tmp 19)]) rfl fl26 zr26 (vc (ev1 rfl) (vc (ev1 rfl) vn)) rfl rfl) ?_
      refine zaj rfl rfl rfl (op_y (i := 0) [2, 3, 4, 5, 6, 7, 8] [] [] rfl (ev1 rfl) (ec (ev1 rfl) en) rfl rfl (by exact mfits _ _ ⟨rfl, rfl, rfl, rfl, rfl, zam rfl rfl rfl, rfl, trivial⟩) (rmRound_n w h ds ts hr hc hg _ ⟨s.f + (k : Int), s.y⟩ hok) rfl rfl rfl (by exact (wrc rfl (wrc rfl (wrc rfl (wrc rfl (wrc rfl (wrc (sb_srx rfl rfl) (wrc rfl rfl)))))))) rfl) (by simp only [upd, zaa, za]; exact rfl) ?_
      refine zab rfl rfl rfl (op_not rfl (ev1 rfl)) ?_
      refine zae ?_
      refine dwp_if_t rfl (rfl) ?_
      refine dwp_ret ?_
      rw [tkS_stop hk hall hok]
      refine ⟨by first | rfl | assumption | simp_all, rfl, [0, 1, 2, 3, 4, 5, 6, 7, 8], rfl, ⟨rfl, rfl, rfl, rfl, rfl, rfl, rfl, zam rfl rfl rfl, rfl, trivial⟩⟩
  · have c3 : ¬ (s.f + (k : Int) ≤ s.t) := by simpa using c1
    obtain rfl : k = s.wd := by omega
    rw [show s.pts.take s.wd = s.pts from List.take_of_length_le (by omega)] at hall
    unfold oneS at hon
    rw [hall] at hon
    exact absurd hon (by decide)
set_option maxRecDepth 4000 in
set_option maxHeartbeats 1000000 in
theorem told_rm (w h : Int) (ds : List D) (ts : List TL) (hr : RowOk ds ts) (hc : CvOk w h ts) (hg : tsRng ts) (l : List Sp) (hl : chkS l) (hl0 : l.length ≤ 9223372036854775807) : DFun Tryz.prog 67 [.yld 0, .loc 9 0] [.lp 23 [(2, .loc 1 0)] #[7] alrA alrB .ready none, .mix 78 [.yld 2], .lp 44 [(2, .loc 3 0), (4, .loc 4 0), (5, .loc 5 0), (8, .loc 6 0)] #[26] rmrA rmrB .ready none, .mix 29 [cvD w h ds], .flat 55 [.slice none 0 0], .flat 33 [.int .i64 0], .mix 75 [.loc 7 0], .mix 115 (srL (cvD w h ds) ((mtF ([]))).l (.farr 8 (0))), .fam (fmQ (0) (([] : List P2))), .mix 32 [.slf 3 l.length (l.flatMap s3)]] (.tup []) [.lp 23 [(2, .loc 1 0)] #[7] alrA alrB (rst (onA w h l)) (rpe .ret (onA w h l)), .mix 78 [.yld 2], .lp 44 [(2, .loc 3 0), (4, .loc 4 0), (5, .loc 5 0), (8, .loc 6 0)] #[26] rmrA rmrB (rst (onA w h l)) (rpe .ret (onA w h l)), .mix 29 [cvD w h ds], .flat 55 [.slice none 0 0], .flat 33 [.int .i64 (errZ (onA w h l))], .mix 75 [.loc 7 0], .mix 115 (srL (cvD w h ds) ((mtF (tkA w h l))).l (.farr 8 (0))), .fam (fmQ (0) (([] : List P2))), .mix 32 [.slf 3 l.length (l.flatMap s3)]] := by
  refine zan (N := 19) 10 (by kernel_rfl) Tryz.func67 rfl rfl rfl (by simp only [fr0, Nat.zero_add, Nat.reduceAdd]; exact rfl) rfl fun s0 hs0 => ?_
  refine zaf ?_
  refine zaf ?_
  refine zac ?_
  refine zab rfl rfl rfl (op_ldm rfl tb32 (ev1 rfl) rfl rfl) ?_
  refine zab rfl rfl rfl (zai [] [] [] rfl (ev1 rfl) (ec (ev1 rfl) en) rfl rfl (check_d l) rfl rfl rfl rfl rfl rfl) ?_
  refine zab rfl rfl rfl (op_neq rfl (ev1 rfl) (ev1 rfl)) ?_
  refine zae ?_
  refine dwp_if_f rfl (by rw [chkE_ok hl]; rfl) ?_
  refine zal ?_
  refine zaf ?_
  refine zac ?_
  refine zab rfl rfl rfl (op_ldm rfl tb32 (ev1 rfl) rfl rfl) ?_
  refine zab rfl rfl rfl (op_len rfl sl32 (ev1 rfl)) ?_
  refine zab rfl rfl rfl (zad (.inl rfl) (ev1 rfl)) ?_
  refine zae ?_
  refine zak ?_
  refine dwp_loopS ⟨hs0, rfl⟩ (α := Nat) (fun i => [(10, .val (.int .i64 (i : Int)))]) [(0, _), (8, _), (9, _)] (fun i => [(7, .mix 115 (srL (cvD w h ds) ((mtF (ptsS (l.take i)))).l (.farr 8 (0))))]) [_, _, _, _, _, _, _, .hole, _, _] (fun i => i ≤ l.length ∧ onA w h (l.take i) = true) (fun i => l.length - i) 0 [0, 1, 2, 3, 4, 5, 6, 7, 8, 9] (⟨Nat.zero_le _, rfl⟩) rfl ⟨rfl, rfl, rfl, trivial⟩ ⟨rfl, trivial⟩ ⟨rfl, rfl, rfl, rfl, rfl, rfl, rfl, zam rfl rfl rfl, rfl, rfl, trivial⟩ ?_
  intro i hx
  simp only [upd, zaa, za, List.cons_append, List.nil_append]
  obtain ⟨hi0, hlo⟩ := hx
  refine zaf ?_
  refine zac ?_
  refine zab rfl rfl rfl (op_lss rfl (ev1 rfl) (ev1 rfl)) ?_
  refine zae ?_
  refine zaf ?_
  refine dwp_cond rfl (fun c2 => ?_) (fun c2 => ?_)
  · try simp only [decide_eq_true_eq, decide_eq_false_iff_not, beq_iff_eq, bne_iff_ne, beq_eq_false_iff_ne, bne_eq_false_iff_eq, Bool.not_eq_true', Bool.not_eq_false', Bool.and_eq_true, Bool.or_eq_true, Bool.or_eq_false_iff, ne_eq, Decidable.not_not, Int.not_lt, Int.not_le] at c2
    refine zal ?_
    refine zaf ?_
    refine zak ?_
    refine zaf ?_
    have hi : i < l.length := by omega
    refine zah 1 (by simp only [holes, List.cons_append, List.nil_append]; exact rfl) ?_
    refine zac ?_
    refine zab rfl rfl rfl (op_ixsr (j := i) rfl sl32 (ev1 rfl) (ev1 rfl) (fun _ => rfl) (by decide) (by omega) (by omega)) ?_
    refine zab rfl rfl rfl (op_ldwd rfl tb41 (ev1 rfl) rfl) ?_
    refine zaj rfl rfl rfl (op_alloc 10 rfl zr41 rfl) (by simp only [upd, zaa, za]; exact rfl) ?_
    refine walk_s rfl rfl (op_stwa rfl tb41 (ev1 rfl) (ev1 rfl) rfl rfl rfl rfl) (by simp only [upd, zaa, za]; exact rfl) ?_
    refine zae ?_
    refine zaf ?_
    by_cases hy : oneS w h l[i] = true
    · refine zac ?_
      refine zab rfl rfl rfl (zad (.inl rfl) (ev1 rfl)) ?_
      refine zab rfl rfl rfl (op_ldw rfl tb41 (ev1 rfl) rfl rfl) ?_
      refine zaj rfl rfl rfl (op_y (i := 0) [0, 1, 2, 3, 4, 5, 6, 7, 8] [] [] rfl (ev1 rfl) (ec (ev1 rfl) en) rfl rfl (by exact mfits _ _ ⟨rfl, rfl, rfl, rfl, rfl, rfl, rfl, zam rfl rfl rfl, rfl, trivial⟩) (rspan_y w h ds ts hr hc hg l[i] (hl.1 _ (List.getElem_mem hi)) hy _) rfl rfl rfl (by exact (wrc rfl (wrc rfl (wrc rfl (wrc rfl (wrc rfl (wrc rfl (wrc rfl (wrc (sb_srx rfl rfl) (wrc rfl rfl)))))))))) rfl) (by simp only [upd, zaa, za]; exact rfl) ?_
      refine zab rfl rfl rfl (op_not rfl (ev1 rfl)) ?_
      refine zae ?_
      refine dwp_if_f rfl (rfl) ?_
      refine zal ?_
      refine zac ?_
      refine zab rfl rfl rfl (op_add' rfl (ev1 rfl) (ev1 rfl) (fun _ => IntWalk.i64_in _ (by omega))) ?_
      refine zab rfl rfl rfl (zad (.inl rfl) (ev1 rfl)) ?_
      refine zae ?_
      refine ⟨i + 1, [0, 1, 2, 3, 4, 5, 6, 7, 8, 9], ⟨by omega, onA_add hi hlo hy⟩, by simp only []; omega, rfl, ⟨rfl, rfl, rfl, rfl, trivial⟩, ⟨rfl, rfl, rfl, rfl, rfl, rfl, rfl, zam (by rw [ptsS_add hi]) rfl rfl, rfl, rfl, trivial⟩⟩
    · have hy : oneS w h l[i] = false := by simpa using hy
      refine zac ?_
      refine zab rfl rfl rfl (zad (.inl rfl) (ev1 rfl)) ?_
      refine zab rfl rfl rfl (op_ldw rfl tb41 (ev1 rfl) rfl rfl) ?_
      refine zaj rfl rfl rfl (op_y (i := 0) [0, 1, 2, 3, 4, 5, 6, 7, 8] [] [] rfl (ev1 rfl) (ec (ev1 rfl) en) rfl rfl (by exact mfits _ _ ⟨rfl, rfl, rfl, rfl, rfl, rfl, rfl, zam rfl rfl rfl, rfl, trivial⟩) (rspan_n w h ds ts hr hc hg l[i] (hl.1 _ (List.getElem_mem hi)) hy _) rfl rfl rfl (by exact (wrc rfl (wrc rfl (wrc rfl (wrc rfl (wrc rfl (wrc rfl (wrc rfl (wrc (sb_srx rfl rfl) (wrc rfl rfl)))))))))) rfl) (by simp only [upd, zaa, za]; exact rfl) ?_
      refine zab rfl rfl rfl (op_not rfl (ev1 rfl)) ?_
      refine zae ?_
      refine dwp_if_t rfl (rfl) ?_
      refine dwp_ret ?_
      obtain ⟨e1, e2⟩ := onA_stop hi hlo hy
      rw [e1, e2]
      refine kend [0, 1, 2, 3, 4, 5, 6, 7, 8, 9] (res_none rfl) rfl rfl ?_ ⟨rfl, rfl, rfl, rfl, rfl, rfl, rfl, zam rfl rfl rfl, rfl, rfl, trivial⟩
      rfl
  · try simp only [decide_eq_true_eq, decide_eq_false_iff_not, beq_iff_eq, bne_iff_ne, beq_eq_false_iff_ne, bne_eq_false_iff_eq, Bool.not_eq_true', Bool.not_eq_false', Bool.and_eq_true, Bool.or_eq_true, Bool.or_eq_false_iff, ne_eq, Decidable.not_not, Int.not_lt, Int.not_le] at c2
    refine dwp_exit ?_
    have hil : l.take i = l := take_all (by omega)
    rw [hil] at hlo
    rw [hlo, tkA_all hlo, hil]
    refine kend [0, 1, 2, 3, 4, 5, 6, 7, 8, 9] (res_none rfl) rfl rfl ?_ ⟨rfl, rfl, rfl, rfl, rfl, rfl, rfl, zam rfl rfl rfl, rfl, rfl, trivial⟩
    rfl
set_option maxRecDepth 4000 in
set_option maxHeartbeats 1000000 in
theorem all_rm (w h : Int) (ds : List D) (ts : List TL) (hr : RowOk ds ts) (hc : CvOk w h ts) (hg : tsRng ts) (l : List Sp) (hl : chkS l) (hl0 : l.length ≤ 9223372036854775807) : DFun Tryz.prog 38 [.yld 0, .loc 7 0] [.lp 44 [(2, .loc 1 0), (4, .loc 2 0), (5, .loc 3 0), (8, .loc 4 0)] #[26] rmrA rmrB .ready none, .mix 29 [cvD w h ds], .flat 55 [.slice none 0 0], .flat 33 [.int .i64 0], .mix 75 [.loc 5 0], .mix 115 (srL (cvD w h ds) ((mtF ([]))).l (.farr 6 (0))), .fam (fmQ (0) (([] : List P2))), .mix 32 [.slf 3 l.length (l.flatMap s3)]] (.tup []) [.lp 44 [(2, .loc 1 0), (4, .loc 2 0), (5, .loc 3 0), (8, .loc 4 0)] #[26] rmrA rmrB (rst (onA w h l)) (rpe .ret (onA w h l)), .mix 29 [cvD w h ds], .flat 55 [.slice none 0 0], .flat 33 [.int .i64 (errZ (onA w h l))], .mix 75 [.loc 5 0], .mix 115 (srL (cvD w h ds) ((mtF (tkA w h l))).l (.farr 6 (0))), .fam (fmQ (0) (([] : List P2))), .mix 32 [.slf 3 l.length (l.flatMap s3)]] := by
  refine zan (N := 23) 8 (by kernel_rfl) Tryz.func38 rfl rfl rfl (by simp only [fr0, Nat.zero_add, Nat.reduceAdd]; exact rfl) rfl fun s0 hs0 => ?_
  refine zaf ?_
  refine zah 1 (by simp only [holes, List.cons_append, List.nil_append]; exact rfl) ?_
  refine zac ?_
  refine zaj rfl rfl rfl (op_boxm 8 rfl (ev1 rfl) (fun s v h => by cases h <;> rfl) rfl) (by simp only [upd, zaa, za]; exact rfl) ?_
  refine zae ?_
  refine zaf ?_
  refine zah 1 (by simp only [holes, List.cons_append, List.nil_append]; exact rfl) ?_
  refine zac ?_
  refine zab rfl rfl rfl (op_ldm rfl tb32 (ev1 rfl) rfl rfl) ?_
  refine zaj rfl rfl rfl (zai [] [] [9] rfl (ev1 rfl) (ec (ev1 rfl) en) rfl rfl (told_d l) rfl rfl rfl rfl rfl rfl) (by simp only [upd, zaa, za]; exact rfl) ?_
  refine zae ?_
  refine zak ?_
  refine dwp_hole ?_
  simp only [List.cons_append, List.nil_append]
  refine dwp_rf (FL := [(2, _)]) (st := (rst (onA w h l))) (pe := (rpe .ret (onA w h l))) [10, 8, 0, 1, 2, 3, 4, 5, 6, 9] [] [] 10 rfl rfl (ev1 rfl) rfl (subF_lk ⟨rfl, trivial⟩) rfl rfl (by exact mfits _ _ ⟨rfl, rfl, rfl, rfl, rfl, rfl, rfl, zam rfl rfl rfl, rfl, rfl, trivial⟩) (told_rm w h ds ts hr hc hg l hl hl0) rfl rfl rfl (by exact (wrc rfl (wrc rfl (wrc rfl (wrc rfl (wrc rfl (wrc rfl (wrc rfl (wrc (sb_srx rfl rfl) (wrc rfl (wrc rfl rfl))))))))))) rfl rfl rfl (rst_busy _) (fun e => ?_) (fun c e => ?_)
  · simp only [upd, zaa, za]
    refine kend [0, 1, 2, 3, 4, 5, 6, 7] (res_none rfl) rfl rfl ?_ ⟨rfl, rfl, rfl, rfl, rfl, zam rfl rfl rfl, rfl, rfl, trivial⟩
    rfl
  · obtain ⟨e1, rfl⟩ : onA w h l = false ∧ c = .ret := by
      cases h : onA w h l <;> simp_all [rpe]
    simp only [upd, zaa, za]
    refine dwp_ret ?_
    refine kend [0, 1, 2, 3, 4, 5, 6, 7] (res_none rfl) rfl rfl ?_ ⟨rfl, rfl, rfl, rfl, rfl, zam rfl rfl rfl, rfl, rfl, trivial⟩
    rfl
set_option maxRecDepth 4000 in
set_option maxHeartbeats 1000000 in
theorem rim_d (w h : Int) (ds : List D) (ts : List TL) (hr : RowOk ds ts) (hc : CvOk w h ts) (hg : tsRng ts) (l : List Sp) (hl : l.length ≤ 1000000) (hc2 : chkS l) (ho : onA w h l = true) : DFun Tryz.prog 21 [cvD w h ds, .slf 3 l.length (l.flatMap s3)] [] (.tup [.slf 2 (gtP (rmB w h (mtF (ptsS l))) (w * 8).toNat ((h * 8).toNat * (w * 8).toNat)).length ((gtP (rmB w h (mtF (ptsS l))) (w * 8).toNat ((h * 8).toNat * (w * 8).toNat)).flatMap p2), .val (.int .i64 0)]) [] := by
  have e2 := tkA_all ho
  rw [← e2]
  refine zan (N := 44) 0 (by kernel_rfl) Tryz.func21 rfl rfl rfl (by simp only [fr0, Nat.zero_add, Nat.reduceAdd]; exact rfl) rfl fun s0 hs0 => ?_
  refine dwp_len (t := 1) rfl fun hl1 hL1 => ?_
  refine zaf ?_
  refine zah 3 (by simp only [holes, List.cons_append, List.nil_append]; exact rfl) ?_
  refine zac ?_
  refine zaj rfl rfl rfl (op_boxm 0 rfl (ev1 rfl) (fun s v h => by cases h <;> rfl) rfl) (by simp only [upd, zaa, za]; exact rfl) ?_
  refine zaj rfl rfl rfl (op_alloc 1 rfl zr55 rfl) (by simp only [upd, zaa, za]; exact rfl) ?_
  refine zaj rfl rfl rfl (op_alloc 2 rfl zr33 rfl) (by simp only [upd, zaa, za]; exact rfl) ?_
  refine zae ?_
  refine zaf ?_
  refine zaf ?_
  refine zac ?_
  refine zab rfl rfl rfl (op_ldm rfl tb29 (ev1 rfl) rfl rfl) ?_
  refine zab rfl rfl rfl (zai [] [] [] rfl (ev1 rfl) (ec (ev1 rfl) (ec (evnil 1 (ev1 rfl)) (ec (evnil 2 (ev1 rfl)) en))) rfl rfl (refuse_d w h ds ts hr hc [] []) rfl rfl rfl rfl rfl rfl) ?_
  refine zab rfl rfl rfl (zad (.inr rfl) (ev1 rfl)) ?_
  refine zae ?_
  refine zaf ?_
  refine zac ?_
  refine zab rfl rfl rfl (zad (.inl rfl) (ev1 rfl)) ?_
  refine zab rfl rfl rfl (op_neq rfl (ev1 rfl) (ev1 rfl)) ?_
  refine zae ?_
  refine dwp_if_f rfl (by rfl) ?_
  refine zal ?_
  refine zaf ?_
  refine zaf ?_
  refine zac ?_
  refine zab rfl rfl rfl (zad (.inl rfl) (ev1 rfl)) ?_
  refine zab rfl rfl rfl (zai [] [] [] rfl (ev1 rfl) (ec (ev1 rfl) en) rfl rfl (check_d l) rfl rfl rfl rfl rfl rfl) ?_
  refine zab rfl rfl rfl (zad (.inr rfl) (ev1 rfl)) ?_
  refine zae ?_
  refine zaf ?_
  refine zac ?_
  refine zab rfl rfl rfl (zad (.inl rfl) (ev1 rfl)) ?_
  refine zab rfl rfl rfl (op_neq rfl (ev1 rfl) (ev1 rfl)) ?_
  refine zae ?_
  refine dwp_if_f rfl (by rw [chkE_ok hc2]; rfl) ?_
  refine zal ?_
  refine zaf ?_
  refine zah 3 (by simp only [holes, List.cons_append, List.nil_append]; exact rfl) ?_
  refine zac ?_
  refine zab rfl rfl rfl (op_ldm rfl tb29 (ev1 rfl) rfl rfl) ?_
  refine zaj rfl rfl rfl (zai [] [] [3, 4] rfl (ev1 rfl) (ec (ev1 rfl) en) rfl rfl (searchOf_d w h ds) rfl rfl rfl (by exact (wrc (sb_srx rfl rfl) (wrc rfl rfl))) rfl rfl) (by simp only [upd, zaa, za]; exact rfl) ?_
  refine zaj rfl rfl rfl (op_alloc 5 rfl zr75 rfl) (by simp only [upd, zaa, za]; exact rfl) ?_
  refine walk_s rfl rfl (op_stfm rfl tb75 (ev1 rfl) (ev1 rfl) (fun s v h => by cases h <;> exact ⟨rfl, rfl⟩) rfl (by decide)) (by simp only [upd, zaa, za]; exact rfl) ?_
  refine zae ?_
  refine zaf ?_
  refine zaf ?_
  refine zah 1 (by simp only [holes, List.cons_append, List.nil_append]; exact rfl) ?_
  refine zac ?_
  refine zab rfl rfl rfl (zad (.inl rfl) (ev1 rfl)) ?_
  refine zaj rfl rfl rfl (zai [] [] [6] rfl (ev1 rfl) (ec (ev1 rfl) en) rfl rfl (all_d l hl) rfl rfl rfl rfl rfl rfl) (by simp only [upd, zaa, za]; exact rfl) ?_
  refine zae ?_
  refine zak ?_
  refine dwp_hole ?_
  simp only [List.cons_append, List.nil_append]
  refine dwp_rf (FL := [(2, _), (4, _), (5, _), (8, _)]) (st := (rst (onA w h l))) (pe := (rpe .ret (onA w h l))) [7, 0, 1, 2, 5, 3, 4, 6] [] [] 7 rfl rfl (ev1 rfl) rfl (subF_lk ⟨rfl, rfl, rfl, rfl, trivial⟩) rfl rfl (by exact mfits _ _ ⟨rfl, rfl, rfl, rfl, rfl, zam rfl rfl rfl, rfl, rfl, trivial⟩) (all_rm w h ds ts hr hc hg l hc2 hl1) rfl rfl rfl (by exact (wrc rfl (wrc rfl (wrc rfl (wrc rfl (wrc rfl (wrc (sb_srx rfl rfl) (wrc rfl (wrc rfl rfl))))))))) rfl rfl rfl (rst_busy _) (fun e => ?_) (fun c e => ?_)
  · simp only [upd, zaa, za]
    refine zaf ?_
    refine zac ?_
    refine zab rfl rfl rfl (op_ldm rfl tb75 (ev1 rfl) rfl rfl) ?_
    refine zab rfl rfl rfl (op_mkf rfl en (ec (ev1 rfl) en)) ?_
    refine zaj rfl rfl rfl (zai [3, 4, 5] [] [] rfl (ev1 rfl) (ec (ev1 rfl) (ec (ev1 rfl) en)) rfl (by exact mfits _ _ ⟨zam rfl rfl rfl, rfl, rfl, trivial⟩) (gatR_d w h ds ts hr hc (mtF (tkA w h l)) _ [] hg) rfl rfl rfl (by exact (wrc (sb_srx rfl rfl) (wrc rfl (wrc rfl rfl)))) rfl rfl) (by simp only [upd, zaa, za]; exact rfl) ?_
    refine walk_s rfl rfl (op_stfm rfl tb55 (ev1 rfl) (ev1 rfl) (fun s v h => by cases h <;> exact ⟨rfl, rfl⟩) rfl (by decide)) (by simp only [upd, zaa, za]; exact rfl) ?_
    refine walk_s rfl rfl (op_stwi rfl tb33 (ev1 rfl) (ev1 rfl) rfl) (by simp only [upd, zaa, za]; exact rfl) ?_
    refine zae ?_
    refine dwp_ret ?_
    refine kend0 (rs2 rfl (rv_m tb55 rfl rfl rfl) (rv_1 tb33 rfl rfl rfl)) rfl ?_
    rfl
  · exact absurd e (by rw [ho]; exact fun e => by cases e)
end Go.Proofs.YtfnhckildfbikaaGreat
namespace Go.Proofs.YtfnhckildfbikaaGreat
set_option maxRecDepth 4000
set_option linter.unusedVariables false
set_option linter.unusedSimpArgs false
open Go.RowKit
theorem okd_wk {I : Nat → Prop} {w h : Int} {ts : List TL} {d : D} (hf : Okd (NewCv I w h ts) d) : Wk d (.tup [cvD w h (dpR ts), .val (.int .i64 0)]) := by
  obtain ⟨_, ⟨A, hA, _, rfl⟩, rfl⟩ := hf
  exact Wk.tup (.cons ((pinsR_ok hA).wkd w h) (.cons (.refl _) .nil))
theorem of_d (w h : Int) (ts : List TL) (hc : CvOk w h ts) : DFun Tryz.prog 25 [shD w h ts] [] (.tup [cvD w h (dpR ts), .val (.int .i64 0)]) [] := (of_i w h ts hc).fun fun I d hf => okd_wk hf
theorem cnew_d (w h : Int) (n : Nat) (hm : mayS w h = true) (hn : w * h = (n : Int)) : DFun Tryz.prog 44 [.val (.int .i64 w), .val (.int .i64 h)] [] (.tup [cvD w h (dpR (List.replicate n (nT zC4))), .val (.int .i64 0)]) [] := (cnew_i w h n hm hn).fun fun I d hf => okd_wk hf
def redC : C4 := ⟨255, 0, 0, 255⟩
def wkT : List TL := List.replicate 1 (nT zC4)
theorem wkT_ok : CvOk 1 1 wkT := ⟨by decide, by decide⟩
def crT : List TL := putsC 1 1 wkT (dtsC redC [⟨0, 1⟩, ⟨1, 1⟩, ⟨1, 0⟩])
theorem crT_eq : crT = putsC 1 1 wkT (dtsC redC [⟨0, 1⟩, ⟨1, 1⟩, ⟨1, 0⟩]) := rfl
theorem crT_ok : CvOk 1 1 crT := wkT_ok.puts _
theorem w8_a : rgS 1 1 (rgF 1 1 crT 0 ⟨1, 0⟩) = [⟨0, 1, 1⟩, ⟨1, 0, 1⟩] := by kernel_rfl
theorem redC_rng : redC.rng := by unfold C4.rng redC; decide
theorem wkT_rng : tsRng wkT := fun t ht c hc => by
  obtain rfl := (List.mem_replicate.1 ht).2
  have hc : c ∈ List.replicate 64 zC4 := hc
  obtain rfl := (List.mem_replicate.1 hc).2
  exact zC4_rng
theorem dts_rng {c : C4} (hc : c.rng) (l : List P2) : ∀ d ∈ dtsC c l, d.c.rng := fun d hd => by
  have hd : d ∈ l.map fun p => (⟨p.x, p.y, c⟩ : Dt) := hd
  obtain ⟨p, _, rfl⟩ := List.mem_map.1 hd
  exact hc
theorem crT_rng : tsRng crT := putsC_rng _ wkT_rng (dts_rng redC_rng _)
def k8a : List Sp := [⟨0, 1, 1⟩, ⟨1, 0, 1⟩]
theorem w8_a2 : rgS 1 1 (rgF 1 1 crT 0 ⟨1, 0⟩) = k8a := w8_a
def k8p : List Int := [3, 1]
theorem w8_p : ([0, 1020] : List Int).map (pcV 1 1 crT) = k8p := by kernel_rfl
theorem w8_s : (((rgF 1 1 crT 0 ⟨1, 0⟩).at ⟨0, 1⟩ : Nat) : Int) - 1 = 2 := by kernel_rfl
theorem w8_sh : (rgF 1 1 crT 0 ⟨1, 0⟩).has ⟨0, 1⟩ = true := by kernel_rfl
theorem w8_no : (rgF 1 1 crT 0 ⟨0, 0⟩).has ⟨1, 0⟩ = false := by kernel_rfl
def k8m : List P2 := [⟨0, 0⟩]
theorem w8_m : gtP (rmB 1 1 (mtF (ptsS [⟨0, 0, 0⟩]))) ((1 : Int) * 8).toNat (((1 : Int) * 8).toNat * ((1 : Int) * 8).toNat) = k8m := by kernel_rfl
theorem w8_mc : chkS [⟨0, 0, 0⟩] := by decide
theorem w8_mo : onA 1 1 [⟨0, 0, 0⟩] = true := by kernel_rfl
def crU : List TL := putsC 1 1 crT (dtsC redC (rgP 1 1 (rgF 1 1 crT 0 ⟨0, 0⟩)))
theorem crU_eq : crU = putsC 1 1 crT (dtsC redC (rgP 1 1 (rgF 1 1 crT 0 ⟨0, 0⟩))) := rfl
theorem crU_ok : CvOk 1 1 crU := crT_ok.puts _
theorem crU_rng : tsRng crU := putsC_rng _ crT_rng (dts_rng redC_rng _)
def k8q : List Int := [2]
theorem w8_q : ([0] : List Int).map (pcV 1 1 crU) = k8q := by kernel_rfl
end Go.Proofs.YtfnhckildfbikaaGreat
namespace Go.Proofs.YtfnhckildfbikaaGreat
set_option maxRecDepth 4000
set_option linter.unusedVariables false
set_option linter.unusedSimpArgs false
open Go.RowKit
attribute [local irreducible] crT crU pcV rgF rgS gtP
theorem w8r_d : DFun Tryz.prog 7 [cvD 1 1 (dpR crT), .val (.agg #[.int .i64 1, .int .i64 0]), .val (.int .i64 0)] [] (.tup [.slf 3 k8a.length (k8a.flatMap s3), .val (.int .i64 0)]) [] := by
  have h := region_d 1 1 _ crT (dpR_ok crT) crT_ok crT_rng ⟨1, 0⟩ 0 (by decide)
  rw [w8_a2] at h
  exact h
theorem w8p_d : DFun Tryz.prog 19 [cvD 1 1 (dpR crT), .slf 1 2 [.int .i64 0, .int .i64 1020]] [] (.tup [.slf 1 k8p.length (k8p.flatMap iV), .val (.int .i64 0)]) [] := by
  have h := parts_d 1 1 _ crT (dpR_ok crT) crT_ok crT_rng [0, 1020] (by decide) (by decide)
  rw [w8_p] at h
  exact h
theorem w8s_d : DFun Tryz.prog 20 [cvD 1 1 (dpR crT), .val (.agg #[.int .i64 1, .int .i64 0]), .val (.agg #[.int .i64 0, .int .i64 1]), .val (.int .i64 0)] [] (.tup [.val (.int .i64 2), .val (.int .i64 0)]) [] := by
  have h := steps_d 1 1 _ crT (dpR_ok crT) crT_ok crT_rng ⟨1, 0⟩ ⟨0, 1⟩ 0 (by decide) w8_sh
  rw [w8_s] at h
  exact h
theorem w8n_d : DFun Tryz.prog 20 [cvD 1 1 (dpR crT), .val (.agg #[.int .i64 0, .int .i64 0]), .val (.agg #[.int .i64 1, .int .i64 0]), .val (.int .i64 0)] [] (.tup [.val (.int .i64 0), .val (.int .i64 4)]) [] := by
  have h := steps_no 1 1 _ crT (dpR_ok crT) crT_ok crT_rng ⟨0, 0⟩ ⟨1, 0⟩ 0 (by decide) w8_no
  exact h
theorem w8m_d : DFun Tryz.prog 21 [cvD 1 1 (dpR crT), .slf 3 1 [.int .i64 0, .int .i64 0, .int .i64 0]] [] (.tup [.slf 2 k8m.length (k8m.flatMap p2), .val (.int .i64 0)]) [] := by
  have h := rim_d 1 1 _ crT (dpR_ok crT) crT_ok crT_rng [⟨0, 0, 0⟩] (by decide) w8_mc w8_mo
  rw [w8_m] at h
  exact h
theorem w8g_d : DFun Tryz.prog 7 [cvD 1 1 (dpR crT), .val (.agg #[.int .i64 1, .int .i64 0]), .val (.int .i64 (-1))] [] (.tup [.val (.slice none 0 0), .val (.int .i64 2)]) [] := by
  have h := region_n 1 1 _ crT (dpR_ok crT) crT_ok crT_rng ⟨1, 0⟩ (-1) (by decide)
  rw [show refE 1 1 [-1] [⟨1, 0⟩] = 2 by decide] at h
  exact h
theorem w8f_d : DFun Tryz.prog 15 [cvD 1 1 (dpR crT), .val (.agg #[.int .i64 0, .int .i64 0]), .val (.int .i64 0), .val (.agg #[.int .u8 255, .int .u8 0, .int .u8 0, .int .u8 255])] [] (.tup [cvD 1 1 (dpR crU), .val (.int .i64 0)]) [] := by
  have h := fill_d 1 1 _ crT (dpR_ok crT) crT_ok crT_rng ⟨0, 0⟩ 0 redC (by decide)
  rw [← crU_eq] at h
  exact h
theorem w8q_d : DFun Tryz.prog 19 [cvD 1 1 (dpR crU), .slf 1 1 [.int .i64 0]] [] (.tup [.slf 1 k8q.length (k8q.flatMap iV), .val (.int .i64 0)]) [] := by
  have h := parts_d 1 1 _ crU (dpR_ok crU) crU_ok crU_rng [0] (by decide) (by decide)
  rw [w8_q] at h
  exact h
set_option maxRecDepth 4000 in
set_option maxHeartbeats 1000000 in
theorem corner_d : DFun Tryz.prog 18 [] [] (cvD 1 1 (dpR crT)) [] := by
  refine zan (N := 16) 0 (by kernel_rfl) Tryz.func18 rfl rfl rfl (by simp only [fr0, Nat.zero_add, Nat.reduceAdd]; exact rfl) rfl fun s0 hs0 => ?_
  refine zaf ?_
  refine zac ?_
  refine zab rfl rfl rfl (zad (.inr rfl) (ev1 rfl)) ?_
  refine zae ?_
  refine zaf ?_
  refine zac ?_
  refine zab rfl rfl rfl (zai [] [] [] rfl (ev1 rfl) (ec (ev1 rfl) (ec (ev1 rfl) en)) rfl rfl (cnew_d 1 1 1 (by decide) (by decide)) rfl rfl rfl rfl rfl rfl) ?_
  refine zab rfl rfl rfl (zad (.inl rfl) (ev1 rfl)) ?_
  refine zab rfl rfl rfl (op_ext rfl (ev1 rfl) rfl) ?_
  refine zab rfl rfl rfl (op_ext rfl (ev1 rfl) rfl) ?_
  refine zab rfl rfl rfl (zad (.inr rfl) (ev1 rfl)) ?_
  refine zab rfl rfl rfl (zad (.inr rfl) (ev1 rfl)) ?_
  refine zae ?_
  refine zaf ?_
  refine zaf ?_
  refine zac ?_
  refine zab rfl rfl rfl (zad (.inl rfl) (ev1 rfl)) ?_
  refine zab rfl rfl rfl ((op_neq rfl (ev1 rfl) (ev1 rfl)).cast (d' := .val (.bool false)) (by kernel_rfl)) ?_
  refine zae ?_
  refine dwp_if_f rfl (rfl) ?_
  refine zal ?_
  refine zaf ?_
  refine zac ?_
  refine zab rfl rfl rfl (zad (.inl rfl) (ev1 rfl)) ?_
  refine zab rfl rfl rfl (op_build (ps := [(0, .const (.int .u8 255)), (3, .const (.int .u8 255))]) rfl fl44 zr44 (vc (ev1 rfl) (vc (ev1 rfl) vn)) rfl rfl) ?_
  refine zab rfl rfl rfl (op_build (ps := [(1, .const (.int .i64 1))]) rfl fl26 zr26 (vc (ev1 rfl) vn) rfl rfl) ?_
  refine zab rfl rfl rfl (op_build (ps := [(0, .const (.int .i64 1)), (1, .const (.int .i64 1))]) rfl fl26 zr26 (vc (ev1 rfl) (vc (ev1 rfl) vn)) rfl rfl) ?_
  refine zab rfl rfl rfl (op_build (ps := [(0, .const (.int .i64 1))]) rfl fl26 zr26 (vc (ev1 rfl) vn) rfl rfl) ?_
  refine zab rfl rfl rfl (op_bs (ps := [(0, .tmp 11), (1, .tmp 12), (2, .tmp 13)]) rfl sl55 zr26 rfl (vc (ev1 rfl) (vc (ev1 rfl) (vc (ev1 rfl) vn))) rfl (by decide) (by decide)) ?_
  refine zab rfl rfl rfl (zai [] [] [] rfl (ev1 rfl) (ec (ev1 rfl) (ec (ev1 rfl) (ec (ev1 rfl) en))) rfl rfl (set_d 1 1 _ wkT (dpR_ok wkT) wkT_ok redC [⟨0, 1⟩, ⟨1, 1⟩, ⟨1, 0⟩] (by decide)) rfl rfl rfl rfl rfl rfl) ?_
  refine zab rfl rfl rfl (zad (.inr rfl) (ev1 rfl)) ?_
  refine zae ?_
  refine dwp_ret ?_
  refine kend0 (rs1 rfl (rv_t rfl)) rfl ?_
  rw [crT_eq]
set_option maxRecDepth 4000 in
set_option maxHeartbeats 1000000 in
theorem equalI (l r : List Int) : DFun Tryz.prog 22 [.slf 1 l.length (l.flatMap iV), .slf 1 r.length (r.flatMap iV)] [] (.val (.bool (decide (l = r)))) [] := by
  refine zan (N := 26) 0 (by kernel_rfl) Tryz.func22 rfl rfl rfl (by simp only [fr0, Nat.zero_add, Nat.reduceAdd]; exact rfl) rfl fun s0 hs0 => ?_
  refine dwp_len (t := 0) rfl fun hl0 hL0 => ?_
  refine dwp_len (t := 1) rfl fun hl1 hL1 => ?_
  refine zaf ?_
  refine zac ?_
  refine zab rfl rfl rfl (zad (.inr rfl) (ev1 rfl)) ?_
  refine zae ?_
  refine zaf ?_
  refine zaf ?_
  refine zac ?_
  refine zab rfl rfl rfl (zad (.inl rfl) (ev1 rfl)) ?_
  refine zab rfl rfl rfl (op_len rfl sl61 (ev1 rfl)) ?_
  refine zab rfl rfl rfl (zad (.inl rfl) (ev1 rfl)) ?_
  refine zab rfl rfl rfl (op_len rfl sl61 (ev1 rfl)) ?_
  refine zab rfl rfl rfl (op_neq rfl (ev1 rfl) (ev1 rfl)) ?_
  refine zae ?_
  refine dwp_cond rfl (fun c1 => ?_) (fun c1 => ?_)
  · try simp only [decide_eq_true_eq, decide_eq_false_iff_not, beq_iff_eq, bne_iff_ne, beq_eq_false_iff_ne, bne_eq_false_iff_eq, Bool.not_eq_true', Bool.not_eq_false', Bool.and_eq_true, Bool.or_eq_true, Bool.or_eq_false_iff, ne_eq, Decidable.not_not, Int.not_lt, Int.not_le] at c1
    refine zaf ?_
    refine zac ?_
    refine zab rfl rfl rfl (zad (.inr rfl) (ev1 rfl)) ?_
    refine zae ?_
    refine dwp_ret ?_
    refine kend0 (rs1 rfl (rv_t rfl)) rfl ?_
    have hne : l ≠ r := fun e => by subst e; exact c1 rfl
    rw [decide_eq_false hne]
  · try simp only [decide_eq_true_eq, decide_eq_false_iff_not, beq_iff_eq, bne_iff_ne, beq_eq_false_iff_ne, bne_eq_false_iff_eq, Bool.not_eq_true', Bool.not_eq_false', Bool.and_eq_true, Bool.or_eq_true, Bool.or_eq_false_iff, ne_eq, Decidable.not_not, Int.not_lt, Int.not_le] at c1
    have hlen : l.length = r.length := by omega
    refine zal ?_
    refine zaf ?_
    refine zaf ?_
    refine zac ?_
    refine zab rfl rfl rfl (zad (.inl rfl) (ev1 rfl)) ?_
    refine zab rfl rfl rfl (op_len rfl sl61 (ev1 rfl)) ?_
    refine zab rfl rfl rfl (zad (.inl rfl) (ev1 rfl)) ?_
    refine zae ?_
    refine zak ?_
    refine dwp_loopS ⟨hs0, rfl⟩ (α := Nat) (fun k => [(13, .val (.int .i64 (k : Int)))]) [(0, _), (1, _), (12, _)] (fun k => []) [] (fun k => k ≤ l.length ∧ l.take k = r.take k) (fun k => l.length - k) 0 [] (by simp) rfl ⟨rfl, rfl, rfl, trivial⟩ ⟨rfl, trivial⟩ trivial ?_
    intro k hx
    simp only [upd, zaa, za, List.cons_append, List.nil_append]
    obtain ⟨hk, he⟩ := hx
    refine zaf ?_
    refine zac ?_
    refine zab rfl rfl rfl (op_lss rfl (ev1 rfl) (ev1 rfl)) ?_
    refine zae ?_
    refine zaf ?_
    refine dwp_cond rfl (fun c2 => ?_) (fun c2 => ?_)
    · try simp only [decide_eq_true_eq, decide_eq_false_iff_not, beq_iff_eq, bne_iff_ne, beq_eq_false_iff_ne, bne_eq_false_iff_eq, Bool.not_eq_true', Bool.not_eq_false', Bool.and_eq_true, Bool.or_eq_true, Bool.or_eq_false_iff, ne_eq, Decidable.not_not, Int.not_lt, Int.not_le] at c2
      refine zal ?_
      refine zaf ?_
      refine zak ?_
      refine zaf ?_
      refine zac ?_
      refine zab rfl rfl rfl (zad (.inl rfl) (ev1 rfl)) ?_
      refine zab rfl rfl rfl (zad (.inr rfl) (ev1 rfl)) ?_
      refine zae ?_
      refine zaf ?_
      refine dwp_draw [([], []), ([], []), ([], []), ([], []), ([], []), ([], []), ([], []), ([], []), ([], [])] mixed (by kernel_rfl) ?_
      refine zag rfl rfl (zad (.inl rfl) (ev1 rfl)) ?_
      refine zag rfl rfl (zad (.inl rfl) (ev1 rfl)) ?_
      refine zag rfl rfl (op_ixsr (j := k) rfl sl61 (ev1 rfl) (ev1 rfl) (fun _ => rfl) (by decide) (by omega) (by omega)) ?_
      refine zag rfl rfl (op_ldod rfl tb3 (ev1 rfl) rfl) ?_
      refine zag rfl rfl (zad (.inl rfl) (ev1 rfl)) ?_
      refine zag rfl rfl (zad (.inl rfl) (ev1 rfl)) ?_
      refine zag rfl rfl (op_ixsr (j := k) rfl sl61 (ev1 rfl) (ev1 rfl) (fun _ => rfl) (by decide) (by omega) (by omega)) ?_
      refine zag rfl rfl (op_ldod rfl tb3 (ev1 rfl) rfl) ?_
      refine zag rfl rfl (op_neq rfl (ev1 rfl) (ev1 rfl)) ?_
      refine lex_nil ?_
      refine dwp_cond rfl (fun c2 => ?_) (fun c2 => ?_)
      · have c3 : l[k] ≠ r[k] := by simpa using c2
        refine zaf ?_
        refine zac ?_
        refine zab rfl rfl rfl (zad (.inr rfl) (ev1 rfl)) ?_
        refine zae ?_
        refine dwp_ret ?_
        refine kend0 (rs1 rfl (rv_t rfl)) rfl ?_
        have hne : l ≠ r := fun e => by subst e; exact c3 rfl
        rw [decide_eq_false hne]
      · have c3 : l[k] = r[k] := by simpa using c2
        refine zal ?_
        refine zac ?_
        refine zab rfl rfl rfl (op_add' rfl (ev1 rfl) (ev1 rfl) (fun _ => IntWalk.i64_in _ (by omega))) ?_
        refine zab rfl rfl rfl (zad (.inl rfl) (ev1 rfl)) ?_
        refine zae ?_
        refine ⟨k + 1, [], ⟨by omega, by rw [List.take_succ_eq_append_getElem (by omega), List.take_succ_eq_append_getElem (by omega), he, c3]⟩, by simp only []; omega, rfl, ⟨rfl, rfl, rfl, rfl, trivial⟩, trivial⟩
    · try simp only [decide_eq_true_eq, decide_eq_false_iff_not, beq_iff_eq, bne_iff_ne, beq_eq_false_iff_ne, bne_eq_false_iff_eq, Bool.not_eq_true', Bool.not_eq_false', Bool.and_eq_true, Bool.or_eq_true, Bool.or_eq_false_iff, ne_eq, Decidable.not_not, Int.not_lt, Int.not_le] at c2
      refine dwp_exit ?_
      refine zaf ?_
      refine zac ?_
      refine zab rfl rfl rfl (zad (.inr rfl) (ev1 rfl)) ?_
      refine zae ?_
      refine dwp_ret ?_
      refine kend0 (rs1 rfl (rv_t rfl)) rfl ?_
      have e : l = r := by
        have h := he
        rw [List.take_of_length_le (by omega), List.take_of_length_le (by omega)] at h
        exact h
      rw [decide_eq_true e]
set_option maxRecDepth 4000 in
set_option maxHeartbeats 1000000 in
theorem wakes_d : DFun Tryz.prog 5 [] [] (.val (.bool true)) [] := by
  refine zan (N := 130) 0 (by kernel_rfl) Tryz.func5 rfl rfl rfl (by simp only [fr0, Nat.zero_add, Nat.reduceAdd]; exact rfl) rfl fun s0 hs0 => ?_
  refine zaf ?_
  refine zac ?_
  refine zab rfl rfl rfl (zad (.inr rfl) (ev1 rfl)) ?_
  refine zae ?_
  refine zaf ?_
  refine zac ?_
  refine zab rfl rfl rfl (zai [] [] [] rfl (ev1 rfl) en rfl rfl (corner_d) rfl rfl rfl rfl rfl rfl) ?_
  refine zab rfl rfl rfl (zad (.inr rfl) (ev1 rfl)) ?_
  refine zae ?_
  refine zaf ?_
  refine zah 1 (by simp only [holes, List.cons_append, List.nil_append]; exact rfl) ?_
  refine zac ?_
  refine zab rfl rfl rfl (op_build (ps := [(0, .const (.int .i64 1))]) rfl fl26 zr26 (vc (ev1 rfl) vn) rfl rfl) ?_
  refine zaj rfl rfl rfl (op_alloc 0 rfl zr26 rfl) (by simp only [upd, zaa, za]; exact rfl) ?_
  refine walk_s rfl rfl (op_stwa rfl tb26 (ev1 rfl) (ev1 rfl) rfl rfl rfl rfl) (by simp only [upd, zaa, za]; exact rfl) ?_
  refine zae ?_
  refine zaf ?_
  refine zac ?_
  refine zab rfl rfl rfl (zad (.inl rfl) (ev1 rfl)) ?_
  refine zab rfl rfl rfl (op_ldw rfl tb26 (ev1 rfl) rfl rfl) ?_
  refine zab rfl rfl rfl (zai [] [] [] rfl (ev1 rfl) (ec (ev1 rfl) (ec (ev1 rfl) (ec (ev1 rfl) en))) rfl rfl (w8r_d) rfl rfl rfl rfl rfl rfl) ?_
  refine zab rfl rfl rfl (zad (.inl rfl) (ev1 rfl)) ?_
  refine zab rfl rfl rfl (op_ext rfl (ev1 rfl) rfl) ?_
  refine zab rfl rfl rfl (op_ext rfl (ev1 rfl) rfl) ?_
  refine zab rfl rfl rfl (zad (.inr rfl) (ev1 rfl)) ?_
  refine zab rfl rfl rfl (zad (.inr rfl) (ev1 rfl)) ?_
  refine zae ?_
  refine zaf ?_
  refine zac ?_
  refine zab rfl rfl rfl (zad (.inl rfl) (ev1 rfl)) ?_
  refine zab rfl rfl rfl (op_bs (ps := [(0, .const (.int .i64 0)), (1, .const (.int .i64 1020))]) rfl sl61 zr3 rfl (vc (ev1 rfl) (vc (ev1 rfl) vn)) rfl (by decide) (by decide)) ?_
  refine zab rfl rfl rfl (zai [] [] [] rfl (ev1 rfl) (ec (ev1 rfl) (ec (ev1 rfl) en)) rfl rfl (w8p_d) rfl rfl rfl rfl rfl rfl) ?_
  refine zab rfl rfl rfl (zad (.inl rfl) (ev1 rfl)) ?_
  refine zab rfl rfl rfl (op_ext rfl (ev1 rfl) rfl) ?_
  refine zab rfl rfl rfl (op_ext rfl (ev1 rfl) rfl) ?_
  refine zab rfl rfl rfl (zad (.inr rfl) (ev1 rfl)) ?_
  refine zab rfl rfl rfl (zad (.inr rfl) (ev1 rfl)) ?_
  refine zae ?_
  refine zaf ?_
  refine zac ?_
  refine zab rfl rfl rfl (zad (.inl rfl) (ev1 rfl)) ?_
  refine zab rfl rfl rfl (op_ldw rfl tb26 (ev1 rfl) rfl rfl) ?_
  refine zab rfl rfl rfl (op_build (ps := [(1, .const (.int .i64 1))]) rfl fl26 zr26 (vc (ev1 rfl) vn) rfl rfl) ?_
  refine zab rfl rfl rfl (zai [] [] [] rfl (ev1 rfl) (ec (ev1 rfl) (ec (ev1 rfl) (ec (ev1 rfl) (ec (ev1 rfl) en)))) rfl rfl (w8s_d) rfl rfl rfl rfl rfl rfl) ?_
  refine zab rfl rfl rfl (zad (.inl rfl) (ev1 rfl)) ?_
  refine zab rfl rfl rfl (op_ext rfl (ev1 rfl) rfl) ?_
  refine zab rfl rfl rfl (op_ext rfl (ev1 rfl) rfl) ?_
  refine zab rfl rfl rfl (zad (.inr rfl) (ev1 rfl)) ?_
  refine zab rfl rfl rfl (zad (.inr rfl) (ev1 rfl)) ?_
  refine zae ?_
  refine zaf ?_
  refine zac ?_
  refine zab rfl rfl rfl (zad (.inl rfl) (ev1 rfl)) ?_
  refine zab rfl rfl rfl (op_build0 rfl fl26 zr26) ?_
  refine zab rfl rfl rfl (op_ldw rfl tb26 (ev1 rfl) rfl rfl) ?_
  refine zab rfl rfl rfl (zai [] [] [] rfl (ev1 rfl) (ec (ev1 rfl) (ec (ev1 rfl) (ec (ev1 rfl) (ec (ev1 rfl) en)))) rfl rfl (w8n_d) rfl rfl rfl rfl rfl rfl) ?_
  refine zab rfl rfl rfl (zad (.inl rfl) (ev1 rfl)) ?_
  refine zab rfl rfl rfl (op_ext rfl (ev1 rfl) rfl) ?_
  refine zab rfl rfl rfl (op_ext rfl (ev1 rfl) rfl) ?_
  refine zab rfl rfl rfl (zad (.inr rfl) (ev1 rfl)) ?_
  refine zab rfl rfl rfl (zad (.inr rfl) (ev1 rfl)) ?_
  refine zae ?_
  refine zaf ?_
  refine zac ?_
  refine zab rfl rfl rfl (zad (.inl rfl) (ev1 rfl)) ?_
  refine zab rfl rfl rfl (op_build0 rfl fl41 zr41) ?_
  refine zab rfl rfl rfl (op_bs (ps := [(0, .tmp 49)]) rfl sl32 zr41 rfl (vc (ev1 rfl) vn) rfl (by decide) (by decide)) ?_
  refine zab rfl rfl rfl (zai [] [] [] rfl (ev1 rfl) (ec (ev1 rfl) (ec (ev1 rfl) en)) rfl rfl (w8m_d) rfl rfl rfl rfl rfl rfl) ?_
  refine zab rfl rfl rfl (zad (.inl rfl) (ev1 rfl)) ?_
  refine zab rfl rfl rfl (op_ext rfl (ev1 rfl) rfl) ?_
  refine zab rfl rfl rfl (op_ext rfl (ev1 rfl) rfl) ?_
  refine zab rfl rfl rfl (zad (.inr rfl) (ev1 rfl)) ?_
  refine zab rfl rfl rfl (zad (.inr rfl) (ev1 rfl)) ?_
  refine zae ?_
  refine zaf ?_
  refine zac ?_
  refine zab rfl rfl rfl (zad (.inl rfl) (ev1 rfl)) ?_
  refine zab rfl rfl rfl (op_ldw rfl tb26 (ev1 rfl) rfl rfl) ?_
  refine zab rfl rfl rfl (zai [] [] [] rfl (ev1 rfl) (ec (ev1 rfl) (ec (ev1 rfl) (ec (ev1 rfl) en))) rfl rfl (w8g_d) rfl rfl rfl rfl rfl rfl) ?_
  refine zab rfl rfl rfl (zad (.inl rfl) (ev1 rfl)) ?_
  refine zab rfl rfl rfl (op_ext rfl (ev1 rfl) rfl) ?_
  refine zab rfl rfl rfl (op_ext rfl (ev1 rfl) rfl) ?_
  refine zab rfl rfl rfl (zad (.inr rfl) (ev1 rfl)) ?_
  refine zab rfl rfl rfl (zad (.inr rfl) (ev1 rfl)) ?_
  refine zae ?_
  refine zaf ?_
  refine zac ?_
  refine zab rfl rfl rfl (zad (.inl rfl) (ev1 rfl)) ?_
  refine zab rfl rfl rfl (op_build0 rfl fl26 zr26) ?_
  refine zab rfl rfl rfl (op_build (ps := [(0, .const (.int .u8 255)), (3, .const (.int .u8 255))]) rfl fl44 zr44 (vc (ev1 rfl) (vc (ev1 rfl) vn)) rfl rfl) ?_
  refine zab rfl rfl rfl (zai [] [] [] rfl (ev1 rfl) (ec (ev1 rfl) (ec (ev1 rfl) (ec (ev1 rfl) (ec (ev1 rfl) en)))) rfl rfl (w8f_d) rfl rfl rfl rfl rfl rfl) ?_
  refine zab rfl rfl rfl (zad (.inl rfl) (ev1 rfl)) ?_
  refine zab rfl rfl rfl (op_ext rfl (ev1 rfl) rfl) ?_
  refine zab rfl rfl rfl (op_ext rfl (ev1 rfl) rfl) ?_
  refine zab rfl rfl rfl (zad (.inr rfl) (ev1 rfl)) ?_
  refine zab rfl rfl rfl (zad (.inr rfl) (ev1 rfl)) ?_
  refine zae ?_
  refine zaf ?_
  refine zac ?_
  refine zab rfl rfl rfl (zad (.inl rfl) (ev1 rfl)) ?_
  refine zab rfl rfl rfl (op_bs (ps := [(0, .const (.int .i64 0))]) rfl sl61 zr3 rfl (vc (ev1 rfl) vn) rfl (by decide) (by decide)) ?_
  refine zab rfl rfl rfl (zai [] [] [] rfl (ev1 rfl) (ec (ev1 rfl) (ec (ev1 rfl) en)) rfl rfl (w8q_d) rfl rfl rfl rfl rfl rfl) ?_
  refine zab rfl rfl rfl (zad (.inl rfl) (ev1 rfl)) ?_
  refine zab rfl rfl rfl (op_ext rfl (ev1 rfl) rfl) ?_
  refine zab rfl rfl rfl (op_ext rfl (ev1 rfl) rfl) ?_
  refine zab rfl rfl rfl (zad (.inr rfl) (ev1 rfl)) ?_
  refine zab rfl rfl rfl (zad (.inr rfl) (ev1 rfl)) ?_
  refine zae ?_
  refine zaf ?_
  refine zac ?_
  refine zab rfl rfl rfl (zad (.inl rfl) (ev1 rfl)) ?_
  refine zab rfl rfl rfl ((op_eql rfl (ev1 rfl) (ev1 rfl)).cast (d' := .val (.bool true)) (by kernel_rfl)) ?_
  refine zab rfl rfl rfl (zad (.inl rfl) (ev1 rfl)) ?_
  refine walk_k (gd_t (b := true) rfl rfl rfl) rfl rfl rfl (zad (.inl rfl) (ev1 rfl)) (by simp only [upd, zaa, za]; exact rfl) ?_
  refine walk_k (gd_t (b := true) rfl rfl rfl) rfl rfl rfl ((op_eql rfl (ev2 rfl) (ev1 rfl)).cast (d' := .val (.bool true)) (by kernel_rfl)) (by simp only [upd, zaa, za]; exact rfl) ?_
  refine zab rfl rfl rfl ((op_and rfl (ev1 rfl) (ev3 rfl (fun _ => rfl))).cast (d' := .val (.bool true)) (by rfl)) ?_
  refine zab rfl rfl rfl (zad (.inl rfl) (ev1 rfl)) ?_
  refine walk_k (gd_t (b := true) rfl rfl rfl) rfl rfl rfl (zad (.inl rfl) (ev1 rfl)) (by simp only [upd, zaa, za]; exact rfl) ?_
  refine walk_k (gd_t (b := true) rfl rfl rfl) rfl rfl rfl ((op_eql rfl (ev2 rfl) (ev1 rfl)).cast (d' := .val (.bool true)) (by kernel_rfl)) (by simp only [upd, zaa, za]; exact rfl) ?_
  refine zab rfl rfl rfl ((op_and rfl (ev1 rfl) (ev3 rfl (fun _ => rfl))).cast (d' := .val (.bool true)) (by rfl)) ?_
  refine zab rfl rfl rfl (zad (.inl rfl) (ev1 rfl)) ?_
  refine walk_k (gd_t (b := true) rfl rfl rfl) rfl rfl rfl (zad (.inl rfl) (ev1 rfl)) (by simp only [upd, zaa, za]; exact rfl) ?_
  refine walk_k (gd_t (b := true) rfl rfl rfl) rfl rfl rfl ((op_eql rfl (ev2 rfl) (ev1 rfl)).cast (d' := .val (.bool true)) (by kernel_rfl)) (by simp only [upd, zaa, za]; exact rfl) ?_
  refine zab rfl rfl rfl ((op_and rfl (ev1 rfl) (ev3 rfl (fun _ => rfl))).cast (d' := .val (.bool true)) (by rfl)) ?_
  refine zab rfl rfl rfl (zad (.inl rfl) (ev1 rfl)) ?_
  refine walk_k (gd_t (b := true) rfl rfl rfl) rfl rfl rfl (zad (.inl rfl) (ev1 rfl)) (by simp only [upd, zaa, za]; exact rfl) ?_
  refine walk_k (gd_t (b := true) rfl rfl rfl) rfl rfl rfl ((op_eql rfl (ev2 rfl) (ev1 rfl)).cast (d' := .val (.bool true)) (by kernel_rfl)) (by simp only [upd, zaa, za]; exact rfl) ?_
  refine zab rfl rfl rfl ((op_and rfl (ev1 rfl) (ev3 rfl (fun _ => rfl))).cast (d' := .val (.bool true)) (by rfl)) ?_
  refine zab rfl rfl rfl (zad (.inl rfl) (ev1 rfl)) ?_
  refine walk_k (gd_t (b := true) rfl rfl rfl) rfl rfl rfl (zad (.inl rfl) (ev1 rfl)) (by simp only [upd, zaa, za]; exact rfl) ?_
  refine walk_k (gd_t (b := true) rfl rfl rfl) rfl rfl rfl ((op_eql rfl (ev2 rfl) (ev1 rfl)).cast (d' := .val (.bool true)) (by kernel_rfl)) (by simp only [upd, zaa, za]; exact rfl) ?_
  refine zab rfl rfl rfl ((op_and rfl (ev1 rfl) (ev3 rfl (fun _ => rfl))).cast (d' := .val (.bool true)) (by rfl)) ?_
  refine zab rfl rfl rfl (zad (.inl rfl) (ev1 rfl)) ?_
  refine walk_k (gd_t (b := true) rfl rfl rfl) rfl rfl rfl (zad (.inl rfl) (ev1 rfl)) (by simp only [upd, zaa, za]; exact rfl) ?_
  refine walk_k (gd_t (b := true) rfl rfl rfl) rfl rfl rfl ((op_eql rfl (ev2 rfl) (ev1 rfl)).cast (d' := .val (.bool true)) (by kernel_rfl)) (by simp only [upd, zaa, za]; exact rfl) ?_
  refine zab rfl rfl rfl ((op_and rfl (ev1 rfl) (ev3 rfl (fun _ => rfl))).cast (d' := .val (.bool true)) (by rfl)) ?_
  refine zab rfl rfl rfl (zad (.inl rfl) (ev1 rfl)) ?_
  refine walk_k (gd_t (b := true) rfl rfl rfl) rfl rfl rfl (zad (.inl rfl) (ev1 rfl)) (by simp only [upd, zaa, za]; exact rfl) ?_
  refine walk_k (gd_t (b := true) rfl rfl rfl) rfl rfl rfl ((op_eql rfl (ev2 rfl) (ev1 rfl)).cast (d' := .val (.bool true)) (by kernel_rfl)) (by simp only [upd, zaa, za]; exact rfl) ?_
  refine zab rfl rfl rfl ((op_and rfl (ev1 rfl) (ev3 rfl (fun _ => rfl))).cast (d' := .val (.bool true)) (by rfl)) ?_
  refine zab rfl rfl rfl (zad (.inl rfl) (ev1 rfl)) ?_
  refine walk_k (gd_t (b := true) rfl rfl rfl) rfl rfl rfl (zad (.inl rfl) (ev1 rfl)) (by simp only [upd, zaa, za]; exact rfl) ?_
  refine walk_k (gd_t (b := true) rfl rfl rfl) rfl rfl rfl (op_build (ps := [(1, .const (.int .i64 1)), (2, .const (.int .i64 1))]) rfl fl41 zr41 (vc (ev1 rfl) (vc (ev1 rfl) vn)) rfl rfl) (by simp only [upd, zaa, za]; exact rfl) ?_
  refine walk_k (gd_t (b := true) rfl rfl rfl) rfl rfl rfl (op_build (ps := [(0, .const (.int .i64 1)), (2, .const (.int .i64 1))]) rfl fl41 zr41 (vc (ev1 rfl) (vc (ev1 rfl) vn)) rfl rfl) (by simp only [upd, zaa, za]; exact rfl) ?_
  refine walk_k (gd_t (b := true) rfl rfl rfl) rfl rfl rfl (op_bs (ps := [(0, .tmp 105), (1, .tmp 106)]) rfl sl32 zr41 rfl (vc (ev2 rfl) (vc (ev2 rfl) vn)) rfl (by decide) (by decide)) (by simp only [upd, zaa, za]; exact rfl) ?_
  refine walk_k (gd_t (b := true) rfl rfl rfl) rfl rfl rfl ((zai [] [] [] rfl (ev1 rfl) (ec (ev2 rfl) (ec (ev2 rfl) en)) rfl rfl (equalS k8a k8a) rfl rfl rfl rfl rfl rfl).cast (d' := .val (.bool true)) (by rw [decide_eq_true rfl])) (by simp only [upd, zaa, za]; exact rfl) ?_
  refine zab rfl rfl rfl ((op_and rfl (ev1 rfl) (ev3 rfl (fun _ => rfl))).cast (d' := .val (.bool true)) (by rfl)) ?_
  refine zab rfl rfl rfl (zad (.inl rfl) (ev1 rfl)) ?_
  refine walk_k (gd_t (b := true) rfl rfl rfl) rfl rfl rfl (zad (.inl rfl) (ev1 rfl)) (by simp only [upd, zaa, za]; exact rfl) ?_
  refine walk_k (gd_t (b := true) rfl rfl rfl) rfl rfl rfl (op_bs (ps := [(0, .const (.int .i64 3)), (1, .const (.int .i64 1))]) rfl sl61 zr3 rfl (vc (ev1 rfl) (vc (ev1 rfl) vn)) rfl (by decide) (by decide)) (by simp only [upd, zaa, za]; exact rfl) ?_
  refine walk_k (gd_t (b := true) rfl rfl rfl) rfl rfl rfl ((zai [] [] [] rfl (ev1 rfl) (ec (ev2 rfl) (ec (ev2 rfl) en)) rfl rfl (equalI k8p k8p) rfl rfl rfl rfl rfl rfl).cast (d' := .val (.bool true)) (by rw [decide_eq_true rfl])) (by simp only [upd, zaa, za]; exact rfl) ?_
  refine zab rfl rfl rfl ((op_and rfl (ev1 rfl) (ev3 rfl (fun _ => rfl))).cast (d' := .val (.bool true)) (by rfl)) ?_
  refine zab rfl rfl rfl (zad (.inl rfl) (ev1 rfl)) ?_
  refine walk_k (gd_t (b := true) rfl rfl rfl) rfl rfl rfl (zad (.inl rfl) (ev1 rfl)) (by simp only [upd, zaa, za]; exact rfl) ?_
  refine walk_k (gd_t (b := true) rfl rfl rfl) rfl rfl rfl ((op_eql rfl (ev2 rfl) (ev1 rfl)).cast (d' := .val (.bool true)) (by kernel_rfl)) (by simp only [upd, zaa, za]; exact rfl) ?_
  refine zab rfl rfl rfl ((op_and rfl (ev1 rfl) (ev3 rfl (fun _ => rfl))).cast (d' := .val (.bool true)) (by rfl)) ?_
  refine zab rfl rfl rfl (zad (.inl rfl) (ev1 rfl)) ?_
  refine walk_k (gd_t (b := true) rfl rfl rfl) rfl rfl rfl (zad (.inl rfl) (ev1 rfl)) (by simp only [upd, zaa, za]; exact rfl) ?_
  refine walk_k (gd_t (b := true) rfl rfl rfl) rfl rfl rfl (op_build0 rfl fl26 zr26) (by simp only [upd, zaa, za]; exact rfl) ?_
  refine walk_k (gd_t (b := true) rfl rfl rfl) rfl rfl rfl (op_bs (ps := [(0, .tmp 121)]) rfl sl55 zr26 rfl (vc (ev2 rfl) vn) rfl (by decide) (by decide)) (by simp only [upd, zaa, za]; exact rfl) ?_
  refine walk_k (gd_t (b := true) rfl rfl rfl) rfl rfl rfl ((zai [] [] [] rfl (ev1 rfl) (ec (ev2 rfl) (ec (ev2 rfl) en)) rfl rfl (equalPt k8m k8m) rfl rfl rfl rfl rfl rfl).cast (d' := .val (.bool true)) (by rw [decide_eq_true rfl])) (by simp only [upd, zaa, za]; exact rfl) ?_
  refine zab rfl rfl rfl ((op_and rfl (ev1 rfl) (ev3 rfl (fun _ => rfl))).cast (d' := .val (.bool true)) (by rfl)) ?_
  refine zab rfl rfl rfl (zad (.inl rfl) (ev1 rfl)) ?_
  refine walk_k (gd_t (b := true) rfl rfl rfl) rfl rfl rfl (zad (.inl rfl) (ev1 rfl)) (by simp only [upd, zaa, za]; exact rfl) ?_
  refine walk_k (gd_t (b := true) rfl rfl rfl) rfl rfl rfl (op_bs (ps := [(0, .const (.int .i64 2))]) rfl sl61 zr3 rfl (vc (ev1 rfl) vn) rfl (by decide) (by decide)) (by simp only [upd, zaa, za]; exact rfl) ?_
  refine walk_k (gd_t (b := true) rfl rfl rfl) rfl rfl rfl ((zai [] [] [] rfl (ev1 rfl) (ec (ev2 rfl) (ec (ev2 rfl) en)) rfl rfl (equalI k8q k8q) rfl rfl rfl rfl rfl rfl).cast (d' := .val (.bool true)) (by rw [decide_eq_true rfl])) (by simp only [upd, zaa, za]; exact rfl) ?_
  refine zab rfl rfl rfl ((op_and rfl (ev1 rfl) (ev3 rfl (fun _ => rfl))).cast (d' := .val (.bool true)) (by rfl)) ?_
  refine zab rfl rfl rfl (zad (.inr rfl) (ev1 rfl)) ?_
  refine zae ?_
  refine dwp_ret ?_
  refine kend0 (rs1 rfl (rv_t rfl)) rfl ?_
  rfl
end Go.Proofs.YtfnhckildfbikaaGreat
namespace Go.Proofs.YtfnhckildfbikaaGreat
set_option maxRecDepth 4000
set_option linter.unusedVariables false
set_option linter.unusedSimpArgs false
open Go.RowKit
attribute [local irreducible] crT crU pcV rgF rgS gtP
theorem fl24 : fdL Tryz.prog 24 = some [(0, 1), (1, 1), (2, 1)] := by kernel_rfl
theorem zr24 : zrC Tryz.prog 24 = some [.int .i64 0, .int .i64 0, .slice none 0 0] := by kernel_rfl
theorem tkmin {α : Type} (l : List α) (n : Nat) : l.take (min l.length n) = l.take n := by
  rcases Nat.le_total l.length n with h | h
  · rw [Nat.min_eq_left h, List.take_length, List.take_of_length_le h]
  · rw [Nat.min_eq_right h]
theorem take_rng {ts : List TL} (h : tsRng ts) (n : Nat) : tsRng (ts.take n) := fun t ht => h t (List.mem_of_mem_take ht)
set_option maxRecDepth 4000 in
set_option maxHeartbeats 1000000 in
theorem lof_y (w h : Int) (ts : List TL) (hc : CvOk w h (ts.take 17)) : DFun Tryz.prog 6 [shD w h ts] [] (.tup [cvD w h (dpR (ts.take 17)), shD w h (ts.take 17), .val (.bool true)]) [] := by
  refine zan (N := 34) 0 (by kernel_rfl) Tryz.func6 rfl rfl rfl (by simp only [fr0, Nat.zero_add, Nat.reduceAdd]; exact rfl) rfl fun s0 hs0 => ?_
  refine zaf ?_
  refine zah 2 (by simp only [holes, List.cons_append, List.nil_append]; exact rfl) ?_
  refine zac ?_
  refine zaj rfl rfl rfl (op_boxam 0 rfl (ev1 rfl) rfl) (by simp only [upd, zaa, za]; exact rfl) ?_
  refine zab rfl rfl rfl (zad (.inr rfl) (ev1 rfl)) ?_
  refine zaj rfl rfl rfl (op_alloc 1 rfl zr24 rfl) (by simp only [upd, zaa, za]; exact rfl) ?_
  refine zab rfl rfl rfl (zad (.inr rfl) (ev1 rfl)) ?_
  refine zae ?_
  refine zaf ?_
  refine zah 1 (by simp only [holes, List.cons_append, List.nil_append]; exact rfl) ?_
  refine dwp_draw [([], []), ([0], []), ([], []), ([0], []), ([], []), ([0], []), ([], []), ([0], []), ([], []), ([], []), ([], []), ([], []), ([], []), ([2], [2]), ([2], [2])] mixed (by kernel_rfl) ?_
  refine zag rfl rfl (op_fa rfl fo24_0 (ev1 rfl)) ?_
  refine zag rfl rfl (op_ldm rfl tb3 (ev1 rfl) rfl rfl) ?_
  refine zag rfl rfl (op_fa rfl fo24_1 (ev1 rfl)) ?_
  refine zag rfl rfl (op_ldm rfl tb3 (ev1 rfl) rfl rfl) ?_
  refine zag rfl rfl (op_fa rfl fo24_2 (ev1 rfl)) ?_
  refine zag rfl rfl (op_ldm rfl tb22 (ev1 rfl) rfl rfl) ?_
  refine zag rfl rfl (op_fa rfl fo24_2 (ev1 rfl)) ?_
  refine zag rfl rfl (op_ldm rfl tb22 (ev1 rfl) rfl rfl) ?_
  refine zag rfl rfl (op_len rfl sl22 (ev1 rfl)) ?_
  refine zag rfl rfl (op_min rfl (ev1 rfl) (ev1 rfl)) ?_
  refine zag rfl rfl (op_sltk (j := min ts.length 17) rfl sl22 (ev1 rfl) (bd_some (ev1 rfl)) (fun _ => by omega) (fun _ => by omega) tc_len) ?_
  refine zag rfl rfl ((zai [] [] [] rfl (ev1 rfl) (ec (ev1 rfl) en) rfl rfl (cloneT_f _ (by rw [List.length_take]; omega)) rfl rfl rfl rfl rfl rfl).cast (d' := .slf 256 (ts.take 17).length ((ts.take 17).flatMap tc)) (by rw [tkmin])) ?_
  refine zag rfl rfl (op_bldD (ps := [(0, .tmp 9), (1, .tmp 11), (2, .tmp 19)]) rfl fl24 zr24 (ec (ev1 rfl) (ec (ev1 rfl) (ec (ev1 rfl) en))) rfl rfl rfl) ?_
  refine lex_w rfl rfl (op_alloc 2 rfl zr24 rfl) rfl (by simp only [upd, zaa, za]; exact rfl) ?_
  refine lex_s rfl rfl (op_stam rfl tb24 (ev1 rfl) (ev1 rfl) rfl rfl rfl rfl) rfl (by simp only [upd, zaa, za]; exact rfl) ?_
  refine lex_nil ?_
  refine zaf ?_
  refine zac ?_
  refine zab rfl rfl rfl (op_ldmw rfl tb24 (ev1 rfl) rfl rfl) ?_
  refine zab rfl rfl rfl (zai [] [] [] rfl (ev1 rfl) (ec (ev1 rfl) en) rfl rfl (of_d w h (ts.take 17) hc) rfl rfl rfl rfl rfl rfl) ?_
  refine zab rfl rfl rfl (zad (.inl rfl) (ev1 rfl)) ?_
  refine zab rfl rfl rfl (op_ext rfl (ev1 rfl) rfl) ?_
  refine zab rfl rfl rfl (op_ext rfl (ev1 rfl) rfl) ?_
  refine zab rfl rfl rfl (zad (.inr rfl) (ev1 rfl)) ?_
  refine zab rfl rfl rfl (zad (.inr rfl) (ev1 rfl)) ?_
  refine zae ?_
  refine zaf ?_
  refine dwp_draw [([], []), ([2], []), ([], []), ([], []), ([], []), ([], []), ([], []), ([], []), ([], []), ([1], [1]), ([], [])] mixed (by kernel_rfl) ?_
  refine zag rfl rfl (zad (.inl rfl) (ev1 rfl)) ?_
  refine zag rfl rfl (op_ldmw rfl tb24 (ev1 rfl) rfl rfl) ?_
  refine zag rfl rfl (zad (.inl rfl) (ev1 rfl)) ?_
  refine zag rfl rfl ((op_eql rfl (ev1 rfl) (ev1 rfl)).cast (d' := .val (.bool true)) (by kernel_rfl)) ?_
  refine zag rfl rfl (zad (.inl rfl) (ev1 rfl)) ?_
  refine lex_k (gd_t (b := true) rfl rfl rfl) rfl rfl (zad (.inl rfl) (ev1 rfl)) rfl (by simp only [upd, zaa, za]; exact rfl) ?_
  refine lex_k (gd_t (b := true) rfl rfl rfl) rfl rfl (op_pnilmn rfl pt29 (ev2 rfl)) rfl (by simp only [upd, zaa, za]; exact rfl) ?_
  refine zag rfl rfl ((op_and rfl (ev1 rfl) (ev3 rfl (fun _ => rfl))).cast (d' := .val (.bool true)) (by rfl)) ?_
  refine zag rfl rfl (zad (.inr rfl) (ev1 rfl)) ?_
  refine lex_s rfl rfl (op_stam rfl tb24 (ev1 rfl) (ev1 rfl) rfl rfl rfl rfl) rfl (by simp only [upd, zaa, za]; exact rfl) ?_
  refine zag rfl rfl (zad (.inr rfl) (ev1 rfl)) ?_
  refine lex_nil ?_
  refine dwp_ret ?_
  refine kend0 (rs3 rfl (rv_t rfl) (rv_mw tb24 rfl rfl rfl) (rv_t rfl)) rfl ?_
  rfl
set_option maxRecDepth 4000 in
set_option maxHeartbeats 1000000 in
theorem lof_n (w h : Int) (ts : List TL) (hr : rightB w h (ts.take 17) = false) : DFun Tryz.prog 6 [shD w h ts] [] (.tup [.val (.pointer none), shD w h (ts.take 17), .val (.bool false)]) [] := by
  refine zan (N := 34) 0 (by kernel_rfl) Tryz.func6 rfl rfl rfl (by simp only [fr0, Nat.zero_add, Nat.reduceAdd]; exact rfl) rfl fun s0 hs0 => ?_
  refine zaf ?_
  refine zah 2 (by simp only [holes, List.cons_append, List.nil_append]; exact rfl) ?_
  refine zac ?_
  refine zaj rfl rfl rfl (op_boxam 0 rfl (ev1 rfl) rfl) (by simp only [upd, zaa, za]; exact rfl) ?_
  refine zab rfl rfl rfl (zad (.inr rfl) (ev1 rfl)) ?_
  refine zaj rfl rfl rfl (op_alloc 1 rfl zr24 rfl) (by simp only [upd, zaa, za]; exact rfl) ?_
  refine zab rfl rfl rfl (zad (.inr rfl) (ev1 rfl)) ?_
  refine zae ?_
  refine zaf ?_
  refine zah 1 (by simp only [holes, List.cons_append, List.nil_append]; exact rfl) ?_
  refine dwp_draw [([], []), ([0], []), ([], []), ([0], []), ([], []), ([0], []), ([], []), ([0], []), ([], []), ([], []), ([], []), ([], []), ([], []), ([2], [2]), ([2], [2])] mixed (by kernel_rfl) ?_
  refine zag rfl rfl (op_fa rfl fo24_0 (ev1 rfl)) ?_
  refine zag rfl rfl (op_ldm rfl tb3 (ev1 rfl) rfl rfl) ?_
  refine zag rfl rfl (op_fa rfl fo24_1 (ev1 rfl)) ?_
  refine zag rfl rfl (op_ldm rfl tb3 (ev1 rfl) rfl rfl) ?_
  refine zag rfl rfl (op_fa rfl fo24_2 (ev1 rfl)) ?_
  refine zag rfl rfl (op_ldm rfl tb22 (ev1 rfl) rfl rfl) ?_
  refine zag rfl rfl (op_fa rfl fo24_2 (ev1 rfl)) ?_
  refine zag rfl rfl (op_ldm rfl tb22 (ev1 rfl) rfl rfl) ?_
  refine zag rfl rfl (op_len rfl sl22 (ev1 rfl)) ?_
  refine zag rfl rfl (op_min rfl (ev1 rfl) (ev1 rfl)) ?_
  refine zag rfl rfl (op_sltk (j := min ts.length 17) rfl sl22 (ev1 rfl) (bd_some (ev1 rfl)) (fun _ => by omega) (fun _ => by omega) tc_len) ?_
  refine zag rfl rfl ((zai [] [] [] rfl (ev1 rfl) (ec (ev1 rfl) en) rfl rfl (cloneT_f _ (by rw [List.length_take]; omega)) rfl rfl rfl rfl rfl rfl).cast (d' := .slf 256 (ts.take 17).length ((ts.take 17).flatMap tc)) (by rw [tkmin])) ?_
  refine zag rfl rfl (op_bldD (ps := [(0, .tmp 9), (1, .tmp 11), (2, .tmp 19)]) rfl fl24 zr24 (ec (ev1 rfl) (ec (ev1 rfl) (ec (ev1 rfl) en))) rfl rfl rfl) ?_
  refine lex_w rfl rfl (op_alloc 2 rfl zr24 rfl) rfl (by simp only [upd, zaa, za]; exact rfl) ?_
  refine lex_s rfl rfl (op_stam rfl tb24 (ev1 rfl) (ev1 rfl) rfl rfl rfl rfl) rfl (by simp only [upd, zaa, za]; exact rfl) ?_
  refine lex_nil ?_
  refine zaf ?_
  refine zac ?_
  refine zab rfl rfl rfl (op_ldmw rfl tb24 (ev1 rfl) rfl rfl) ?_
  refine zab rfl rfl rfl (zai [] [] [] rfl (ev1 rfl) (ec (ev1 rfl) en) rfl rfl (of_0 w h (ts.take 17) hr) rfl rfl rfl rfl rfl rfl) ?_
  refine zab rfl rfl rfl (zad (.inl rfl) (ev1 rfl)) ?_
  refine zab rfl rfl rfl (op_ext rfl (ev1 rfl) rfl) ?_
  refine zab rfl rfl rfl (op_ext rfl (ev1 rfl) rfl) ?_
  refine zab rfl rfl rfl (zad (.inr rfl) (ev1 rfl)) ?_
  refine zab rfl rfl rfl (zad (.inr rfl) (ev1 rfl)) ?_
  refine zae ?_
  refine zaf ?_
  refine dwp_draw [([], []), ([2], []), ([], []), ([], []), ([], []), ([], []), ([], []), ([], []), ([], []), ([1], [1]), ([], [])] mixed (by kernel_rfl) ?_
  refine zag rfl rfl (zad (.inl rfl) (ev1 rfl)) ?_
  refine zag rfl rfl (op_ldmw rfl tb24 (ev1 rfl) rfl rfl) ?_
  refine zag rfl rfl (zad (.inl rfl) (ev1 rfl)) ?_
  refine zag rfl rfl ((op_eql rfl (ev1 rfl) (ev1 rfl)).cast (d' := .val (.bool false)) (by kernel_rfl)) ?_
  refine zag rfl rfl (zad (.inl rfl) (ev1 rfl)) ?_
  refine lex_gr (gd_t (b := false) rfl rfl rfl) rfl rfl (dop_never (d := .junk)) ?_
  refine lex_gr (gd_t (b := false) rfl rfl rfl) rfl rfl (dop_never (d := .val (.bool false))) ?_
  refine zag rfl rfl ((op_and rfl (ev1 rfl) (ev3 rfl id)).cast (d' := .val (.bool false)) (by rfl)) ?_
  refine zag rfl rfl (zad (.inr rfl) (ev1 rfl)) ?_
  refine lex_s rfl rfl (op_stam rfl tb24 (ev1 rfl) (ev1 rfl) rfl rfl rfl rfl) rfl (by simp only [upd, zaa, za]; exact rfl) ?_
  refine zag rfl rfl (zad (.inr rfl) (ev1 rfl)) ?_
  refine lex_nil ?_
  refine dwp_ret ?_
  refine kend0 (rs3 rfl (rv_t rfl) (rv_mw tb24 rfl rfl rfl) (rv_t rfl)) rfl ?_
  rfl
end Go.Proofs.YtfnhckildfbikaaGreat
namespace Go.Proofs.YtfnhckildfbikaaGreat
set_option maxRecDepth 4000
set_option linter.unusedVariables false
set_option linter.unusedSimpArgs false
open Go.RowKit
attribute [local irreducible] zFD
theorem rgF_fin {w h : Int} (hm : mayS w h = true) {ts : List TL} {tol : Int} {p : P2} (hp : onP w h p = true) : FinF (onP w h) (nearP w ts tol (getC w ts p.x p.y)) p (rgF w h ts tol p) := by
  unfold rgF spF
  exact bfs_fin (onP_in hm) _ _ _ (Nat.le_refl (zrF (zFD.put p 1) + 1)) (BI.start (onP_in hm) hp)
theorem has_pos {f : FD} {p : P2} : f.has p = true ↔ 0 < f.at p := by unfold FD.has; exact decide_eq_true_iff
theorem rgS_chk {w h : Int} (hm : mayS w h = true) (f : FD) : chkS (rgS w h f) := by
  have hb := mayS_b hm
  obtain ⟨h1, h2⟩ := gtS_ok (B := f.has) (W := (w * 8).toNat) (H := (h * 8).toNat) (by omega)
  refine ⟨fun s hs => ?_, h1.2⟩
  have hft := h1.1 s hs
  have a := (h2 s.f s.y).1 ⟨s, hs, rfl, by omega, by omega⟩
  have b := (h2 s.t s.y).1 ⟨s, hs, rfl, by omega, by omega⟩
  refine ⟨?_, hft⟩
  unfold rchS
  omega
theorem rgS_has {w h : Int} (hm : mayS w h = true) (f : FD) (q : P2) : hasL (rgS w h f) q = (onP w h q && f.has q) := by
  have hb := mayS_b hm
  have h2 := (gtS_ok (B := f.has) (W := (w * 8).toNat) (H := (h * 8).toNat) (by omega)).2 q.x q.y
  unfold hasL
  rw [decide_eq_true (rgS_chk hm f), Bool.true_and, Bool.eq_iff_iff, Bool.and_eq_true]
  unfold hasB
  rw [decide_eq_true_eq]
  unfold onP
  rw [onS_iff]
  constructor
  · intro g
    obtain ⟨g1, g2⟩ := h2.1 g
    exact ⟨by omega, g2⟩
  · rintro ⟨g1, g2⟩
    exact h2.2 ⟨by omega, g2⟩
theorem rgS_pts {w h : Int} (hm : mayS w h = true) (f : FD) (q : P2) : q ∈ ptsS (rgS w h f) ↔ onP w h q = true ∧ f.has q = true := by
  have h1 := rgS_has hm f q
  unfold hasL at h1
  rw [decide_eq_true (rgS_chk hm f), Bool.true_and] at h1
  rw [ptsS_mem, ← Bool.and_eq_true, ← h1]
  unfold hasB
  rw [decide_eq_true_eq]
theorem has_bd {l m : List Sp} (hl : ∀ s ∈ l, s.f ≤ s.t) {A B C D' : Int} (h : ∀ x y, hasS l x y ↔ hasS m x y) (hm : ∀ s ∈ m, (A ≤ s.y ∧ s.y ≤ B) ∧ C ≤ s.f ∧ s.t ≤ D') : ∀ s ∈ l, (A ≤ s.y ∧ s.y ≤ B) ∧ C ≤ s.f ∧ s.t ≤ D' := fun s hs => by
  have hv := hl s hs
  obtain ⟨a, ha, h1, h2, h3⟩ := (h s.f s.y).1 ⟨s, hs, rfl, Int.le_refl _, hv⟩
  obtain ⟨b, hb, h4, h5, h6⟩ := (h s.t s.y).1 ⟨s, hs, rfl, hv, Int.le_refl _⟩
  have := hm a ha
  have := hm b hb
  omega
theorem norm_chk {l : List Sp} (h : ∀ s ∈ l, rchS s ∧ s.f ≤ s.t) : chkS (normS l) := by
  have hn := norm_ok fun s hs => (h s hs).2
  refine ⟨fun s hs => ?_, hn.1.2⟩
  have hv := hn.1.1 s hs
  have hb := has_bd (A := -256) (B := 255) (C := -256) (D' := 255) hn.1.1 hn.2 (fun s hs => by
    have := (h s hs).1
    unfold rchS at this
    omega) s hs
  refine ⟨?_, hv⟩
  unfold rchS
  omega
theorem uni_chk {rr : List (List Sp)} (h : allC rr = true) : chkS (uniL rr) := by
  rw [(uni_ok h).1]
  exact norm_chk (allC_flat h)
theorem uni_has {rr : List (List Sp)} (h : allC rr = true) (x y : Int) : hasS (uniL rr) x y ↔ ∃ l ∈ rr, hasS l x y := by
  rw [(uni_ok h).1, (norm_ok fun s hs => (allC_flat h s hs).2).2]
  constructor
  · rintro ⟨s, hs, g⟩
    obtain ⟨l, hl, h1⟩ := List.mem_flatten.1 hs
    exact ⟨l, hl, s, h1, g⟩
  · rintro ⟨l, hl, s, hs, g⟩
    exact ⟨s, List.mem_flatten.2 ⟨l, hl, hs⟩, g⟩
theorem uni_uniq {rr : List (List Sp)} (h : allC rr = true) {m : List Sp} (hm : okS m) (he : ∀ x y, hasS m x y ↔ ∃ l ∈ rr, hasS l x y) : uniL rr = m :=
  okS_uniq (uni_chk h).ok hm fun x y => (uni_has h x y).trans (he x y).symm
theorem hasL_iff {l : List Sp} (h : chkS l) (p : P2) : hasL l p = true ↔ hasS l p.x p.y := by unfold hasL hasB; rw [decide_eq_true h, Bool.true_and, decide_eq_true_eq]
theorem uni_sub {A B : List Sp} (ca : chkS A) (cb : chkS B) (h : ∀ q, hasL A q = true → hasL B q = true) : uniL [A, B] = B ∧ uniE [A, B] = 0 := by
  have hc : allC [A, B] = true := by unfold allC; simp [ca, cb]
  refine ⟨uni_uniq hc cb.ok fun x y => ?_, (uni_ok hc).2⟩
  simp only [List.mem_cons, List.not_mem_nil, or_false, exists_eq_or_imp, exists_eq_left]
  constructor
  · exact fun g => .inr g
  · rintro (g | g)
    · exact (hasL_iff cb ⟨x, y⟩).1 (h ⟨x, y⟩ ((hasL_iff ca ⟨x, y⟩).2 g))
    · exact g
end Go.Proofs.YtfnhckildfbikaaGreat
namespace Go.Proofs.YtfnhckildfbikaaGreat
set_option maxRecDepth 4000
set_option linter.unusedVariables false
set_option linter.unusedSimpArgs false
open Go.RowKit
attribute [local irreducible] crT crU pcV rgF rgS gtP zFD refE
theorem rg_few2 {w h : Int} (hm : mayS w h = true) (f : FD) : (rgS w h f).length ≤ 1024 := by
  have hb := mayS_b hm
  have h1 := gtS_len f.has (w * 8).toNat ((h * 8).toNat * (w * 8).toNat)
  have h2 : (h * 8).toNat * (w * 8).toNat ≤ 32 * 32 := Nat.mul_le_mul (by omega) (by omega)
  unfold rgS
  omega
end Go.Proofs.YtfnhckildfbikaaGreat
namespace Go.Proofs.YtfnhckildfbikaaGreat
set_option maxRecDepth 4000
set_option linter.unusedVariables false
set_option linter.unusedSimpArgs false
open Go.RowKit
attribute [local irreducible] crT crU pcV rgF rgS gtP zFD refE
theorem zr29 : zrC Tryz.prog 29 = some [.pointer none] := by kernel_rfl
end Go.Proofs.YtfnhckildfbikaaGreat
namespace Go.Proofs.YtfnhckildfbikaaGreat
set_option maxRecDepth 4000
set_option linter.unusedVariables false
set_option linter.unusedSimpArgs false
open Go.RowKit
open Go.ChangeShapes Go.WideShapes Go.ChangeAt Go.Joins Go.Deep
theorem fits_prim_i64 {v : Value} (h : (Prim.int .i64).is v) : ∃ a : Int, (-9223372036854775808 ≤ a ∧ a ≤ 9223372036854775807) ∧ v = .int .i64 a := by
  obtain ⟨x, rfl, w⟩ := h
  exact ⟨x, by simpa [Lit.wf, IntKind.min, IntKind.max, IntKind.signed, IntKind.bits] using w, rfl⟩
theorem fitsP_append : ∀ (a b : List Prim) (cs : List Value), fitsP (a ++ b) cs → ∃ c d, cs = c ++ d ∧ fitsP a c ∧ fitsP b d
  | [], _, cs, h => ⟨[], cs, rfl, trivial, h⟩
  | _ :: _, _, [], h => by cases h
  | p :: a, b, v :: cs, h => by
    obtain ⟨h1, h2⟩ := h
    obtain ⟨c, d, rfl, h3, h4⟩ := fitsP_append a b cs h2
    exact ⟨v :: c, d, rfl, ⟨h1, h3⟩, h4⟩
theorem fitsP_cons {p : Prim} {ps : List Prim} {cs : List Value} (h : fitsP (p :: ps) cs) : ∃ v r, cs = v :: r ∧ p.is v ∧ fitsP ps r := by
  cases cs with
  | nil => cases h
  | cons v r => exact ⟨v, r, rfl, h.1, h.2⟩
theorem fitsP_nil {cs : List Value} (h : fitsP [] cs) : cs = [] := by
  cases cs with
  | nil => rfl
  | cons v r => cases h
theorem fits_i64 : ∀ cs, fitsP [.int .i64] cs → ∃ a : Int, (-9223372036854775808 ≤ a ∧ a ≤ 9223372036854775807) ∧ cs = [.int .i64 a]
  | [c0], h => by
    obtain ⟨h0, _⟩ := h
    obtain ⟨a, w, rfl⟩ := fits_prim_i64 h0
    exact ⟨a, w, rfl⟩
  | [], h => by cases h
  | _ :: _ :: _, h => by obtain ⟨_, h⟩ := h; cases h
theorem fits_u8 {v : Value} (h : (Prim.int .u8).is v) : ∃ a : Int, (0 ≤ a ∧ a ≤ 255) ∧ v = .int .u8 a := by
  obtain ⟨x, rfl, w⟩ := h
  exact ⟨x, by simpa [Lit.wf, IntKind.min, IntKind.max, IntKind.signed, IntKind.bits] using w, rfl⟩
theorem fits_c4 (cs : List Value) (h : fitsP [.int .u8, .int .u8, .int .u8, .int .u8] cs) : ∃ a : C4, a.rng ∧ cs = c4 a := by
  obtain ⟨x0, r, rfl, h0, h⟩ := fitsP_cons h
  obtain ⟨x1, r, rfl, h1, h⟩ := fitsP_cons h
  obtain ⟨x2, r, rfl, h2, h⟩ := fitsP_cons h
  obtain ⟨x3, r, rfl, h3, h⟩ := fitsP_cons h
  obtain rfl := fitsP_nil h
  obtain ⟨a0, w0, rfl⟩ := fits_u8 h0
  obtain ⟨a1, w1, rfl⟩ := fits_u8 h1
  obtain ⟨a2, w2, rfl⟩ := fits_u8 h2
  obtain ⟨a3, w3, rfl⟩ := fits_u8 h3
  exact ⟨⟨a0, a1, a2, a3⟩, ⟨w0, w1, w2, w3⟩, rfl⟩
def P2.rng (p : P2) : Prop := (-9223372036854775808 ≤ p.x ∧ p.x ≤ 9223372036854775807) ∧ (-9223372036854775808 ≤ p.y ∧ p.y ≤ 9223372036854775807)
theorem fits_cs : ∀ (n : Nat) (cs : List Value), fitsP (List.replicate n [.int .u8, .int .u8, .int .u8, .int .u8]).flatten cs → ∃ l : List C4, l.length = n ∧ (∀ c ∈ l, c.rng) ∧ cs = l.flatMap c4
  | 0, [], _ => ⟨[], rfl, (fun c h => by cases h), rfl⟩
  | 0, _ :: _, h => by cases h
  | n + 1, cs, h => by
    rw [List.replicate_succ, List.flatten_cons] at h
    obtain ⟨a, b, rfl, h1, h2⟩ := fitsP_append _ _ _ h
    obtain ⟨c, hc, rfl⟩ := fits_c4 _ h1
    obtain ⟨l, hl, hr, rfl⟩ := fits_cs n b h2
    exact ⟨c :: l, by rw [List.length_cons, hl], fun d hd => (List.mem_cons.1 hd).elim (fun e => e ▸ hc) (hr d), rfl⟩
theorem fits_tl (cs : List Value) (h : fitsP (List.replicate 64 [.int .u8, .int .u8, .int .u8, .int .u8]).flatten cs) : ∃ t : TL, (∀ c ∈ t.l, c.rng) ∧ cs = tc t := by
  obtain ⟨l, hl, hr, rfl⟩ := fits_cs 64 cs h
  exact ⟨⟨l, hl⟩, hr, rfl⟩
theorem opens_i64 {w : World} : Opens Tryz.prog w 3 (fun a : Int => [.val (.int .i64 a)]) (fun a => -9223372036854775808 ≤ a ∧ a ≤ 9223372036854775807) := opens_flat 1 (fun a : Int => [.int .i64 a]) _ fits_i64 (by kernel_rfl)
theorem opens_rowz {α : Type} {w : World} {t e : TypeId} {ps : List Prim} {sz : Nat} (f : Nat) (en : α → List Value) (ok : α → Prop) (hP : ∀ cs, fitsP ps cs → ∃ a, ok a ∧ cs = en a) (ht : Tryz.prog.underlying t = some (.slice e)) (hf : flatT Tryz.prog f e = some ps) (hz : ps.length = sz) (hc : Tryz.prog.cellsOf e = sz) (hpos : 0 < sz)
    (hen : ∀ a, (en a).length = sz) : Opens Tryz.prog w t (fun l : List α => [.slf sz l.length (l.flatMap en)]) (fun l => ∀ a ∈ l, ok a) := by
  subst hz
  exact opens_row f en ok hP ht hf hc hpos hen
abbrev kT : List Prim := (List.replicate 64 [.int .u8, .int .u8, .int .u8, .int .u8]).flatten
theorem kT_len : kT.length = 256 := by kernel_rfl
theorem opens_tls {w : World} : Opens Tryz.prog w 22 (fun l : List TL => [.slf 256 l.length (l.flatMap tc)]) (fun l => ∀ x ∈ l, ∀ c ∈ x.l, c.rng) :=
  opens_rowz 4 tc (fun t => ∀ c ∈ t.l, c.rng) fits_tl Tryz.underlying22 (show flatT Tryz.prog 4 72 = some kT by kernel_rfl) kT_len (by kernel_rfl) (by decide) tc_len
abbrev shL (a : Int × Int × List TL) : List D := [.val (.int .i64 a.1), .val (.int .i64 a.2.1), .slf 256 a.2.2.length (a.2.2.flatMap tc)]
theorem opens_cv {w : World} : Opens Tryz.prog w 24 shL (fun a => tsRng a.2.2) :=
  opens_map (fun a : Int × Int × List TL × Unit => (a.1, a.2.1, a.2.2.1)) (opens_struct Tryz.underlying24 (by kernel_rfl) (opensF_cons (k := 1) rfl (by kernel_rfl) opens_i64 (opensF_cons (k := 1) rfl (by kernel_rfl) opens_i64 (opensF_cons (k := 1) rfl (by kernel_rfl) opens_tls opensF_nil)))) (fun _ => rfl) (fun _ h => h.2.2.1)
def Sp.rng (s : Sp) : Prop := (-9223372036854775808 ≤ s.y ∧ s.y ≤ 9223372036854775807) ∧ (-9223372036854775808 ≤ s.f ∧ s.f ≤ 9223372036854775807) ∧ -9223372036854775808 ≤ s.t ∧ s.t ≤ 9223372036854775807
abbrev q3 (a : Int × Int × Int) : List Value := [.int .i64 a.1, .int .i64 a.2.1, .int .i64 a.2.2]
end Go.Proofs.YtfnhckildfbikaaGreat
