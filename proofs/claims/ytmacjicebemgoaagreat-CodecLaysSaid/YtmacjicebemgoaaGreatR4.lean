/- octet: numbers read from bytes; octet: readers; the document: numbers laid; What is laid and taken: a small theory of codes that can be joined; Numbers, ids, colours, as bytes; Ids, places, colours, stamps, as bytes; Operations, as bytes, kind by kind; Operations, as bytes; Rows of operations, and vectors, as bytes; What the laws of codes ask; Vectors, as bytes; Fields one by one; bytes of numbers; what is taken, step by step; A struct whose fields are rows, stored into a part of a variable; Variables that hold a row of one's own that was nil; data told otherwise in a block; what operations use; which operations may be; which operations may be, kind by kind; laying: numbers and ids. No condition. -/
import Derived.Test.YtmacjicebemgoaaGreatR3
import Derived.Test.YtmacjicebemgoaaGreatRows
namespace Go.Proofs.YtmacjicebemgoaaGreat
set_option linter.unusedVariables false
set_option linter.unusedSimpArgs false
open Go.RowKit
theorem fl161 : fdL Tryz.prog 161 = some [(0, 1)] := by kernel_rfl
theorem fo155_0 : fdO Tryz.prog 155 0 = some 0 := by kernel_rfl
theorem kn23 : knd Tryz.prog 23 = some .u64 := by kernel_rfl
theorem tb167 : tyB Tryz.prog 167 = some (false, 1) := by kernel_rfl
theorem ty5 : (tyB Tryz.prog 5).isSome = true := by kernel_rfl
theorem zr23 : zrC Tryz.prog 23 = some [.int .u64 0] := by kernel_rfl
set_option maxRecDepth 4000 in
set_option maxHeartbeats 1000000 in
theorem uneed2_ok (T : TypeId) (l : List Int) (e : Int) (n : Nat) (h : n ≤ l.length) : DFun Tryz.prog 172 [.loc 0 0, .val (.int .i64 (n : Int))] [.mix T [.slf 1 (l).length ((l).flatMap uc8), .val (.int .i64 e)]] (.tup []) [.mix T [.slf 1 (l).length ((l).flatMap uc8), .val (.int .i64 e)]] := by
  refine zaj (N := 13) 1 (by kernel_rfl) Tryz.func172 rfl rfl rfl (by simp only [fr0, Nat.zero_add, Nat.reduceAdd]; exact rfl) rfl fun s0 hs0 => ?_
  refine zaf ?_
  refine zac ?_
  refine za rfl rfl rfl (zad (.inl rfl) (ev1 rfl)) ?_
  refine za rfl rfl rfl (op_nc rfl (ev1 rfl) (fun s v h => by cases h; exact ⟨_, rfl⟩)) ?_
  refine za rfl rfl rfl (zal rfl fo155_0 (ev1 rfl)) ?_
  refine za rfl rfl rfl (op_ldm rfl tb30 (ev1 rfl) rfl rfl) ?_
  refine za rfl rfl rfl (op_len rfl sl30 (ev1 rfl)) ?_
  refine za rfl rfl rfl (zad (.inl rfl) (ev1 rfl)) ?_
  refine za rfl rfl rfl (op_lss rfl (ev1 rfl) (ev1 rfl)) ?_
  refine zae ?_
  refine dwp_if_f rfl (decide_eq_false (by omega)) ?_
  refine zam ?_
  refine kend [0] (res_none rfl) rfl rfl ?_ ⟨rfl, trivial⟩
  rfl
set_option maxRecDepth 4000 in
set_option maxHeartbeats 1000000 in
theorem uneed2_no (T : TypeId) (l : List Int) (e : Int) (n : Nat) (h : l.length < n) : DPan Tryz.prog 172 [.loc 0 0, .val (.int .i64 (n : Int))] [.mix T [.slf 1 (l).length ((l).flatMap uc8), .val (.int .i64 e)]] (.ifc 161 (.val (.agg #[.int .i64 110]))) [.mix T [.slf 1 (l).length ((l).flatMap uc8), .val (.int .i64 e)]] := by
  refine zaj (N := 13) 1 (by kernel_rfl) Tryz.func172 rfl rfl rfl (by simp only [fr0, Nat.zero_add, Nat.reduceAdd]; exact rfl) rfl fun s0 hs0 => ?_
  refine zaf ?_
  refine zac ?_
  refine za rfl rfl rfl (zad (.inl rfl) (ev1 rfl)) ?_
  refine za rfl rfl rfl (op_nc rfl (ev1 rfl) (fun s v h => by cases h; exact ⟨_, rfl⟩)) ?_
  refine za rfl rfl rfl (zal rfl fo155_0 (ev1 rfl)) ?_
  refine za rfl rfl rfl (op_ldm rfl tb30 (ev1 rfl) rfl rfl) ?_
  refine za rfl rfl rfl (op_len rfl sl30 (ev1 rfl)) ?_
  refine za rfl rfl rfl (zad (.inl rfl) (ev1 rfl)) ?_
  refine za rfl rfl rfl (op_lss rfl (ev1 rfl) (ev1 rfl)) ?_
  refine zae ?_
  refine dwp_if_t rfl (decide_eq_true (by omega)) ?_
  refine zac ?_
  refine za rfl rfl rfl (op_build (ps := [(0, .const (.int .i64 110))]) rfl fl161 zr161 (vc (ev1 rfl) vn) rfl rfl) ?_
  refine za rfl rfl rfl (op_mi rfl ni161 (ev1 rfl)) ?_
  refine walk_p rfl (op_pan rfl (ev1 rfl)) rfl ?_
  refine kpan [0] rfl rfl ?_ ⟨rfl, trivial⟩
  rfl
set_option maxRecDepth 4000 in
set_option maxHeartbeats 1000000 in
theorem uahead_d (T : TypeId) (l : List Int) (e : Int) : DFun Tryz.prog 173 [.loc 0 0] [.mix T [.slf 1 (l).length ((l).flatMap uc8), .val (.int .i64 e)]] (.fn (.func 206) [] [.loc 1 0]) [.mix T [.slf 1 (l).length ((l).flatMap uc8), .val (.int .i64 e)], .mix 167 [.loc 0 0]] := by
  refine zaj (N := 4) 1 (by kernel_rfl) Tryz.func173 rfl rfl rfl (by simp only [fr0, Nat.zero_add, Nat.reduceAdd]; exact rfl) rfl fun s0 hs0 => ?_
  refine zaf ?_
  refine zai 1 (by simp only [holes, List.cons_append, List.nil_append]; exact rfl) ?_
  refine zac ?_
  refine zak rfl rfl rfl (op_boxm 1 rfl (ev1 rfl) (fun s v h => by cases h <;> rfl) rfl) (by simp only [upd, zaa, zab]; exact rfl) ?_
  refine za rfl rfl rfl (zad (.inr rfl) (ev1 rfl)) ?_
  refine zae ?_
  refine zaf ?_
  refine zac ?_
  refine za rfl rfl rfl (op_mkf rfl en (ec (ev1 rfl) en)) ?_
  refine za rfl rfl rfl (zad (.inr rfl) (ev1 rfl)) ?_
  refine zae ?_
  refine zan ?_
  refine kend [0, 1] (rs1 rfl (rv_t rfl)) rfl rfl ?_ ⟨rfl, rfl, trivial⟩
  rfl
noncomputable def numA : Code := rfA (pth [1, 0, 1, 1, 1, 0, 1, 0] (bodyOf Tryz.f151))
noncomputable def numB : Code := rfB (pth [1, 0, 1, 1, 1, 0, 1, 0] (bodyOf Tryz.f151))
set_option maxRecDepth 4000 in
set_option maxHeartbeats 1000000 in
theorem numRound_go (i w acc b : Int) (h : i ≠ w) : DRound Tryz.prog 0 [.val (.int .i64 i), .val (.int .u8 b)] [.lp 24 [(3, .loc 1 0), (5, .loc 2 0)] #[13, 14] numA numB .ready none, .flat 3 [.int .i64 w], .flat 23 [.int .u64 acc]] true [.lp 24 [(3, .loc 1 0), (5, .loc 2 0)] #[13, 14] numA numB .ready none, .flat 3 [.int .i64 w], .flat 23 [.int .u64 (numR acc b)]] := by
  refine dround_go 3 rfl rfl (by simp) rfl rfl fun s0 hs0 => ?_
  refine zaf ?_
  refine zac ?_
  refine za rfl rfl rfl (zad (.inr rfl) (ev1 rfl)) ?_
  refine zae ?_
  refine zac ?_
  refine za rfl rfl rfl (zad (.inr rfl) (ev1 rfl)) ?_
  refine zae ?_
  refine ⟨rfl, ?_⟩
  simp only [zaa, zab]
  refine dwp_block ?_
  refine zaf ?_
  refine zaf ?_
  refine zac ?_
  refine za rfl rfl rfl (zad (.inl rfl) (ev1 rfl)) ?_
  refine za rfl rfl rfl (op_ldo rfl tb3 (ev1 rfl) rfl rfl) ?_
  refine za rfl rfl rfl (op_eql rfl (ev1 rfl) (ev1 rfl)) ?_
  refine zae ?_
  refine dwp_if_f rfl (by simp [h]) ?_
  refine zam ?_
  refine zac ?_
  refine za rfl rfl rfl (op_ldo rfl tb23 (ev1 rfl) rfl rfl) ?_
  refine za rfl rfl rfl (op_shl (8) rfl (ev1 rfl) (ev1 rfl) (fun _ => ⟨rfl, by decide⟩)) ?_
  refine za rfl rfl rfl (zad (.inl rfl) (ev1 rfl)) ?_
  refine za rfl rfl rfl (op_conv ty5 kn23 rfl (ev1 rfl)) ?_
  refine za rfl rfl rfl (op_ior rfl (ev1 rfl) (ev1 rfl)) ?_
  refine walk_s rfl rfl (op_stwi rfl tb23 (ev1 rfl) (ev1 rfl) rfl) (by simp only [upd, zaa, zab]; exact rfl) ?_
  refine zae ?_
  refine ⟨by first | rfl | assumption | simp_all, rfl, [0, 1, 2], rfl, ⟨rfl, rfl, rfl, trivial⟩⟩
set_option maxRecDepth 4000 in
set_option maxHeartbeats 1000000 in
theorem numRound_stop (i w acc b : Int) (h : i = w) : DRound Tryz.prog 0 [.val (.int .i64 i), .val (.int .u8 b)] [.lp 24 [(3, .loc 1 0), (5, .loc 2 0)] #[13, 14] numA numB .ready none, .flat 3 [.int .i64 w], .flat 23 [.int .u64 acc]] false [.lp 24 [(3, .loc 1 0), (5, .loc 2 0)] #[13, 14] numA numB .done (some (.exit 0)), .flat 3 [.int .i64 w], .flat 23 [.int .u64 acc]] := by
  refine dround_go 3 rfl rfl (by simp) rfl rfl fun s0 hs0 => ?_
  refine zaf ?_
  refine zac ?_
  refine za rfl rfl rfl (zad (.inr rfl) (ev1 rfl)) ?_
  refine zae ?_
  refine zac ?_
  refine za rfl rfl rfl (zad (.inr rfl) (ev1 rfl)) ?_
  refine zae ?_
  refine ⟨rfl, ?_⟩
  simp only [zaa, zab]
  refine dwp_block ?_
  refine zaf ?_
  refine zaf ?_
  refine zac ?_
  refine za rfl rfl rfl (zad (.inl rfl) (ev1 rfl)) ?_
  refine za rfl rfl rfl (op_ldo rfl tb3 (ev1 rfl) rfl rfl) ?_
  refine za rfl rfl rfl (op_eql rfl (ev1 rfl) (ev1 rfl)) ?_
  refine zae ?_
  refine dwp_if_t rfl (by simp [h]) ?_
  refine dwp_exit ?_
  refine ⟨by first | rfl | assumption | simp_all, rfl, [0, 1, 2], rfl, ⟨rfl, rfl, rfl, trivial⟩⟩
set_option maxRecDepth 4000 in
set_option maxHeartbeats 1000000 in
theorem uahead_num (T : TypeId) (l : List Int) (hL : l.length ≤ 9223372036854775807) (e : Int) (w : Nat) : DFun Tryz.prog 206 [.yld 0, .loc 3 0] [.lp 24 [(3, .loc 1 0), (5, .loc 2 0)] #[13, 14] numA numB .ready none, .flat 3 [.int .i64 (w : Int)], .flat 23 [.int .u64 0], .mix 167 [.loc 4 0], .mix T [.slf 1 (l).length ((l).flatMap uc8), .val (.int .i64 e)]] (.tup []) [.lp 24 [(3, .loc 1 0), (5, .loc 2 0)] #[13, 14] numA numB (rst (decide (l.length ≤ w))) (rpe (.exit 0) (decide (l.length ≤ w))), .flat 3 [.int .i64 (w : Int)], .flat 23 [.int .u64 (numN w l)], .mix 167 [.loc 4 0], .mix T [.slf 1 (l).length ((l).flatMap uc8), .val (.int .i64 e)]] := by
  refine zaj (N := 21) 5 (by kernel_rfl) Tryz.func206 rfl rfl rfl (by simp only [fr0, Nat.zero_add, Nat.reduceAdd]; exact rfl) rfl fun s0 hs0 => ?_
  refine zaf ?_
  refine zac ?_
  refine za rfl rfl rfl (op_ldm rfl tb167 (ev1 rfl) rfl rfl) ?_
  refine za rfl rfl rfl (op_nc rfl (ev1 rfl) (fun s v h => by cases h; exact ⟨_, rfl⟩)) ?_
  refine za rfl rfl rfl (zal rfl fo155_0 (ev1 rfl)) ?_
  refine za rfl rfl rfl (op_ldm rfl tb30 (ev1 rfl) rfl rfl) ?_
  refine za rfl rfl rfl (op_len rfl sl30 (ev1 rfl)) ?_
  refine za rfl rfl rfl (zad (.inl rfl) (ev1 rfl)) ?_
  refine zae ?_
  refine dwp_block ?_
  refine dwp_loopS ⟨hs0, rfl⟩ (α := Nat) (fun k => [(10, .val (.int .i64 (k : Int)))]) [(0, _), (8, _), (9, _)] (fun k => [(2, .flat 23 [.int .u64 (numN k l)])]) [_, _, .hole, _, _] (fun k => k ≤ l.length ∧ k ≤ w) (fun k => l.length - k) 0 [0, 1, 2, 3, 4] (by simp) rfl ⟨rfl, rfl, rfl, trivial⟩ ⟨rfl, trivial⟩ ⟨rfl, rfl, rfl, rfl, rfl, trivial⟩ ?_
  intro k hx
  simp only [upd, zaa, zab, List.cons_append, List.nil_append]
  obtain ⟨hk, hkw⟩ := hx
  refine zaf ?_
  refine zac ?_
  refine za rfl rfl rfl (op_lss rfl (ev1 rfl) (ev1 rfl)) ?_
  refine zae ?_
  refine zaf ?_
  refine dwp_cond rfl (fun c1 => ?_) (fun c1 => ?_)
  · try simp only [decide_eq_true_eq, decide_eq_false_iff_not, beq_iff_eq, bne_iff_ne, beq_eq_false_iff_ne, bne_eq_false_iff_eq, Bool.not_eq_true', Bool.not_eq_false', Bool.and_eq_true, Bool.or_eq_true, Bool.or_eq_false_iff, ne_eq, Decidable.not_not, Int.not_lt, Int.not_le] at c1
    refine zam ?_
    refine zaf ?_
    refine dwp_block ?_
    refine zaf ?_
    refine zac ?_
    refine za rfl rfl rfl (zad (.inl rfl) (ev1 rfl)) ?_
    refine za rfl rfl rfl (op_ixsr (j := k) rfl sl30 (ev1 rfl) (ev1 rfl) (fun _ => rfl) (by decide) (by omega) (by omega)) ?_
    refine za rfl rfl rfl (op_ldod rfl tb5 (ev1 rfl) rfl) ?_
    refine za rfl rfl rfl (zad (.inr rfl) (ev1 rfl)) ?_
    refine za rfl rfl rfl (zad (.inr rfl) (ev1 rfl)) ?_
    refine zae ?_
    refine zaf ?_
    by_cases hw : k = w
    · refine zac ?_
      refine za rfl rfl rfl (zad (.inl rfl) (ev1 rfl)) ?_
      refine za rfl rfl rfl (zad (.inl rfl) (ev1 rfl)) ?_
      refine za rfl rfl rfl (zad (.inl rfl) (ev1 rfl)) ?_
      refine zak rfl rfl rfl (op_y (i := 0) [0, 1, 2] [] [] rfl (ev1 rfl) (ec (ev1 rfl) (ec (ev1 rfl) en)) rfl rfl rfl (numRound_stop _ _ _ _ (by omega)) rfl rfl rfl rfl rfl) (by simp only [upd, zaa, zab]; exact rfl) ?_
      refine za rfl rfl rfl (op_not rfl (ev1 rfl)) ?_
      refine zae ?_
      refine dwp_if_t rfl (rfl) ?_
      refine zan ?_
      have e1 : decide (l.length ≤ w) = false := decide_eq_false (by omega)
      subst hw
      rw [e1]
      refine kend [0, 1, 2, 3, 4] (res_none rfl) rfl rfl ?_ ⟨rfl, rfl, rfl, rfl, rfl, trivial⟩
      rfl
    · refine zac ?_
      refine za rfl rfl rfl (zad (.inl rfl) (ev1 rfl)) ?_
      refine za rfl rfl rfl (zad (.inl rfl) (ev1 rfl)) ?_
      refine za rfl rfl rfl (zad (.inl rfl) (ev1 rfl)) ?_
      refine zak rfl rfl rfl (op_y (i := 0) [0, 1, 2] [] [] rfl (ev1 rfl) (ec (ev1 rfl) (ec (ev1 rfl) en)) rfl rfl rfl (numRound_go _ _ _ _ (by omega)) rfl rfl rfl rfl rfl) (by simp only [upd, zaa, zab]; exact rfl) ?_
      refine za rfl rfl rfl (op_not rfl (ev1 rfl)) ?_
      refine zae ?_
      refine dwp_if_f rfl (rfl) ?_
      refine zam ?_
      refine zac ?_
      refine za rfl rfl rfl (op_add' rfl (ev1 rfl) (ev1 rfl) (fun _ => IntWalk.i64_in _ (by omega))) ?_
      refine za rfl rfl rfl (zad (.inl rfl) (ev1 rfl)) ?_
      refine zae ?_
      refine ⟨k + 1, [0, 1, 2, 3, 4], ⟨by omega, by omega⟩, by simp only []; omega, rfl, ⟨rfl, rfl, rfl, rfl, trivial⟩, ⟨rfl, rfl, by rw [numN_succ (by omega)]; rfl, rfl, rfl, trivial⟩⟩
  · try simp only [decide_eq_true_eq, decide_eq_false_iff_not, beq_iff_eq, bne_iff_ne, beq_eq_false_iff_ne, bne_eq_false_iff_eq, Bool.not_eq_true', Bool.not_eq_false', Bool.and_eq_true, Bool.or_eq_true, Bool.or_eq_false_iff, ne_eq, Decidable.not_not, Int.not_lt, Int.not_le] at c1
    refine dwp_exit ?_
    have e1 : decide (l.length ≤ w) = true := decide_eq_true (by omega)
    have e2 : k = l.length := by omega
    rw [e1, numN_all (show l.length ≤ w by omega), e2]
    refine kend [0, 1, 2, 3, 4] (res_none rfl) rfl rfl ?_ ⟨rfl, rfl, rfl, rfl, rfl, trivial⟩
    rfl
set_option maxRecDepth 4000 in
set_option maxHeartbeats 1000000 in
theorem upeek_d (T : TypeId) (l : List Int) (hL : l.length ≤ 9223372036854775807) (e : Int) (w : Nat) (h : w ≤ l.length) : DFun Tryz.prog 151 [.loc 0 0, .val (.int .i64 (w : Int))] [.mix T [.slf 1 (l).length ((l).flatMap uc8), .val (.int .i64 e)]] (.val (.int .u64 (numN w l))) [.mix T [.slf 1 (l).length ((l).flatMap uc8), .val (.int .i64 e)]] := by
  refine zaj (N := 24) 1 (by kernel_rfl) Tryz.func151 rfl rfl rfl (by simp only [fr0, Nat.zero_add, Nat.reduceAdd]; exact rfl) rfl fun s0 hs0 => ?_
  refine zaf ?_
  refine zai 1 (by simp only [holes, List.cons_append, List.nil_append]; exact rfl) ?_
  refine zac ?_
  refine zak rfl rfl rfl (op_boxi 1 rfl (ev1 rfl) rfl) (by simp only [upd, zaa, zab]; exact rfl) ?_
  refine za rfl rfl rfl (zad (.inr rfl) (ev1 rfl)) ?_
  refine zae ?_
  refine dwp_scope ?_
  refine zaf ?_
  refine zac ?_
  refine za rfl rfl rfl (zad (.inl rfl) (ev1 rfl)) ?_
  refine za rfl rfl rfl (op_ldo rfl tb3 (ev1 rfl) rfl rfl) ?_
  refine zak rfl rfl rfl (zag [0] [] [] rfl (ev1 rfl) (ec (ev1 rfl) (ec (ev1 rfl) en)) rfl rfl (uneed2_ok _ _ _ w h) rfl rfl rfl rfl rfl rfl) (by simp only [upd, zaa, zab]; exact rfl) ?_
  refine zae ?_
  refine zaf ?_
  refine zai 1 (by simp only [holes, List.cons_append, List.nil_append]; exact rfl) ?_
  refine zac ?_
  refine zak rfl rfl rfl (op_alloc 2 rfl zr23 rfl) (by simp only [upd, zaa, zab]; exact rfl) ?_
  refine walk_s rfl rfl (op_stwi rfl tb23 (ev1 rfl) (ev1 rfl) rfl) (by simp only [upd, zaa, zab]; exact rfl) ?_
  refine zae ?_
  refine zaf ?_
  refine dwp_label ?_
  refine zaf ?_
  refine zaf ?_
  refine zai 1 (by simp only [holes, List.cons_append, List.nil_append]; exact rfl) ?_
  refine zac ?_
  refine za rfl rfl rfl (zad (.inl rfl) (ev1 rfl)) ?_
  refine zak rfl rfl rfl (zag [0] [] [3] rfl (ev1 rfl) (ec (ev1 rfl) en) rfl rfl (uahead_d _ _ _) rfl rfl rfl rfl rfl rfl) (by simp only [upd, zaa, zab]; exact rfl) ?_
  refine zae ?_
  refine dwp_block ?_
  refine dwp_hole ?_
  simp only [List.cons_append, List.nil_append]
  refine dwp_rf (FL := [(3, _), (5, _)]) (st := (rst (decide (l.length ≤ w)))) (pe := (rpe (.exit 0) (decide (l.length ≤ w)))) [4, 1, 2, 3, 0] [] [] 4 rfl rfl (ev1 rfl) rfl (subF_lk ⟨rfl, rfl, trivial⟩) rfl rfl rfl (uahead_num _ l hL e w) rfl rfl rfl rfl rfl rfl rfl (rst_busy _) (fun e => ?_) (fun c e => ?_)
  · simp only [upd, zaa, zab]
    refine zaf ?_
    refine zac ?_
    refine za rfl rfl rfl (op_ldo rfl tb23 (ev1 rfl) rfl rfl) ?_
    refine za rfl rfl rfl (zad (.inr rfl) (ev1 rfl)) ?_
    refine zae ?_
    refine zan ?_
    refine kend [0] (rs1 rfl (rv_t rfl)) rfl rfl ?_ ⟨rfl, trivial⟩
    rfl
  · obtain ⟨e1, rfl⟩ : decide (l.length ≤ w) = false ∧ c = .exit 0 := by
      cases h : decide (l.length ≤ w) <;> simp_all [rpe]
    simp only [upd, zaa, zab]
    refine dwp_exit ?_
    refine zaf ?_
    refine zac ?_
    refine za rfl rfl rfl (op_ldo rfl tb23 (ev1 rfl) rfl rfl) ?_
    refine za rfl rfl rfl (zad (.inr rfl) (ev1 rfl)) ?_
    refine zae ?_
    refine zan ?_
    refine kend [0] (rs1 rfl (rv_t rfl)) rfl rfl ?_ ⟨rfl, trivial⟩
    rfl
set_option maxRecDepth 4000 in
set_option maxHeartbeats 1000000 in
theorem unumber_d (T : TypeId) (l : List Int) (hL : l.length ≤ 9223372036854775807) (e : Int) (w : Nat) (h : w ≤ l.length) : DFun Tryz.prog 127 [.loc 0 0, .val (.int .i64 (w : Int))] [.mix T [.slf 1 (l).length ((l).flatMap uc8), .val (.int .i64 e)]] (.val (.int .u64 (numN w l))) [.mix T [.slf 1 (l.drop w).length ((l.drop w).flatMap uc8), .val (.int .i64 e)]] := by
  refine zaj (N := 19) 1 (by kernel_rfl) Tryz.func127 rfl rfl rfl (by simp only [fr0, Nat.zero_add, Nat.reduceAdd]; exact rfl) rfl fun s0 hs0 => ?_
  refine zaf ?_
  refine zac ?_
  refine za rfl rfl rfl (zad (.inr rfl) (ev1 rfl)) ?_
  refine zae ?_
  refine zaf ?_
  refine zac ?_
  refine za rfl rfl rfl (zad (.inl rfl) (ev1 rfl)) ?_
  refine za rfl rfl rfl (zad (.inl rfl) (ev1 rfl)) ?_
  refine zak rfl rfl rfl (zag [0] [] [] rfl (ev1 rfl) (ec (ev1 rfl) (ec (ev1 rfl) en)) rfl rfl (upeek_d _ _ hL _ w h) rfl rfl rfl rfl rfl rfl) (by simp only [upd, zaa, zab]; exact rfl) ?_
  refine za rfl rfl rfl (zad (.inr rfl) (ev1 rfl)) ?_
  refine zae ?_
  refine zaf ?_
  refine zac ?_
  refine za rfl rfl rfl (zad (.inl rfl) (ev1 rfl)) ?_
  refine za rfl rfl rfl (zad (.inl rfl) (ev1 rfl)) ?_
  refine za rfl rfl rfl (op_nc rfl (ev1 rfl) (fun s v h => by cases h; exact ⟨_, rfl⟩)) ?_
  refine za rfl rfl rfl (zal rfl fo155_0 (ev1 rfl)) ?_
  refine za rfl rfl rfl (op_ldm rfl tb30 (ev1 rfl) rfl rfl) ?_
  refine za rfl rfl rfl (zad (.inl rfl) (ev1 rfl)) ?_
  refine za rfl rfl rfl (op_sldr (i := w) rfl sl30 (ev1 rfl) (bd_some (ev1 rfl)) (fun _ => by omega) (fun _ => by omega) (fun _ => rfl)) ?_
  refine za rfl rfl rfl (op_nc rfl (ev1 rfl) (fun s v h => by cases h; exact ⟨_, rfl⟩)) ?_
  refine za rfl rfl rfl (zal rfl fo155_0 (ev1 rfl)) ?_
  refine walk_s rfl rfl (op_stm rfl tb30 (ev1 rfl) (ev1 rfl) (fun s v h => by cases h <;> exact ⟨rfl, rfl⟩) rfl (by first | decide | exact Nat.le_of_ble_eq_true rfl | simp)) (by simp only [upd, zaa, zab]; exact rfl) ?_
  refine zae ?_
  refine zaf ?_
  refine zac ?_
  refine za rfl rfl rfl (zad (.inl rfl) (ev1 rfl)) ?_
  refine za rfl rfl rfl (zad (.inr rfl) (ev1 rfl)) ?_
  refine zae ?_
  refine zan ?_
  refine kend [0] (rs1 rfl (rv_t rfl)) rfl rfl ?_ ⟨rfl, trivial⟩
  rfl
set_option maxRecDepth 4000 in
set_option maxHeartbeats 1000000 in
theorem upeek_no (T : TypeId) (l : List Int) (e : Int) (w : Nat) (h : l.length < w) : DPan Tryz.prog 151 [.loc 0 0, .val (.int .i64 (w : Int))] [.mix T [.slf 1 (l).length ((l).flatMap uc8), .val (.int .i64 e)]] (.ifc 161 (.val (.agg #[.int .i64 110]))) [.mix T [.slf 1 (l).length ((l).flatMap uc8), .val (.int .i64 e)]] := by
  refine zaj (N := 24) 1 (by kernel_rfl) Tryz.func151 rfl rfl rfl (by simp only [fr0, Nat.zero_add, Nat.reduceAdd]; exact rfl) rfl fun s0 hs0 => ?_
  refine zaf ?_
  refine zai 1 (by simp only [holes, List.cons_append, List.nil_append]; exact rfl) ?_
  refine zac ?_
  refine zak rfl rfl rfl (op_boxi 1 rfl (ev1 rfl) rfl) (by simp only [upd, zaa, zab]; exact rfl) ?_
  refine za rfl rfl rfl (zad (.inr rfl) (ev1 rfl)) ?_
  refine zae ?_
  refine dwp_scope ?_
  refine zaf ?_
  refine zac ?_
  refine za rfl rfl rfl (zad (.inl rfl) (ev1 rfl)) ?_
  refine za rfl rfl rfl (op_ldo rfl tb3 (ev1 rfl) rfl rfl) ?_
  refine walk_p rfl (dop_callP [0] [] [] rfl (ev1 rfl) (ec (ev1 rfl) (ec (ev1 rfl) en)) rfl rfl (uneed2_no _ _ _ w h) rfl rfl rfl rfl rfl rfl) rfl ?_
  refine kpan [0] rfl rfl ?_ ⟨rfl, trivial⟩
  rfl
set_option maxRecDepth 4000 in
set_option maxHeartbeats 1000000 in
theorem unumber_no (T : TypeId) (l : List Int) (e : Int) (w : Nat) (h : l.length < w) : DPan Tryz.prog 127 [.loc 0 0, .val (.int .i64 (w : Int))] [.mix T [.slf 1 (l).length ((l).flatMap uc8), .val (.int .i64 e)]] (.ifc 161 (.val (.agg #[.int .i64 110]))) [.mix T [.slf 1 (l).length ((l).flatMap uc8), .val (.int .i64 e)]] := by
  refine zaj (N := 19) 1 (by kernel_rfl) Tryz.func127 rfl rfl rfl (by simp only [fr0, Nat.zero_add, Nat.reduceAdd]; exact rfl) rfl fun s0 hs0 => ?_
  refine zaf ?_
  refine zac ?_
  refine za rfl rfl rfl (zad (.inr rfl) (ev1 rfl)) ?_
  refine zae ?_
  refine zaf ?_
  refine zac ?_
  refine za rfl rfl rfl (zad (.inl rfl) (ev1 rfl)) ?_
  refine za rfl rfl rfl (zad (.inl rfl) (ev1 rfl)) ?_
  refine walk_p rfl (dop_callP [0] [] [] rfl (ev1 rfl) (ec (ev1 rfl) (ec (ev1 rfl) en)) rfl rfl (upeek_no _ _ _ w h) rfl rfl rfl rfl rfl rfl) rfl ?_
  refine kpan [0] rfl rfl ?_ ⟨rfl, trivial⟩
  rfl
end Go.Proofs.YtmacjicebemgoaaGreat
namespace Go.Proofs.YtmacjicebemgoaaGreat
set_option linter.unusedVariables false
set_option linter.unusedSimpArgs false
open Go.RowKit
theorem fl155 : fdL Tryz.prog 155 = some [(0, 1), (1, 1)] := by kernel_rfl
theorem fl157 : fdL Tryz.prog 157 = some [(0, 2)] := by kernel_rfl
theorem fo155_1 : fdO Tryz.prog 155 1 = some 1 := by kernel_rfl
theorem fo157_0 : fdO Tryz.prog 157 0 = some 0 := by kernel_rfl
theorem pt131 : ptT Tryz.prog 131 = some 157 := by kernel_rfl
theorem tb131 : tyB Tryz.prog 131 = some (false, 1) := by kernel_rfl
theorem zr155 : zrC Tryz.prog 155 = some [.slice none 0 0, .int .i64 0] := by kernel_rfl
theorem zr157 : zrC Tryz.prog 157 = some [.slice none 0 0, .int .i64 0] := by kernel_rfl
set_option maxRecDepth 4000 in
set_option maxHeartbeats 1000000 in
theorem cloneB (l : List Int) (h : l.length ≤ 2000000) : DFun Tryz.prog 24 [.slf 1 l.length (l.flatMap uc8)] [] (.arr 0) [.arr 5 1 l.length (l.flatMap uc8)] := by
  refine zaj (N := 8) 0 (by kernel_rfl) Tryz.func24 rfl rfl rfl (by simp only [fr0, Nat.zero_add, Nat.reduceAdd]; exact rfl) rfl fun s0 hs0 => ?_
  refine dwp_len (t := 0) rfl fun hl0 hL0 => ?_
  refine zaf ?_
  refine zac ?_
  refine za rfl rfl rfl (zad (.inr rfl) (ev1 rfl)) ?_
  refine zae ?_
  refine zaf ?_
  refine zaf ?_
  refine zac ?_
  refine za rfl rfl rfl (zad (.inl rfl) (ev1 rfl)) ?_
  refine walk_nil? rfl rfl rfl rfl sl30 (ev1 rfl) fun nb4 hnb4 => ?_
  refine zae ?_
  refine dwp_cond rfl (fun c1 => ?_) (fun c1 => ?_)
  · try simp only [decide_eq_true_eq, decide_eq_false_iff_not, beq_iff_eq, bne_iff_ne, beq_eq_false_iff_ne, bne_eq_false_iff_eq, Bool.not_eq_true', Bool.not_eq_false', Bool.and_eq_true, Bool.or_eq_true, Bool.or_eq_false_iff, ne_eq, Decidable.not_not, Int.not_lt, Int.not_le] at c1
    refine zaf ?_
    refine zac ?_
    refine za rfl rfl rfl (zad (.inr rfl) (ev1 rfl)) ?_
    refine zae ?_
    refine dwp_adopt 2 5 1 rfl rfl rfl ?_
    refine zan ?_
    refine kend [0] (rs1 rfl (rv_t rfl)) rfl rfl ?_ ⟨?_, trivial⟩
    rfl
    exact (by obtain ⟨h1, h2⟩ := hnb4 c1; simp_all [MFits, vwB])
  · try simp only [decide_eq_true_eq, decide_eq_false_iff_not, beq_iff_eq, bne_iff_ne, beq_eq_false_iff_ne, bne_eq_false_iff_eq, Bool.not_eq_true', Bool.not_eq_false', Bool.and_eq_true, Bool.or_eq_true, Bool.or_eq_false_iff, ne_eq, Decidable.not_not, Int.not_lt, Int.not_le] at c1
    refine zam ?_
    refine zaf ?_
    refine zai 2 (by simp only [holes, List.cons_append, List.nil_append]; exact rfl) ?_
    refine zac ?_
    refine zak rfl rfl rfl (op_bsa (ps := []) 0 rfl sl30 zr5 rfl vn rfl (by decide) (by decide) rfl) (by simp only [upd, zaa, zab]; exact rfl) ?_
    refine za rfl rfl rfl (zad (.inl rfl) (ev1 rfl)) ?_
    refine zak rfl rfl rfl (op_app (j := 1) rfl sl30 zr5 rfl (ev1 rfl) (ev1 rfl) src_slf rfl rfl (fun _ => flat_oc (fun _ => rfl) l) (fun _ => ⟨by omega, by omega⟩)) (by simp only [upd, zaa, zab]; exact rfl) ?_
    refine za rfl rfl rfl (zad (.inr rfl) (ev1 rfl)) ?_
    refine zae ?_
    refine zan ?_
    refine kend [1] (rs1 rfl (rv_t rfl)) rfl rfl ?_ ⟨?_, trivial⟩
    rfl
    simp [vwB]
theorem cloneB_f (l : List Int) (h : l.length ≤ 2000000) : DFun Tryz.prog 24 [.slf 1 l.length (l.flatMap uc8)] [] (.slf 1 l.length (l.flatMap uc8)) [] := freeze (cloneB l h) rfl
set_option maxRecDepth 4000 in
set_option maxHeartbeats 1000000 in
theorem equalB (l r : List Int) : DFun Tryz.prog 10 [.slf 1 l.length (l.flatMap uc8), .slf 1 r.length (r.flatMap uc8)] [] (.val (.bool (decide (l = r)))) [] := by
  refine zaj (N := 26) 0 (by kernel_rfl) Tryz.func10 rfl rfl rfl (by simp only [fr0, Nat.zero_add, Nat.reduceAdd]; exact rfl) rfl fun s0 hs0 => ?_
  refine dwp_len (t := 0) rfl fun hl0 hL0 => ?_
  refine dwp_len (t := 1) rfl fun hl1 hL1 => ?_
  refine zaf ?_
  refine zac ?_
  refine za rfl rfl rfl (zad (.inr rfl) (ev1 rfl)) ?_
  refine zae ?_
  refine zaf ?_
  refine zaf ?_
  refine zac ?_
  refine za rfl rfl rfl (zad (.inl rfl) (ev1 rfl)) ?_
  refine za rfl rfl rfl (op_len rfl sl30 (ev1 rfl)) ?_
  refine za rfl rfl rfl (zad (.inl rfl) (ev1 rfl)) ?_
  refine za rfl rfl rfl (op_len rfl sl30 (ev1 rfl)) ?_
  refine za rfl rfl rfl (op_neq rfl (ev1 rfl) (ev1 rfl)) ?_
  refine zae ?_
  refine dwp_cond rfl (fun c1 => ?_) (fun c1 => ?_)
  · try simp only [decide_eq_true_eq, decide_eq_false_iff_not, beq_iff_eq, bne_iff_ne, beq_eq_false_iff_ne, bne_eq_false_iff_eq, Bool.not_eq_true', Bool.not_eq_false', Bool.and_eq_true, Bool.or_eq_true, Bool.or_eq_false_iff, ne_eq, Decidable.not_not, Int.not_lt, Int.not_le] at c1
    refine zaf ?_
    refine zac ?_
    refine za rfl rfl rfl (zad (.inr rfl) (ev1 rfl)) ?_
    refine zae ?_
    refine zan ?_
    refine kend0 (rs1 rfl (rv_t rfl)) rfl ?_
    have hne : l ≠ r := fun e => by subst e; exact c1 rfl
    rw [decide_eq_false hne]
  · try simp only [decide_eq_true_eq, decide_eq_false_iff_not, beq_iff_eq, bne_iff_ne, beq_eq_false_iff_ne, bne_eq_false_iff_eq, Bool.not_eq_true', Bool.not_eq_false', Bool.and_eq_true, Bool.or_eq_true, Bool.or_eq_false_iff, ne_eq, Decidable.not_not, Int.not_lt, Int.not_le] at c1
    have hlen : l.length = r.length := by omega
    refine zam ?_
    refine zaf ?_
    refine zaf ?_
    refine zac ?_
    refine za rfl rfl rfl (zad (.inl rfl) (ev1 rfl)) ?_
    refine za rfl rfl rfl (op_len rfl sl30 (ev1 rfl)) ?_
    refine za rfl rfl rfl (zad (.inl rfl) (ev1 rfl)) ?_
    refine zae ?_
    refine dwp_block ?_
    refine dwp_loopS ⟨hs0, rfl⟩ (α := Nat) (fun k => [(13, .val (.int .i64 (k : Int)))]) [(0, _), (1, _), (12, _)] (fun k => []) [] (fun k => k ≤ l.length ∧ l.take k = r.take k) (fun k => l.length - k) 0 [] (by simp) rfl ⟨rfl, rfl, rfl, trivial⟩ ⟨rfl, trivial⟩ trivial ?_
    intro k hx
    simp only [upd, zaa, zab, List.cons_append, List.nil_append]
    obtain ⟨hk, he⟩ := hx
    refine zaf ?_
    refine zac ?_
    refine za rfl rfl rfl (op_lss rfl (ev1 rfl) (ev1 rfl)) ?_
    refine zae ?_
    refine zaf ?_
    refine dwp_cond rfl (fun c2 => ?_) (fun c2 => ?_)
    · try simp only [decide_eq_true_eq, decide_eq_false_iff_not, beq_iff_eq, bne_iff_ne, beq_eq_false_iff_ne, bne_eq_false_iff_eq, Bool.not_eq_true', Bool.not_eq_false', Bool.and_eq_true, Bool.or_eq_true, Bool.or_eq_false_iff, ne_eq, Decidable.not_not, Int.not_lt, Int.not_le] at c2
      refine zam ?_
      refine zaf ?_
      refine dwp_block ?_
      refine zaf ?_
      refine zac ?_
      refine za rfl rfl rfl (zad (.inl rfl) (ev1 rfl)) ?_
      refine za rfl rfl rfl (zad (.inr rfl) (ev1 rfl)) ?_
      refine zae ?_
      refine zaf ?_
      refine dwp_draw [([], []), ([], []), ([], []), ([], []), ([], []), ([], []), ([], []), ([], []), ([], [])] mixed (by kernel_rfl) ?_
      refine lex_r rfl rfl (zad (.inl rfl) (ev1 rfl)) ?_
      refine lex_r rfl rfl (zad (.inl rfl) (ev1 rfl)) ?_
      refine lex_r rfl rfl (op_ixsr (j := k) rfl sl30 (ev1 rfl) (ev1 rfl) (fun _ => rfl) (by decide) (by omega) (by omega)) ?_
      refine lex_r rfl rfl (op_ldod rfl tb5 (ev1 rfl) rfl) ?_
      refine lex_r rfl rfl (zad (.inl rfl) (ev1 rfl)) ?_
      refine lex_r rfl rfl (zad (.inl rfl) (ev1 rfl)) ?_
      refine lex_r rfl rfl (op_ixsr (j := k) rfl sl30 (ev1 rfl) (ev1 rfl) (fun _ => rfl) (by decide) (by omega) (by omega)) ?_
      refine lex_r rfl rfl (op_ldod rfl tb5 (ev1 rfl) rfl) ?_
      refine lex_r rfl rfl (op_neq rfl (ev1 rfl) (ev1 rfl)) ?_
      refine lex_nil ?_
      refine dwp_cond rfl (fun c2 => ?_) (fun c2 => ?_)
      · have c3 : l[k] ≠ r[k] := by simpa using c2
        refine zaf ?_
        refine zac ?_
        refine za rfl rfl rfl (zad (.inr rfl) (ev1 rfl)) ?_
        refine zae ?_
        refine zan ?_
        refine kend0 (rs1 rfl (rv_t rfl)) rfl ?_
        have hne : l ≠ r := fun e => by subst e; exact c3 rfl
        rw [decide_eq_false hne]
      · have c3 : l[k] = r[k] := by simpa using c2
        refine zam ?_
        refine zac ?_
        refine za rfl rfl rfl (op_add' rfl (ev1 rfl) (ev1 rfl) (fun _ => IntWalk.i64_in _ (by omega))) ?_
        refine za rfl rfl rfl (zad (.inl rfl) (ev1 rfl)) ?_
        refine zae ?_
        refine ⟨k + 1, [], ⟨by omega, by rw [List.take_succ_eq_append_getElem (by omega), List.take_succ_eq_append_getElem (by omega), he, c3]⟩, by simp only []; omega, rfl, ⟨rfl, rfl, rfl, rfl, trivial⟩, trivial⟩
    · try simp only [decide_eq_true_eq, decide_eq_false_iff_not, beq_iff_eq, bne_iff_ne, beq_eq_false_iff_ne, bne_eq_false_iff_eq, Bool.not_eq_true', Bool.not_eq_false', Bool.and_eq_true, Bool.or_eq_true, Bool.or_eq_false_iff, ne_eq, Decidable.not_not, Int.not_lt, Int.not_le] at c2
      refine dwp_exit ?_
      refine zaf ?_
      refine zac ?_
      refine za rfl rfl rfl (zad (.inr rfl) (ev1 rfl)) ?_
      refine zae ?_
      refine zan ?_
      refine kend0 (rs1 rfl (rv_t rfl)) rfl ?_
      have e : l = r := by
        have h := he
        rw [List.take_of_length_le (by omega), List.take_of_length_le (by omega)] at h
        exact h
      rw [decide_eq_true e]
set_option maxRecDepth 4000 in
set_option maxHeartbeats 1000000 in
theorem uopen_d (l : List Int) (h : l.length ≤ 1048576) : DFun Tryz.prog 80 [.slf 1 (l).length ((l).flatMap uc8)] [] (.tup [.loc 0 0, .val (.int .i64 0)]) [.mix 157 [.slf 1 (l).length ((l).flatMap uc8), .val (.int .i64 0)]] := by
  refine zaj (N := 12) 0 (by kernel_rfl) Tryz.func80 rfl rfl rfl (by simp only [fr0, Nat.zero_add, Nat.reduceAdd]; exact rfl) rfl fun s0 hs0 => ?_
  refine dwp_len (t := 0) rfl fun hl0 hL0 => ?_
  refine zaf ?_
  refine zac ?_
  refine za rfl rfl rfl (zad (.inr rfl) (ev1 rfl)) ?_
  refine za rfl rfl rfl (zad (.inr rfl) (ev1 rfl)) ?_
  refine zae ?_
  refine zaf ?_
  refine zaf ?_
  refine zac ?_
  refine za rfl rfl rfl (zad (.inl rfl) (ev1 rfl)) ?_
  refine za rfl rfl rfl (op_len rfl sl30 (ev1 rfl)) ?_
  refine za rfl rfl rfl (op_gtr rfl (ev1 rfl) (ev1 rfl)) ?_
  refine zae ?_
  refine dwp_if_f rfl (decide_eq_false (by omega)) ?_
  refine zam ?_
  refine zaf ?_
  refine zai 1 (by simp only [holes, List.cons_append, List.nil_append]; exact rfl) ?_
  refine zac ?_
  refine za rfl rfl rfl (zad (.inl rfl) (ev1 rfl)) ?_
  refine za rfl rfl rfl (zag [] [] [] rfl (ev1 rfl) (ec (ev1 rfl) en) rfl rfl (cloneB_f _ (by omega)) rfl rfl rfl rfl rfl rfl) ?_
  refine za rfl rfl rfl (op_bld1 rfl fl155 zr155 (ev1 rfl) rfl) ?_
  refine za rfl rfl rfl (op_bldA rfl (ev1 rfl) fl157 zr157 rfl) ?_
  refine zak rfl rfl rfl (op_boxam 0 rfl (ev1 rfl) rfl) (by simp only [upd, zaa, zab]; exact rfl) ?_
  refine za rfl rfl rfl (zad (.inr rfl) (ev1 rfl)) ?_
  refine za rfl rfl rfl (zad (.inr rfl) (ev1 rfl)) ?_
  refine zae ?_
  refine zan ?_
  refine kend [0] (rs2 rfl (rv_t rfl) (rv_t rfl)) rfl rfl ?_ ⟨rfl, trivial⟩
  rfl
set_option maxRecDepth 4000 in
set_option maxHeartbeats 1000000 in
theorem utry1_idle (l : List Int) (e : Int) : DDef Tryz.prog 150 [.loc 0 0] [.mix 131 [.loc 1 0], .mix 157 [.slf 1 (l).length ((l).flatMap uc8), .val (.int .i64 e)]] none none [.mix 131 [.loc 1 0], .mix 157 [.slf 1 (l).length ((l).flatMap uc8), .val (.int .i64 0)]] := by
  refine ddef_any (dr := .tup []) (t := 2) (N := 7) 2 1 [[0, 1, 2, 3, 4, 5, 6], [1, 0, 2, 3, 4, 5, 6], [1, 2, 0, 3, 4, 5, 6]] mixed (by kernel_rfl) Tryz.func150 rfl rfl rfl (by simp only [fr0, Nat.zero_add, Nat.reduceAdd]; exact rfl) rfl rfl (by kernel_rfl) rfl rfl rfl rfl fun s0 hs0 L hL => ?_
  simp only [List.mem_cons, List.not_mem_nil, or_false] at hL
  rcases hL with rfl | rfl | rfl
  · refine ⟨[0], [2, 3, 4, 5, 6], rfl, ?_⟩
    refine za rfl rfl rfl (op_ldm rfl tb131 (ev1 rfl) rfl rfl) ?_
    refine zae ?_
    refine za rfl rfl rfl (zag [] [] [] rfl (ev1 rfl) (ec (ev1 rfl) en) rfl rfl (utold_no) rfl rfl rfl rfl rfl rfl) ?_
    refine za rfl rfl rfl (op_nc rfl (ev1 rfl) (fun s v h => by cases h; exact ⟨_, rfl⟩)) ?_
    refine za rfl rfl rfl (zal rfl fo157_0 (ev1 rfl)) ?_
    refine za rfl rfl rfl (zal rfl fo155_1 (ev1 rfl)) ?_
    refine walk_s rfl rfl (op_stm rfl tb31 (ev1 rfl) (ev1 rfl) (fun s v h => by cases h <;> exact ⟨rfl, rfl⟩) rfl (by first | decide | exact Nat.le_of_ble_eq_true rfl | simp)) (by simp only [upd, zaa, zab]; exact rfl) ?_
    refine zae ?_
    refine kend [0, 1] (res_none rfl) rfl rfl ?_ ⟨rfl, rfl, trivial⟩
    rfl
  · refine ⟨[], [0, 2, 3, 4, 5, 6], rfl, ?_⟩
    refine zae ?_
    refine za rfl rfl rfl (op_ldm rfl tb131 (ev1 rfl) rfl rfl) ?_
    refine za rfl rfl rfl (zag [] [] [] rfl (ev1 rfl) (ec (ev1 rfl) en) rfl rfl (utold_no) rfl rfl rfl rfl rfl rfl) ?_
    refine za rfl rfl rfl (op_nc rfl (ev1 rfl) (fun s v h => by cases h; exact ⟨_, rfl⟩)) ?_
    refine za rfl rfl rfl (zal rfl fo157_0 (ev1 rfl)) ?_
    refine za rfl rfl rfl (zal rfl fo155_1 (ev1 rfl)) ?_
    refine walk_s rfl rfl (op_stm rfl tb31 (ev1 rfl) (ev1 rfl) (fun s v h => by cases h <;> exact ⟨rfl, rfl⟩) rfl (by first | decide | exact Nat.le_of_ble_eq_true rfl | simp)) (by simp only [upd, zaa, zab]; exact rfl) ?_
    refine zae ?_
    refine kend [0, 1] (res_none rfl) rfl rfl ?_ ⟨rfl, rfl, trivial⟩
    rfl
  · refine ⟨[], [2, 0, 3, 4, 5, 6], rfl, ?_⟩
    refine zae ?_
    refine za rfl rfl rfl (zag [] [] [] rfl (ev1 rfl) (ec (ev1 rfl) en) rfl rfl (utold_no) rfl rfl rfl rfl rfl rfl) ?_
    refine za rfl rfl rfl (op_ldm rfl tb131 (ev1 rfl) rfl rfl) ?_
    refine za rfl rfl rfl (op_nc rfl (ev1 rfl) (fun s v h => by cases h; exact ⟨_, rfl⟩)) ?_
    refine za rfl rfl rfl (zal rfl fo157_0 (ev1 rfl)) ?_
    refine za rfl rfl rfl (zal rfl fo155_1 (ev1 rfl)) ?_
    refine walk_s rfl rfl (op_stm rfl tb31 (ev1 rfl) (ev1 rfl) (fun s v h => by cases h <;> exact ⟨rfl, rfl⟩) rfl (by first | decide | exact Nat.le_of_ble_eq_true rfl | simp)) (by simp only [upd, zaa, zab]; exact rfl) ?_
    refine zae ?_
    refine kend [0, 1] (res_none rfl) rfl rfl ?_ ⟨rfl, rfl, trivial⟩
    rfl
set_option maxRecDepth 4000 in
set_option maxHeartbeats 1000000 in
theorem utry1_caught (l : List Int) (e n : Int) : DDef Tryz.prog 150 [.loc 0 0] [.mix 131 [.loc 1 0], .mix 157 [.slf 1 (l).length ((l).flatMap uc8), .val (.int .i64 e)]] (some (.ifc 161 (.val (.agg #[.int .i64 n])))) none [.mix 131 [.loc 1 0], .mix 157 [.slf 1 (l).length ((l).flatMap uc8), .val (.int .i64 n)]] := by
  refine ddef_any (dr := .tup []) (t := 2) (N := 7) 2 1 [[0, 1, 2, 3, 4, 5, 6], [1, 0, 2, 3, 4, 5, 6], [1, 2, 0, 3, 4, 5, 6]] mixed (by kernel_rfl) Tryz.func150 rfl rfl rfl (by simp only [fr0, Nat.zero_add, Nat.reduceAdd]; exact rfl) rfl rfl (by kernel_rfl) rfl rfl rfl rfl fun s0 hs0 L hL => ?_
  simp only [List.mem_cons, List.not_mem_nil, or_false] at hL
  rcases hL with rfl | rfl | rfl
  · refine ⟨[0], [2, 3, 4, 5, 6], rfl, ?_⟩
    refine za rfl rfl rfl (op_ldm rfl tb131 (ev1 rfl) rfl rfl) ?_
    refine zae ?_
    refine za rfl rfl rfl (zag [] [] [] rfl (ev1 rfl) (ec (ev1 rfl) en) rfl rfl (utold_w n) rfl rfl rfl rfl rfl rfl) ?_
    refine za rfl rfl rfl (op_nc rfl (ev1 rfl) (fun s v h => by cases h; exact ⟨_, rfl⟩)) ?_
    refine za rfl rfl rfl (zal rfl fo157_0 (ev1 rfl)) ?_
    refine za rfl rfl rfl (zal rfl fo155_1 (ev1 rfl)) ?_
    refine walk_s rfl rfl (op_stm rfl tb31 (ev1 rfl) (ev1 rfl) (fun s v h => by cases h <;> exact ⟨rfl, rfl⟩) rfl (by first | decide | exact Nat.le_of_ble_eq_true rfl | simp)) (by simp only [upd, zaa, zab]; exact rfl) ?_
    refine zae ?_
    refine kend [0, 1] (res_none rfl) rfl rfl ?_ ⟨rfl, rfl, trivial⟩
    rfl
  · refine ⟨[], [0, 2, 3, 4, 5, 6], rfl, ?_⟩
    refine zae ?_
    refine za rfl rfl rfl (op_ldm rfl tb131 (ev1 rfl) rfl rfl) ?_
    refine za rfl rfl rfl (zag [] [] [] rfl (ev1 rfl) (ec (ev1 rfl) en) rfl rfl (utold_w n) rfl rfl rfl rfl rfl rfl) ?_
    refine za rfl rfl rfl (op_nc rfl (ev1 rfl) (fun s v h => by cases h; exact ⟨_, rfl⟩)) ?_
    refine za rfl rfl rfl (zal rfl fo157_0 (ev1 rfl)) ?_
    refine za rfl rfl rfl (zal rfl fo155_1 (ev1 rfl)) ?_
    refine walk_s rfl rfl (op_stm rfl tb31 (ev1 rfl) (ev1 rfl) (fun s v h => by cases h <;> exact ⟨rfl, rfl⟩) rfl (by first | decide | exact Nat.le_of_ble_eq_true rfl | simp)) (by simp only [upd, zaa, zab]; exact rfl) ?_
    refine zae ?_
    refine kend [0, 1] (res_none rfl) rfl rfl ?_ ⟨rfl, rfl, trivial⟩
    rfl
  · refine ⟨[], [2, 0, 3, 4, 5, 6], rfl, ?_⟩
    refine zae ?_
    refine za rfl rfl rfl (zag [] [] [] rfl (ev1 rfl) (ec (ev1 rfl) en) rfl rfl (utold_w n) rfl rfl rfl rfl rfl rfl) ?_
    refine za rfl rfl rfl (op_ldm rfl tb131 (ev1 rfl) rfl rfl) ?_
    refine za rfl rfl rfl (op_nc rfl (ev1 rfl) (fun s v h => by cases h; exact ⟨_, rfl⟩)) ?_
    refine za rfl rfl rfl (zal rfl fo157_0 (ev1 rfl)) ?_
    refine za rfl rfl rfl (zal rfl fo155_1 (ev1 rfl)) ?_
    refine walk_s rfl rfl (op_stm rfl tb31 (ev1 rfl) (ev1 rfl) (fun s v h => by cases h <;> exact ⟨rfl, rfl⟩) rfl (by first | decide | exact Nat.le_of_ble_eq_true rfl | simp)) (by simp only [upd, zaa, zab]; exact rfl) ?_
    refine zae ?_
    refine kend [0, 1] (res_none rfl) rfl rfl ?_ ⟨rfl, rfl, trivial⟩
    rfl
set_option maxRecDepth 4000 in
set_option maxHeartbeats 1000000 in
theorem unum1_d (L : List Int) (hL : L.length ≤ 2000000) (w : Nat) (hw : 1 ≤ w ∧ w ≤ 8) (h : w ≤ L.length) : DFun Tryz.prog 126 [.loc 0 0, .loc 1 0, .loc 2 0] [.flat 3 [.int .i64 (w : Int)], .mix 131 [.loc 3 0], .flat 23 [.int .u64 0], .mix 157 [.slf 1 (L).length ((L).flatMap uc8), .val (.int .i64 0)]] (.tup []) [.flat 3 [.int .i64 (w : Int)], .mix 131 [.loc 3 0], .flat 23 [.int .u64 (numN w L)], .mix 157 [.slf 1 (L.drop w).length ((L.drop w).flatMap uc8), .val (.int .i64 0)]] := by
  refine zaj (N := 11) 4 (by kernel_rfl) Tryz.func126 rfl rfl rfl (by simp only [fr0, Nat.zero_add, Nat.reduceAdd]; exact rfl) rfl fun s0 hs0 => ?_
  refine zaf ?_
  refine zac ?_
  refine za rfl rfl rfl (op_ldo rfl tb3 (ev1 rfl) rfl rfl) ?_
  refine za rfl rfl rfl (op_bs (ps := [(0, .tmp 3)]) rfl sl87 zr3 rfl (vc (ev1 rfl) vn) rfl (by decide) (by decide)) ?_
  refine za rfl rfl rfl (zag [] [] [] rfl (ev1 rfl) (ec (ev1 rfl) en) rfl rfl (uneed_ok [(w : Int)] (by simp [isW_iff]; omega)) rfl rfl rfl rfl rfl rfl) ?_
  refine zae ?_
  refine dwp_draw [([1], []), ([], []), ([], []), ([0], []), ([3], [3]), ([2], [2])] mixed (by kernel_rfl) ?_
  refine lex_r rfl rfl (op_ldm rfl tb131 (ev1 rfl) rfl rfl) ?_
  refine lex_r rfl rfl (op_nc rfl (ev1 rfl) (fun s v h => by cases h; exact ⟨_, rfl⟩)) ?_
  refine lex_r rfl rfl (zal rfl fo157_0 (ev1 rfl)) ?_
  refine lex_r rfl rfl (op_ldo rfl tb3 (ev1 rfl) rfl rfl) ?_
  refine lex_w rfl rfl (zag [3] [] [] rfl (ev1 rfl) (ec (ev1 rfl) (ec (ev1 rfl) en)) rfl rfl (unumber_d _ L (by omega) 0 w h) rfl rfl rfl rfl rfl rfl) rfl (by simp only [upd, zaa, zab]; exact rfl) ?_
  refine lex_s rfl rfl (op_stwi rfl tb23 (ev1 rfl) (ev1 rfl) rfl) rfl (by simp only [upd, zaa, zab]; exact rfl) ?_
  refine lex_nil ?_
  refine kend [0, 1, 2, 3] (res_none rfl) rfl rfl ?_ ⟨rfl, rfl, rfl, rfl, trivial⟩
  rfl
set_option maxRecDepth 4000 in
set_option maxHeartbeats 1000000 in
theorem unum1_no (L : List Int) (w : Nat) (hw : 1 ≤ w ∧ w ≤ 8) (h : L.length < w) : DPan Tryz.prog 126 [.loc 0 0, .loc 1 0, .loc 2 0] [.flat 3 [.int .i64 (w : Int)], .mix 131 [.loc 3 0], .flat 23 [.int .u64 0], .mix 157 [.slf 1 (L).length ((L).flatMap uc8), .val (.int .i64 0)]] (.ifc 161 (.val (.agg #[.int .i64 110]))) [.flat 3 [.int .i64 (w : Int)], .mix 131 [.loc 3 0], .flat 23 [.int .u64 0], .mix 157 [.slf 1 (L).length ((L).flatMap uc8), .val (.int .i64 0)]] := by
  refine zaj (N := 11) 4 (by kernel_rfl) Tryz.func126 rfl rfl rfl (by simp only [fr0, Nat.zero_add, Nat.reduceAdd]; exact rfl) rfl fun s0 hs0 => ?_
  refine zaf ?_
  refine zac ?_
  refine za rfl rfl rfl (op_ldo rfl tb3 (ev1 rfl) rfl rfl) ?_
  refine za rfl rfl rfl (op_bs (ps := [(0, .tmp 3)]) rfl sl87 zr3 rfl (vc (ev1 rfl) vn) rfl (by decide) (by decide)) ?_
  refine za rfl rfl rfl (zag [] [] [] rfl (ev1 rfl) (ec (ev1 rfl) en) rfl rfl (uneed_ok [(w : Int)] (by simp [isW_iff]; omega)) rfl rfl rfl rfl rfl rfl) ?_
  refine zae ?_
  refine dwp_drawP 4 [([1], []), ([], []), ([], []), ([0], [])] mixed (by kernel_rfl) rfl rfl ?_
  refine lex_r rfl rfl (op_ldm rfl tb131 (ev1 rfl) rfl rfl) ?_
  refine lex_r rfl rfl (op_nc rfl (ev1 rfl) (fun s v h => by cases h; exact ⟨_, rfl⟩)) ?_
  refine lex_r rfl rfl (zal rfl fo157_0 (ev1 rfl)) ?_
  refine lex_r rfl rfl (op_ldo rfl tb3 (ev1 rfl) rfl rfl) ?_
  refine lex_nil ⟨_, _, _, rfl, dop_callP [3] [] [] rfl (ev1 rfl) (ec (ev1 rfl) (ec (ev1 rfl) en)) rfl rfl (unumber_no _ L 0 w h) rfl rfl rfl rfl rfl rfl, ?_⟩
  refine kpan [0, 1, 2, 3] rfl rfl ?_ ⟨rfl, rfl, rfl, rfl, trivial⟩
  rfl
set_option maxRecDepth 4000 in
set_option maxHeartbeats 1000000 in
theorem utryN_ok (L : List Int) (hL : L.length ≤ 2000000) (w : Nat) (hw : 1 ≤ w ∧ w ≤ 8) (h : w ≤ L.length) : DFun Tryz.prog 125 [.loc 0 0, .fn (.func 126) [] [.loc 1 0, .loc 2 0, .loc 3 0]] [.mix 157 [.slf 1 (L).length ((L).flatMap uc8), .val (.int .i64 0)], .flat 3 [.int .i64 (w : Int)], .mix 131 [.loc 0 0], .flat 23 [.int .u64 0]] (.tup []) [.mix 157 [.slf 1 (L.drop w).length ((L.drop w).flatMap uc8), .val (.int .i64 0)], .flat 3 [.int .i64 (w : Int)], .mix 131 [.loc 0 0], .flat 23 [.int .u64 (numN w L)]] := by
  refine dcalls_body (N := 17) 4 (by kernel_rfl) Tryz.func125 rfl rfl rfl (by simp only [fr0, Nat.zero_add, Nat.reduceAdd]; exact rfl) rfl fun s0 hs0 => ?_
  refine dbody_seq rfl hs0 ?_
  refine zai 1 (by simp only [holes, List.cons_append, List.nil_append]; exact rfl) ?_
  refine zac ?_
  refine zak rfl rfl rfl (op_boxm 4 rfl (ev1 rfl) (fun s v h => by cases h <;> rfl) rfl) (by simp only [upd, zaa, zab]; exact rfl) ?_
  refine zae ?_
  refine dbody_seq rfl hs0 ?_
  refine zaf ?_
  refine zac ?_
  refine za rfl rfl rfl (op_ldm rfl tb131 (ev1 rfl) rfl rfl) ?_
  refine za rfl rfl rfl (op_pnil rfl pt131 (ev1 rfl)) ?_
  refine za rfl rfl rfl (zad (.inl rfl) (ev1 rfl)) ?_
  refine zah (gd_f rfl rfl rfl) rfl rfl rfl (op_ldm rfl tb131 (ev1 rfl) rfl rfl) ?_
  refine zah (gd_f rfl rfl rfl) rfl rfl rfl (op_nc rfl (ev2 rfl) (fun s v h => by cases h; exact ⟨_, rfl⟩)) ?_
  refine zah (gd_f rfl rfl rfl) rfl rfl rfl (zal rfl fo157_0 (ev2 rfl)) ?_
  refine zah (gd_f rfl rfl rfl) rfl rfl rfl (zal rfl fo155_1 (ev2 rfl)) ?_
  refine zah (gd_f rfl rfl rfl) rfl rfl rfl (op_ldm rfl tb31 (ev2 rfl) rfl rfl) ?_
  refine zah (gd_f rfl rfl rfl) rfl rfl rfl (op_neq rfl (ev2 rfl) (ev1 rfl)) ?_
  refine za rfl rfl rfl (op_or rfl (ev1 rfl) (ev3 rfl id)) ?_
  refine zae ?_
  refine dwp_if_f rfl (rfl) ?_
  refine zam ?_
  refine dbody_defer (l0 := [_]) rfl rfl rfl rfl rfl hs0 ?_
  refine za rfl rfl rfl (op_mkf rfl en (ec (ev1 rfl) en)) ?_
  refine zae ⟨_, _, _, 5, ev1 rfl, Nat.le_trans hs0 (by decide), rfl, ?_⟩
  have hs1 : s0.M.length ≤ 5 := Nat.le_trans hs0 (by decide)
  refine dbody_end rfl hs0 ?_
  refine zac ?_
  refine za rfl rfl rfl (zad (.inl rfl) (ev1 rfl)) ?_
  refine zak rfl rfl rfl (zag [1, 2, 3, 0] [] [] rfl (ev1 rfl) en rfl rfl (unum1_d L hL w hw h) rfl rfl rfl rfl rfl rfl) (by simp only [upd, zaa, zab]; exact rfl) ?_
  refine zae ?_
  refine kdef (dturn_idle [4, 0] [] rfl rfl (utry1_idle _ _) rfl rfl rfl rfl rfl) ?_
  refine kend [0, 1, 2, 3] (res_none rfl) rfl rfl ?_ ⟨rfl, rfl, rfl, rfl, trivial⟩
  rfl
set_option maxRecDepth 4000 in
set_option maxHeartbeats 1000000 in
theorem utryN_no (L : List Int) (w : Nat) (hw : 1 ≤ w ∧ w ≤ 8) (h : L.length < w) : DFun Tryz.prog 125 [.loc 0 0, .fn (.func 126) [] [.loc 1 0, .loc 2 0, .loc 3 0]] [.mix 157 [.slf 1 (L).length ((L).flatMap uc8), .val (.int .i64 0)], .flat 3 [.int .i64 (w : Int)], .mix 131 [.loc 0 0], .flat 23 [.int .u64 0]] (.tup []) [.mix 157 [.slf 1 (L).length ((L).flatMap uc8), .val (.int .i64 110)], .flat 3 [.int .i64 (w : Int)], .mix 131 [.loc 0 0], .flat 23 [.int .u64 0]] := by
  refine dcalls_body (N := 17) 4 (by kernel_rfl) Tryz.func125 rfl rfl rfl (by simp only [fr0, Nat.zero_add, Nat.reduceAdd]; exact rfl) rfl fun s0 hs0 => ?_
  refine dbody_seq rfl hs0 ?_
  refine zai 1 (by simp only [holes, List.cons_append, List.nil_append]; exact rfl) ?_
  refine zac ?_
  refine zak rfl rfl rfl (op_boxm 4 rfl (ev1 rfl) (fun s v h => by cases h <;> rfl) rfl) (by simp only [upd, zaa, zab]; exact rfl) ?_
  refine zae ?_
  refine dbody_seq rfl hs0 ?_
  refine zaf ?_
  refine zac ?_
  refine za rfl rfl rfl (op_ldm rfl tb131 (ev1 rfl) rfl rfl) ?_
  refine za rfl rfl rfl (op_pnil rfl pt131 (ev1 rfl)) ?_
  refine za rfl rfl rfl (zad (.inl rfl) (ev1 rfl)) ?_
  refine zah (gd_f rfl rfl rfl) rfl rfl rfl (op_ldm rfl tb131 (ev1 rfl) rfl rfl) ?_
  refine zah (gd_f rfl rfl rfl) rfl rfl rfl (op_nc rfl (ev2 rfl) (fun s v h => by cases h; exact ⟨_, rfl⟩)) ?_
  refine zah (gd_f rfl rfl rfl) rfl rfl rfl (zal rfl fo157_0 (ev2 rfl)) ?_
  refine zah (gd_f rfl rfl rfl) rfl rfl rfl (zal rfl fo155_1 (ev2 rfl)) ?_
  refine zah (gd_f rfl rfl rfl) rfl rfl rfl (op_ldm rfl tb31 (ev2 rfl) rfl rfl) ?_
  refine zah (gd_f rfl rfl rfl) rfl rfl rfl (op_neq rfl (ev2 rfl) (ev1 rfl)) ?_
  refine za rfl rfl rfl (op_or rfl (ev1 rfl) (ev3 rfl id)) ?_
  refine zae ?_
  refine dwp_if_f rfl (rfl) ?_
  refine zam ?_
  refine dbody_defer (l0 := [_]) rfl rfl rfl rfl rfl hs0 ?_
  refine za rfl rfl rfl (op_mkf rfl en (ec (ev1 rfl) en)) ?_
  refine zae ⟨_, _, _, 5, ev1 rfl, Nat.le_trans hs0 (by decide), rfl, ?_⟩
  have hs1 : s0.M.length ≤ 5 := Nat.le_trans hs0 (by decide)
  refine dbody_end rfl hs0 ?_
  refine zac ?_
  refine za rfl rfl rfl (zad (.inl rfl) (ev1 rfl)) ?_
  refine walk_p rfl (dop_callP [1, 2, 3, 0] [] [] rfl (ev1 rfl) en rfl rfl (unum1_no L w hw h) rfl rfl rfl rfl rfl rfl) rfl ?_
  refine kdef (dturn_caught [4, 0] [] rfl rfl rfl (utry1_caught _ _ _) rfl rfl rfl rfl rfl) ?_
  refine kend [0, 1, 2, 3] (res_none rfl) rfl rfl ?_ ⟨rfl, rfl, rfl, rfl, trivial⟩
  rfl
set_option maxRecDepth 4000 in
set_option maxHeartbeats 1000000 in
theorem urnum_d (L : List Int) (hL : L.length ≤ 2000000) (w : Nat) (hw : 1 ≤ w ∧ w ≤ 8) (h : w ≤ L.length) : DFun Tryz.prog 82 [.loc 0 0, .val (.int .i64 (w : Int))] [.mix 157 [.slf 1 (L).length ((L).flatMap uc8), .val (.int .i64 0)]] (.val (.int .u64 (numN w L))) [.mix 157 [.slf 1 (L.drop w).length ((L.drop w).flatMap uc8), .val (.int .i64 0)]] := by
  refine zaj (N := 9) 1 (by kernel_rfl) Tryz.func82 rfl rfl rfl (by simp only [fr0, Nat.zero_add, Nat.reduceAdd]; exact rfl) rfl fun s0 hs0 => ?_
  refine zaf ?_
  refine zai 3 (by simp only [holes, List.cons_append, List.nil_append]; exact rfl) ?_
  refine zac ?_
  refine zak rfl rfl rfl (op_boxm 1 rfl (ev1 rfl) (fun s v h => by cases h <;> rfl) rfl) (by simp only [upd, zaa, zab]; exact rfl) ?_
  refine zak rfl rfl rfl (op_boxi 2 rfl (ev1 rfl) rfl) (by simp only [upd, zaa, zab]; exact rfl) ?_
  refine zak rfl rfl rfl (op_alloc 3 rfl zr23 rfl) (by simp only [upd, zaa, zab]; exact rfl) ?_
  refine zae ?_
  refine zaf ?_
  refine zac ?_
  refine za rfl rfl rfl (op_ldm rfl tb131 (ev1 rfl) rfl rfl) ?_
  refine za rfl rfl rfl (op_mkf rfl en (ec (ev1 rfl) (ec (ev1 rfl) (ec (ev1 rfl) en)))) ?_
  refine zak rfl rfl rfl (zag [0, 2, 1, 3] [] [] rfl (ev1 rfl) (ec (ev1 rfl) (ec (ev1 rfl) en)) rfl rfl (utryN_ok L hL w hw h) rfl rfl rfl rfl rfl rfl) (by simp only [upd, zaa, zab]; exact rfl) ?_
  refine zae ?_
  refine zaf ?_
  refine zac ?_
  refine za rfl rfl rfl (op_ldo rfl tb23 (ev1 rfl) rfl rfl) ?_
  refine walk_s rfl rfl (op_stwi rfl tb23 (ev1 rfl) (ev1 rfl) rfl) (by simp only [upd, zaa, zab]; exact rfl) ?_
  refine zae ?_
  refine zan ?_
  refine kend [0] (rs1 rfl (rv_1 tb23 rfl rfl rfl)) rfl rfl ?_ ⟨rfl, trivial⟩
  rfl
set_option maxRecDepth 4000 in
set_option maxHeartbeats 1000000 in
theorem urnum_no (L : List Int) (w : Nat) (hw : 1 ≤ w ∧ w ≤ 8) (h : L.length < w) : DFun Tryz.prog 82 [.loc 0 0, .val (.int .i64 (w : Int))] [.mix 157 [.slf 1 (L).length ((L).flatMap uc8), .val (.int .i64 0)]] (.val (.int .u64 0)) [.mix 157 [.slf 1 (L).length ((L).flatMap uc8), .val (.int .i64 110)]] := by
  refine zaj (N := 9) 1 (by kernel_rfl) Tryz.func82 rfl rfl rfl (by simp only [fr0, Nat.zero_add, Nat.reduceAdd]; exact rfl) rfl fun s0 hs0 => ?_
  refine zaf ?_
  refine zai 3 (by simp only [holes, List.cons_append, List.nil_append]; exact rfl) ?_
  refine zac ?_
  refine zak rfl rfl rfl (op_boxm 1 rfl (ev1 rfl) (fun s v h => by cases h <;> rfl) rfl) (by simp only [upd, zaa, zab]; exact rfl) ?_
  refine zak rfl rfl rfl (op_boxi 2 rfl (ev1 rfl) rfl) (by simp only [upd, zaa, zab]; exact rfl) ?_
  refine zak rfl rfl rfl (op_alloc 3 rfl zr23 rfl) (by simp only [upd, zaa, zab]; exact rfl) ?_
  refine zae ?_
  refine zaf ?_
  refine zac ?_
  refine za rfl rfl rfl (op_ldm rfl tb131 (ev1 rfl) rfl rfl) ?_
  refine za rfl rfl rfl (op_mkf rfl en (ec (ev1 rfl) (ec (ev1 rfl) (ec (ev1 rfl) en)))) ?_
  refine zak rfl rfl rfl (zag [0, 2, 1, 3] [] [] rfl (ev1 rfl) (ec (ev1 rfl) (ec (ev1 rfl) en)) rfl rfl (utryN_no L w hw h) rfl rfl rfl rfl rfl rfl) (by simp only [upd, zaa, zab]; exact rfl) ?_
  refine zae ?_
  refine zaf ?_
  refine zac ?_
  refine za rfl rfl rfl (op_ldo rfl tb23 (ev1 rfl) rfl rfl) ?_
  refine walk_s rfl rfl (op_stwi rfl tb23 (ev1 rfl) (ev1 rfl) rfl) (by simp only [upd, zaa, zab]; exact rfl) ?_
  refine zae ?_
  refine zan ?_
  refine kend [0] (rs1 rfl (rv_1 tb23 rfl rfl rfl)) rfl rfl ?_ ⟨rfl, trivial⟩
  rfl
end Go.Proofs.YtmacjicebemgoaaGreat
namespace Go.Proofs.YtmacjicebemgoaaGreat
set_option linter.unusedVariables false
set_option linter.unusedSimpArgs false
open Go.RowKit
set_option maxRecDepth 4000 in
set_option maxHeartbeats 1000000 in
theorem ubehR_o (a b : List Int) (h : a.length + b.length ≤ 100000) : DFun Tryz.prog 34 [.slf 1 (a).length ((a).flatMap uc8), .slf 1 (b).length ((b).flatMap uc8)] [] (.arr 0) [.arr 5 1 (a ++ b).length ((a ++ b).flatMap uc8)] := by
  refine zaj (N := 10) 0 (by kernel_rfl) Tryz.func34 rfl rfl rfl (by simp only [fr0, Nat.zero_add, Nat.reduceAdd]; exact rfl) rfl fun s0 hs0 => ?_
  refine dwp_len (t := 0) rfl fun hl0 hL0 => ?_
  refine dwp_len (t := 1) rfl fun hl1 hL1 => ?_
  refine zaf ?_
  refine zac ?_
  refine za rfl rfl rfl (zad (.inr rfl) (ev1 rfl)) ?_
  refine zae ?_
  refine zaf ?_
  refine zai 3 (by simp only [holes, List.cons_append, List.nil_append]; exact rfl) ?_
  refine zac ?_
  refine zak rfl rfl rfl (op_bsa (ps := []) 0 rfl sl30 zr5 rfl vn rfl (by decide) (by decide) rfl) (by simp only [upd, zaa, zab]; exact rfl) ?_
  refine za rfl rfl rfl (zad (.inl rfl) (ev1 rfl)) ?_
  refine zak rfl rfl rfl (op_app (j := 1) rfl sl30 zr5 rfl (ev1 rfl) (ev1 rfl) src_slf rfl rfl (fun _ => flat_oc (fun _ => rfl) _) (fun _ => ⟨by omega, by omega⟩)) (by simp only [upd, zaa, zab]; exact rfl) ?_
  refine za rfl rfl rfl (zad (.inl rfl) (ev1 rfl)) ?_
  refine zak rfl rfl rfl (op_app (j := 2) rfl sl30 zr5 rfl (ev1 rfl) (ev1 rfl) src_slf rfl rfl (fun _ => flat_oc (fun _ => rfl) _) (fun _ => ⟨by omega, by omega⟩)) (by simp only [upd, zaa, zab]; exact rfl) ?_
  refine za rfl rfl rfl (zad (.inr rfl) (ev1 rfl)) ?_
  refine zae ?_
  refine zan ?_
  refine kend [2] (rs1 rfl (rv_t rfl)) rfl rfl ?_ ⟨?_, trivial⟩
  rfl
  exact arr_eq (by simp) (by simp)
set_option maxRecDepth 4000 in
set_option maxHeartbeats 1000000 in
theorem ulayR_o (w : Nat) (n : Int) (hn : 0 ≤ n ∧ n ≤ 18446744073709551615) (hw : w ≤ 8) : DFun Tryz.prog 35 [.val (.int .i64 (w : Int)), .val (.int .u64 n)] [] (.arr 0) [.arr 5 1 (layR n w).length ((layR n w).flatMap uc8)] := by
  refine zaj (N := 19) 0 (by kernel_rfl) Tryz.func35 rfl rfl rfl (by simp only [fr0, Nat.zero_add, Nat.reduceAdd]; exact rfl) rfl fun s0 hs0 => ?_
  refine zaf ?_
  refine zac ?_
  refine za rfl rfl rfl (zad (.inr rfl) (ev1 rfl)) ?_
  refine zae ?_
  refine zaf ?_
  refine zac ?_
  refine za rfl rfl rfl (zad (.inr rfl) (ev1 rfl)) ?_
  refine zae ?_
  refine zaf ?_
  refine zaf ?_
  refine zac ?_
  refine za rfl rfl rfl (zad (.inl rfl) (ev1 rfl)) ?_
  refine za rfl rfl rfl (zad (.inl rfl) (ev1 rfl)) ?_
  refine zae ?_
  refine dwp_block ?_
  refine dwp_adopt 5 5 1 rfl rfl rfl ?_
  refine dwp_loopS ⟨hs0, rfl⟩ (α := Nat) (fun k => [(1, .val (.int .u64 (n / 256 ^ k))), (7, .val (.int .i64 (k : Int)))]) [(5, _), (6, _)] (fun k => [(0, .arr 5 1 (layR n k).length ((layR n k).flatMap uc8))]) [.hole] (fun k => k ≤ w) (fun k => w - k) 0 [0] (by simp) rfl ⟨rfl, rfl, trivial⟩ ⟨congrArg (fun z => some (D.val (Value.int .u64 z))) (by simp), rfl, trivial⟩ ⟨rfl, trivial⟩ ?_
  intro k hx
  simp only [upd, zaa, zab, List.cons_append, List.nil_append]
  have hk := hx
  have hq := div_bd hn.1 k
  have hll := layR_len n k
  refine zaf ?_
  refine zac ?_
  refine za rfl rfl rfl (op_lss rfl (ev1 rfl) (ev1 rfl)) ?_
  refine zae ?_
  refine zaf ?_
  refine dwp_cond rfl (fun c1 => ?_) (fun c1 => ?_)
  · try simp only [decide_eq_true_eq, decide_eq_false_iff_not, beq_iff_eq, bne_iff_ne, beq_eq_false_iff_ne, bne_eq_false_iff_eq, Bool.not_eq_true', Bool.not_eq_false', Bool.and_eq_true, Bool.or_eq_true, Bool.or_eq_false_iff, ne_eq, Decidable.not_not, Int.not_lt, Int.not_le] at c1
    refine zam ?_
    refine zaf ?_
    refine dwp_block ?_
    refine zaf ?_
    refine zai 2 (by simp only [holes, List.cons_append, List.nil_append]; exact rfl) ?_
    refine zac ?_
    refine za rfl rfl rfl (zad (.inl rfl) (ev1 rfl)) ?_
    refine za rfl rfl rfl (op_rem' rfl (ev1 rfl) (ev1 rfl) (fun _ => ⟨by omega, by omega⟩)) ?_
    refine za rfl rfl rfl (op_conv ty23 kn5 rfl (ev1 rfl)) ?_
    refine zak rfl rfl rfl (op_bsa (ps := [(0, .tmp 11)]) 1 rfl sl30 zr5 rfl (vc (ev1 rfl) vn) rfl (by decide) (by decide) rfl) (by simp only [upd, zaa, zab]; exact rfl) ?_
    refine za rfl rfl rfl (zad (.inl rfl) (ev1 rfl)) ?_
    refine zak rfl rfl rfl (op_app (j := 2) rfl sl30 zr5 rfl (ev1 rfl) (ev1 rfl) (src_arr rfl) rfl rfl (fun _ => flat_oc (fun _ => rfl) _) (fun _ => ⟨by omega, by omega⟩)) (by simp only [upd, zaa, zab]; exact rfl) ?_
    refine za rfl rfl rfl (zad (.inr rfl) (ev1 rfl)) ?_
    refine zae ?_
    refine zac ?_
    refine za rfl rfl rfl (zad (.inl rfl) (ev1 rfl)) ?_
    refine za rfl rfl rfl (op_quo' rfl (ev1 rfl) (ev1 rfl) (fun _ => ⟨by omega, by omega, IntWalk.u64_in _ (by omega)⟩)) ?_
    refine za rfl rfl rfl (zad (.inr rfl) (ev1 rfl)) ?_
    refine zae ?_
    refine zac ?_
    refine za rfl rfl rfl (op_add' rfl (ev1 rfl) (ev1 rfl) (fun _ => IntWalk.i64_in _ (by omega))) ?_
    refine za rfl rfl rfl (zad (.inl rfl) (ev1 rfl)) ?_
    refine zae ?_
    refine ⟨k + 1, [2], by omega, by simp only []; omega, rfl, ⟨congrArg (fun z => some (D.val (Value.int .u64 z))) (by rw [Int.pow_succ, Int.ediv_ediv_of_nonneg (Int.le_of_lt (Int.pow_pos (by decide)))]), rfl, rfl, rfl, trivial⟩, ⟨arr_eq (by simp [layR]; omega) (by simp [layR, Value.cells, uc8]), trivial⟩⟩
  · try simp only [decide_eq_true_eq, decide_eq_false_iff_not, beq_iff_eq, bne_iff_ne, beq_eq_false_iff_ne, bne_eq_false_iff_eq, Bool.not_eq_true', Bool.not_eq_false', Bool.and_eq_true, Bool.or_eq_true, Bool.or_eq_false_iff, ne_eq, Decidable.not_not, Int.not_lt, Int.not_le] at c1
    refine dwp_exit ?_
    refine zaf ?_
    refine zac ?_
    refine za rfl rfl rfl (zad (.inl rfl) (ev1 rfl)) ?_
    refine za rfl rfl rfl (zad (.inr rfl) (ev1 rfl)) ?_
    refine zae ?_
    refine zan ?_
    obtain rfl : k = w := by omega
    refine kend [0] (rs1 rfl (rv_t rfl)) rfl rfl ?_ ⟨rfl, trivial⟩
    rfl
end Go.Proofs.YtmacjicebemgoaaGreat
namespace Go.Proofs.YtmacjicebemgoaaGreat
set_option linter.unusedVariables false
set_option linter.unusedSimpArgs false
/-- what taking from bytes gives: a value and the rest, or an error -/
inductive Tk (α : Type) where
  | ok (a : α) (r : List Int)
  | err (e : Int)
def Tk.bind {α β : Type} (t : Tk α) (f : α → List Int → Tk β) : Tk β := match t with
  | .ok a r => f a r
  | .err e => .err e
abbrev Tkr (α : Type) := List Int → Tk α
def isB (l : List Int) : Prop := ∀ x ∈ l, 0 ≤ x ∧ x ≤ 255
theorem isB_app {a b : List Int} : isB (a ++ b) ↔ isB a ∧ isB b := by
  unfold isB
  constructor
  · intro h
    exact ⟨fun x hx => h x (List.mem_append_left _ hx), fun x hx => h x (List.mem_append_right _ hx)⟩
  · rintro ⟨h1, h2⟩ x hx
    rcases List.mem_append.1 hx with h | h
    · exact h1 x h
    · exact h2 x h
/-- a code: taking gives back what was laid, whatever stands behind; what was taken is what was laid; less of it is too short (error S) -/
structure Cd {α : Type} (S : Int) (ok : α → Prop) (lay : α → List Int) (tk : Tkr α) : Prop where
  fwd : ∀ a r, ok a → tk (lay a ++ r) = .ok a r
  bwd : ∀ b a r, isB b → tk b = .ok a r → b = lay a ++ r ∧ ok a
  sh : ∀ a k, ok a → k < (lay a).length → tk ((lay a).take k) = .err S
section
variable {α β : Type} {S : Int} {ok : α → Prop} {lay : α → List Int} {tk : Tkr α} {ok2 : β → Prop} {lay2 : β → List Int} {tk2 : Tkr β}
/-- one behind the other -/
theorem Cd.seq (c : Cd S ok lay tk) (d : Cd S ok2 lay2 tk2) : Cd S (fun p : α × β => ok p.1 ∧ ok2 p.2) (fun p => lay p.1 ++ lay2 p.2) (fun b => (tk b).bind fun a r => (tk2 r).bind fun x r => .ok (a, x) r) where
  fwd p r h := by
    rw [List.append_assoc, c.fwd _ _ h.1]
    show (tk2 _).bind _ = _
    rw [d.fwd _ _ h.2]
    rfl
  bwd b p r hb h := by
    cases h1 : tk b with
    | err e => rw [h1] at h; cases h
    | ok a r1 =>
      rw [h1] at h
      have h : (tk2 r1).bind (fun x r => Tk.ok (a, x) r) = .ok p r := h
      obtain ⟨e1, k1⟩ := c.bwd b a r1 hb h1
      cases h2 : tk2 r1 with
      | err e => rw [h2] at h; cases h
      | ok x r2 =>
        rw [h2] at h
        cases h
        obtain ⟨e2, k2⟩ := d.bwd r1 x r (by rw [e1] at hb; exact (isB_app.1 hb).2) h2
        exact ⟨by rw [e1, e2, List.append_assoc], k1, k2⟩
  sh p k h hk := by
    by_cases h1 : k < (lay p.1).length
    · rw [List.take_append_of_le_length (by omega), c.sh _ _ h.1 h1]
      rfl
    · rw [List.length_append] at hk
      rw [List.take_append, List.take_of_length_le (by omega), c.fwd _ _ h.1]
      show (tk2 _).bind _ = _
      rw [d.sh _ _ h.2 (by omega)]
      rfl
/-- the same, of what it stands for -/
theorem Cd.map (f : α → β) (g : β → α) (c : Cd S ok lay tk) (h1 : ∀ a, ok a → g (f a) = a ∧ ok2 (f a)) (h2 : ∀ x, ok2 x → ok (g x) ∧ f (g x) = x) : Cd S ok2 (fun x => lay (g x)) (fun b => (tk b).bind fun a r => .ok (f a) r) where
  fwd x r h := by
    rw [c.fwd _ _ (h2 x h).1]
    show Tk.ok (f (g x)) r = _
    rw [(h2 x h).2]
  bwd b x r hb h := by
    cases e : tk b with
    | err e' => rw [e] at h; cases h
    | ok a r1 =>
      rw [e] at h
      cases h
      obtain ⟨e1, k1⟩ := c.bwd b a r hb e
      exact ⟨by rw [(h1 a k1).1]; exact e1, (h1 a k1).2⟩
  sh x k h hk := by
    rw [c.sh _ _ (h2 x h).1 hk]
    rfl
/-- only those that may be: else the error C -/
theorem Cd.need (C : Int) (p : α → Bool) (c : Cd S ok lay tk) : Cd S (fun a => ok a ∧ p a = true) lay (fun b => (tk b).bind fun a r => if p a then .ok a r else .err C) where
  fwd a r h := by
    rw [c.fwd _ _ h.1]
    show (if p a = true then _ else _) = _
    rw [if_pos h.2]
  bwd b a r hb h := by
    cases e : tk b with
    | err e' => rw [e] at h; cases h
    | ok x r1 =>
      rw [e] at h
      have h : (if p x = true then Tk.ok x r1 else .err C) = .ok a r := h
      by_cases hp : p x = true
      · rw [if_pos hp] at h
        cases h
        obtain ⟨e1, k1⟩ := c.bwd b a r hb e
        exact ⟨e1, k1, hp⟩
      · rw [if_neg hp] at h
        cases h
  sh a k h hk := by
    rw [c.sh _ _ h.1 hk]
    rfl
/-- so many, one behind the other -/
def tkRep (tk : Tkr α) : Nat → Tkr (List α)
  | 0, b => .ok [] b
  | n + 1, b => (tk b).bind fun a r => (tkRep tk n r).bind fun l r => .ok (a :: l) r
theorem Cd.rep (c : Cd S ok lay tk) : ∀ n, Cd S (fun l : List α => l.length = n ∧ ∀ a ∈ l, ok a) (fun l => l.flatMap lay) (tkRep tk n)
  | 0 => {
      fwd := fun l r h => by
        cases l with
        | nil => rfl
        | cons a l => cases h.1
      bwd := fun b l r _ h => by
        cases h
        exact ⟨rfl, rfl, fun a h => by cases h⟩
      sh := fun l k h hk => by
        cases l with
        | nil => exact absurd hk (Nat.not_lt_zero _)
        | cons a l => cases h.1 }
  | n + 1 => {
      fwd := fun l r h => by
        cases l with
        | nil => cases h.1
        | cons a l =>
          have := (c.seq (c.rep n)).fwd (a, l) r ⟨h.2 a (List.mem_cons_self ..), by simpa using h.1, fun x hx => h.2 x (List.mem_cons_of_mem _ hx)⟩
          show (tk ((lay a ++ l.flatMap lay) ++ r)).bind _ = _
          cases e : tk ((lay a ++ l.flatMap lay) ++ r) with
          | err e' => simp only [e] at this; cases this
          | ok x r1 =>
            simp only [e, Tk.bind] at this ⊢
            cases e2 : tkRep tk n r1 with
            | err e' => rw [e2] at this; cases this
            | ok y r2 => rw [e2] at this; cases this; rfl
      bwd := fun b l r hb h => by
        have h : (tk b).bind (fun a r => (tkRep tk n r).bind fun l r => Tk.ok (a :: l) r) = .ok l r := h
        cases e : tk b with
        | err e' => rw [e] at h; cases h
        | ok a r1 =>
          rw [e] at h
          have h : (tkRep tk n r1).bind (fun l r => Tk.ok (a :: l) r) = .ok l r := h
          obtain ⟨e1, k1⟩ := c.bwd b a r1 hb e
          cases e2 : tkRep tk n r1 with
          | err e' => rw [e2] at h; cases h
          | ok y r2 =>
            rw [e2] at h
            cases h
            obtain ⟨e3, k3, k4⟩ := (c.rep n).bwd r1 y r (by rw [e1] at hb; exact (isB_app.1 hb).2) e2
            refine ⟨by rw [e1, e3, List.flatMap_cons, List.append_assoc], by simp [k3], fun x hx => ?_⟩
            rcases List.mem_cons.1 hx with rfl | hx
            · exact k1
            · exact k4 x hx
      sh := fun l k h hk => by
        cases l with
        | nil => cases h.1
        | cons a l =>
          have := (c.seq (c.rep n)).sh (a, l) k ⟨h.2 a (List.mem_cons_self ..), by simpa using h.1, fun x hx => h.2 x (List.mem_cons_of_mem _ hx)⟩ (by simpa using hk)
          show (tk ((lay a ++ l.flatMap lay).take k)).bind _ = _
          cases e : tk ((lay a ++ l.flatMap lay).take k) with
          | err e' => simp only [e, Tk.bind] at this ⊢; cases this; rfl
          | ok x r1 =>
            simp only [e, Tk.bind] at this ⊢
            cases e2 : tkRep tk n r1 with
            | err e' => rw [e2] at this; cases this; rfl
            | ok y r2 => rw [e2] at this; cases this }
end
end Go.Proofs.YtmacjicebemgoaaGreat
namespace Go.Proofs.YtmacjicebemgoaaGreat
set_option linter.unusedVariables false
set_option linter.unusedSimpArgs false
def layN : Nat → Nat → List Int
  | 0, _ => []
  | w + 1, n => ((n / 256 ^ w % 256 : Nat) : Int) :: layN w n
def valF (l : List Int) (acc : Nat) : Nat := l.foldl (fun a b => a * 256 + b.toNat) acc
theorem layN_len : ∀ w n, (layN w n).length = w
  | 0, _ => rfl
  | w + 1, n => by rw [layN, List.length_cons, layN_len]
theorem pow_pos' (w : Nat) : 0 < 256 ^ w := Nat.pow_pos (by decide)
theorem layN_mod : ∀ (w a v : Nat), layN w (a * 256 ^ w + v) = layN w v
  | 0, _, _ => rfl
  | w + 1, a, v => by
    have e : a * 256 ^ (w + 1) + v = (a * 256) * 256 ^ w + v := by rw [Nat.pow_succ, Nat.mul_assoc, Nat.mul_comm 256]
    rw [layN, layN, e, layN_mod w (a * 256) v]
    congr 2
    rw [Nat.mul_comm, Nat.mul_add_div (pow_pos' w)]
    omega
theorem valF_lay : ∀ (w n acc : Nat), valF (layN w n) acc = acc * 256 ^ w + n % 256 ^ w
  | 0, n, acc => by simp [layN, valF, Nat.mod_one]
  | w + 1, n, acc => by
    have h := valF_lay w n (acc * 256 + n / 256 ^ w % 256)
    unfold valF at h ⊢
    rw [layN, List.foldl_cons, Int.toNat_natCast, h, Nat.pow_succ, Nat.mod_mul, Nat.add_mul, Nat.mul_assoc, Nat.mul_comm 256, Nat.mul_comm (n / 256 ^ w % 256)]
    omega
theorem valF_acc : ∀ (l : List Int) (acc : Nat), valF l acc = acc * 256 ^ l.length + valF l 0
  | [], acc => by simp [valF]
  | x :: l, acc => by
    have h1 := valF_acc l (acc * 256 + x.toNat)
    have h2 := valF_acc l (0 * 256 + x.toNat)
    unfold valF at h1 h2 ⊢
    rw [List.foldl_cons, List.foldl_cons, h1, h2, List.length_cons, Nat.pow_succ, Nat.add_mul, Nat.zero_mul, Nat.zero_add, Nat.mul_assoc, Nat.mul_comm 256]
    omega
theorem valF_lt : ∀ (l : List Int), isB l → valF l 0 < 256 ^ l.length
  | [], _ => by simp [valF]
  | x :: l, h => by
    have h1 := valF_lt l fun y hy => h y (List.mem_cons_of_mem _ hy)
    have hx := h x (List.mem_cons_self ..)
    have h2 := valF_acc l (0 * 256 + x.toNat)
    unfold valF at h1 h2 ⊢
    rw [List.foldl_cons, h2, List.length_cons, Nat.pow_succ, Nat.zero_mul, Nat.zero_add]
    have : x.toNat * 256 ^ l.length + 256 ^ l.length ≤ 256 ^ l.length * 256 := by
      rw [Nat.mul_comm (256 ^ l.length) 256, ← Nat.succ_mul]
      exact Nat.mul_le_mul_right _ (by omega)
    omega
theorem lay_val : ∀ (l : List Int), isB l → layN l.length (valF l 0) = l
  | [], _ => rfl
  | x :: l, h => by
    have hl : isB l := fun y hy => h y (List.mem_cons_of_mem _ hy)
    have h1 := lay_val l hl
    have hv := valF_lt l hl
    have hx := h x (List.mem_cons_self ..)
    have h2 : valF (x :: l) 0 = x.toNat * 256 ^ l.length + valF l 0 := by
      have h2 := valF_acc l (0 * 256 + x.toNat)
      unfold valF at h2 ⊢
      rw [List.foldl_cons, h2, Nat.zero_mul, Nat.zero_add]
    rw [h2, List.length_cons, layN, layN_mod, h1]
    congr 1
    rw [Nat.mul_comm, Nat.mul_add_div (pow_pos' _), Nat.div_eq_of_lt hv]
    omega
/-- a number of so many bytes -/
def layW (w : Nat) (n : Int) : List Int := layN w n.toNat
def tkN (S : Int) (w : Nat) : Tkr Int := fun b => if b.length < w then .err S else .ok (valF (b.take w) 0 : Int) (b.drop w)
theorem cdN (S : Int) (w : Nat) : Cd S (fun n : Int => 0 ≤ n ∧ n < (256 ^ w : Nat)) (layW w) (tkN S w) where
  fwd n r h := by
    have hl : (layW w n).length = w := layN_len _ _
    unfold tkN
    rw [if_neg (by rw [List.length_append]; omega), List.take_append_of_le_length (by omega), List.take_of_length_le (by omega), List.drop_append_of_le_length (by omega), List.drop_of_length_le (by omega)]
    unfold layW
    rw [valF_lay, Nat.zero_mul, Nat.zero_add, Nat.mod_eq_of_lt (by omega), Int.toNat_of_nonneg h.1]
    rfl
  bwd b n r hb h := by
    unfold tkN at h
    by_cases hw : b.length < w
    · rw [if_pos hw] at h; cases h
    · rw [if_neg hw] at h
      cases h
      have hb' : isB (b.take w) := fun x hx => hb x (List.mem_of_mem_take hx)
      have hl : (b.take w).length = w := by rw [List.length_take]; omega
      have h1 := lay_val _ hb'
      have h2 := valF_lt _ hb'
      rw [hl] at h1 h2
      refine ⟨?_, Int.natCast_nonneg _, by exact_mod_cast h2⟩
      unfold layW
      rw [Int.toNat_natCast, h1, List.take_append_drop]
  sh n k h hk := by
    have hl : (layW w n).length = w := layN_len _ _
    unfold tkN
    rw [if_pos (by rw [List.length_take]; omega)]
end Go.Proofs.YtmacjicebemgoaaGreat
namespace Go.Proofs.YtmacjicebemgoaaGreat
set_option linter.unusedVariables false
set_option linter.unusedSimpArgs false
section
variable {α β : Type} {S : Int} {ok : α → Prop} {lay : α → List Int} {tk : Tkr α} {ok2 : α → β → Prop} {lay2 : α → β → List Int} {tk2 : α → Tkr β}
/-- one behind the other, that asks what the first was -/
theorem Cd.dep (c : Cd S ok lay tk) (d : ∀ a, ok a → Cd S (ok2 a) (lay2 a) (tk2 a)) : Cd S (fun p : α × β => ok p.1 ∧ ok2 p.1 p.2) (fun p => lay p.1 ++ lay2 p.1 p.2) (fun b => (tk b).bind fun a r => (tk2 a r).bind fun x r => .ok (a, x) r) where
  fwd p r h := by
    rw [List.append_assoc, c.fwd _ _ h.1]
    show (tk2 _ _).bind _ = _
    rw [(d _ h.1).fwd _ _ h.2]
    rfl
  bwd b p r hb h := by
    cases h1 : tk b with
    | err e => rw [h1] at h; cases h
    | ok a r1 =>
      rw [h1] at h
      have h : (tk2 a r1).bind (fun x r => Tk.ok (a, x) r) = .ok p r := h
      obtain ⟨e1, k1⟩ := c.bwd b a r1 hb h1
      cases h2 : tk2 a r1 with
      | err e => rw [h2] at h; cases h
      | ok x r2 =>
        rw [h2] at h
        cases h
        obtain ⟨e2, k2⟩ := (d a k1).bwd r1 x r (by rw [e1] at hb; exact (isB_app.1 hb).2) h2
        exact ⟨by rw [e1, e2, List.append_assoc], k1, k2⟩
  sh p k h hk := by
    by_cases h1 : k < (lay p.1).length
    · rw [List.take_append_of_le_length (by omega), c.sh _ _ h.1 h1]
      rfl
    · rw [List.length_append] at hk
      rw [List.take_append, List.take_of_length_le (by omega), c.fwd _ _ h.1]
      show (tk2 _ _).bind _ = _
      rw [(d _ h.1).sh _ _ h.2 (by omega)]
      rfl
theorem Cd.iff {ok' : α → Prop} (c : Cd S ok lay tk) (h : ∀ a, ok' a ↔ ok a) : Cd S ok' lay tk where
  fwd a r k := c.fwd a r ((h a).1 k)
  bwd b a r hb e := ⟨(c.bwd b a r hb e).1, (h a).2 (c.bwd b a r hb e).2⟩
  sh a k k1 hk := c.sh a k ((h a).1 k1) hk
end
theorem mayR_rng {i : I3} (h : mayR i = true) : (1 ≤ i.t ∧ i.t ≤ 4611686018427387904) ∧ (1 ≤ i.s ∧ i.s ≤ 8) ∧ (1 ≤ i.q ∧ i.q ≤ 4611686018427387904) := by
  unfold mayR isNum isSt at h
  simpa using h
/-- an id -/
def idB (i : I3) : List Int := layW 8 i.t ++ (layW 1 i.s ++ layW 8 i.q)
def tkRaw (S : Int) : Tkr I3 := fun b => ((tkN S 8 b).bind fun t r => ((tkN S 1 r).bind fun s r => (tkN S 8 r).bind fun q r => Tk.ok (s, q) r).bind fun p r => .ok (t, p) r).bind fun a r => .ok ⟨a.1, a.2.1, a.2.2⟩ r
def tkId (S C : Int) : Tkr I3 := fun b => (tkRaw S b).bind fun a r => if mayR a then .ok a r else .err C
theorem cdId (S C : Int) : Cd S (fun i => mayR i = true) idB (tkId S C) :=
  ((((cdN S 8).seq ((cdN S 1).seq (cdN S 8))).map (ok2 := fun i : I3 => (0 ≤ i.t ∧ i.t < (256 ^ 8 : Nat)) ∧ (0 ≤ i.s ∧ i.s < (256 ^ 1 : Nat)) ∧ (0 ≤ i.q ∧ i.q < (256 ^ 8 : Nat))) (fun p => (⟨p.1, p.2.1, p.2.2⟩ : I3)) (fun i => (i.t, i.s, i.q)) (fun a h => ⟨rfl, h⟩) (fun x h => ⟨h, rfl⟩)).need C mayR).iff fun i => by
    constructor
    · intro h
      obtain ⟨h1, h2, h3⟩ := mayR_rng h
      have e8 : ((256 ^ 8 : Nat) : Int) = 18446744073709551616 := by decide
      have e1 : ((256 ^ 1 : Nat) : Int) = 256 := by decide
      refine ⟨⟨?_, ?_, ?_⟩, h⟩ <;> (first | rw [e8] | rw [e1]) <;> omega
    · exact fun h => h.2
/-- a place -/
def plB' (x : Int) : List Int := layW 1 (x + 64)
def tkPl (S : Int) : Tkr Int := fun b => (tkN S 1 b).bind fun a r => .ok (a - 64) r
theorem cdPl (S : Int) : Cd S (fun x : Int => -64 ≤ x ∧ x < 192) plB' (tkPl S) :=
  (cdN S 1).map (fun a => a - 64) (fun x => x + 64) (fun a h => by
    have e1 : ((256 ^ 1 : Nat) : Int) = 256 := by decide
    rw [e1] at h
    exact ⟨by omega, by omega⟩) (fun x h => by
    have e1 : ((256 ^ 1 : Nat) : Int) = 256 := by decide
    rw [e1]
    exact ⟨by omega, by omega⟩)
/-- a colour -/
def okC (c : C4) : Prop := (0 ≤ c.r ∧ c.r < (256 ^ 1 : Nat)) ∧ (0 ≤ c.g ∧ c.g < (256 ^ 1 : Nat)) ∧ (0 ≤ c.b ∧ c.b < (256 ^ 1 : Nat)) ∧ (0 ≤ c.a ∧ c.a < (256 ^ 1 : Nat))
def coB' (c : C4) : List Int := layW 1 c.r ++ (layW 1 c.g ++ (layW 1 c.b ++ layW 1 c.a))
def tkCo (S : Int) : Tkr C4 := fun b => ((tkN S 1 b).bind fun t r => ((tkN S 1 r).bind fun s r => ((tkN S 1 r).bind fun p r => (tkN S 1 r).bind fun q r => Tk.ok (p, q) r).bind fun q r => Tk.ok (s, q) r).bind fun p r => .ok (t, p) r).bind fun a r => .ok ⟨a.1, a.2.1, a.2.2.1, a.2.2.2⟩ r
theorem cdCo (S : Int) : Cd S okC coB' (tkCo S) :=
  ((cdN S 1).seq ((cdN S 1).seq ((cdN S 1).seq (cdN S 1)))).map (ok2 := okC) (fun p : Int × Int × Int × Int => (⟨p.1, p.2.1, p.2.2.1, p.2.2.2⟩ : C4)) (fun c => (c.r, c.g, c.b, c.a)) (fun a h => ⟨rfl, h⟩) (fun x h => ⟨h, rfl⟩)
def tkSi (S C : Int) : Tkr Int := fun b => (tkN S 1 b).bind fun a r => if siD a then .ok a r else .err C
theorem cdSi (S C : Int) : Cd S (fun n => siD n = true) (layW 1) (tkSi S C) :=
  ((cdN S 1).need C siD).iff fun n => by
    have e1 : ((256 ^ 1 : Nat) : Int) = 256 := by decide
    rw [e1]
    constructor
    · intro h
      have h2 := h
      unfold siD at h2
      simp at h2
      exact ⟨by omega, h⟩
    · exact fun h => h.2
def stBy (s : (Int × Int) × List C4) : List Int := (layW 1 s.1.1 ++ layW 1 s.1.2) ++ s.2.flatMap coB'
def tkSt (S C : Int) : Tkr ((Int × Int) × List C4) := fun b => ((tkSi S C b).bind fun a r => (tkSi S C r).bind fun x r => Tk.ok (a, x) r).bind fun a r => (tkRep (tkCo S) (a.1 * a.2).toNat r).bind fun x r => .ok (a, x) r
theorem cdSt (S C : Int) : Cd S (fun s : (Int × Int) × List C4 => (siD s.1.1 = true ∧ siD s.1.2 = true) ∧ s.2.length = (s.1.1 * s.1.2).toNat ∧ ∀ c ∈ s.2, okC c) stBy (tkSt S C) :=
  ((cdSi S C).seq (cdSi S C)).dep (ok2 := fun (a : Int × Int) (l : List C4) => l.length = (a.1 * a.2).toNat ∧ ∀ c ∈ l, okC c) (lay2 := fun _ (l : List C4) => l.flatMap coB') (fun a _ => (cdCo S).rep (a.1 * a.2).toNat)
end Go.Proofs.YtmacjicebemgoaaGreat
namespace Go.Proofs.YtmacjicebemgoaaGreat
set_option linter.unusedVariables false
set_option linter.unusedSimpArgs false
def isPl (x : Int) : Prop := -64 ≤ x ∧ x < 192
def isSz (x : Int) : Prop := 0 ≤ x ∧ x < (256 ^ 2 : Nat)
/-- brushes and squares -/
def cd12 (S C k : Int) : { tk : Tkr OpM // Cd S (fun o : OpM => o.kd = k ∧ mayR o.id = true ∧ isPl o.x ∧ isPl o.y ∧ isPl o.x2 ∧ isPl o.y2 ∧ isSz o.sz ∧ okC o.co ∧ o.sw = 0 ∧ o.sh = 0 ∧ o.px = [] ∧ o.tg = zI3) (fun o => idB o.id ++ (plB' o.x ++ (plB' o.y ++ (plB' o.x2 ++ (plB' o.y2 ++ (layW 2 o.sz ++ coB' o.co)))))) tk } :=
  ⟨_, ((cdId S C).seq ((cdPl S).seq ((cdPl S).seq ((cdPl S).seq ((cdPl S).seq ((cdN S 2).seq (cdCo S))))))).map (fun p : I3 × Int × Int × Int × Int × Int × C4 => (⟨p.1, k, p.2.1, p.2.2.1, p.2.2.2.1, p.2.2.2.2.1, p.2.2.2.2.2.1, p.2.2.2.2.2.2, 0, 0, [], zI3⟩ : OpM)) (fun o => (o.id, o.x, o.y, o.x2, o.y2, o.sz, o.co))
    (fun a h => ⟨rfl, rfl, h.1, h.2.1, h.2.2.1, h.2.2.2.1, h.2.2.2.2.1, h.2.2.2.2.2.1, h.2.2.2.2.2.2, rfl, rfl, rfl, rfl⟩)
    (fun o h => by
      obtain ⟨id, kd, x, y, x2, y2, sz, co, sw, sh, px, tg⟩ := o
      obtain ⟨h1, h2, h3, h4, h5, h6, h7, h8, h9, h10, h11, h12⟩ := h
      dsimp only at h1 h2 h3 h4 h5 h6 h7 h8 h9 h10 h11 h12
      subst h1 h9 h10 h11 h12
      exact ⟨⟨h2, h3, h4, h5, h6, h7, h8⟩, rfl⟩)⟩
/-- rectangles and washes -/
def cd34 (S C k : Int) : { tk : Tkr OpM // Cd S (fun o : OpM => o.kd = k ∧ mayR o.id = true ∧ isPl o.x ∧ isPl o.y ∧ isPl o.x2 ∧ isPl o.y2 ∧ o.sz = 0 ∧ okC o.co ∧ o.sw = 0 ∧ o.sh = 0 ∧ o.px = [] ∧ o.tg = zI3) (fun o => idB o.id ++ (plB' o.x ++ (plB' o.y ++ (plB' o.x2 ++ (plB' o.y2 ++ coB' o.co))))) tk } :=
  ⟨_, ((cdId S C).seq ((cdPl S).seq ((cdPl S).seq ((cdPl S).seq ((cdPl S).seq (cdCo S)))))).map (fun p : I3 × Int × Int × Int × Int × C4 => (⟨p.1, k, p.2.1, p.2.2.1, p.2.2.2.1, p.2.2.2.2.1, 0, p.2.2.2.2.2, 0, 0, [], zI3⟩ : OpM)) (fun o => (o.id, o.x, o.y, o.x2, o.y2, o.co))
    (fun a h => ⟨rfl, rfl, h.1, h.2.1, h.2.2.1, h.2.2.2.1, h.2.2.2.2.1, rfl, h.2.2.2.2.2, rfl, rfl, rfl, rfl⟩)
    (fun o h => by
      obtain ⟨id, kd, x, y, x2, y2, sz, co, sw, sh, px, tg⟩ := o
      obtain ⟨h1, h2, h3, h4, h5, h6, h7, h8, h9, h10, h11, h12⟩ := h
      dsimp only at h1 h2 h3 h4 h5 h6 h7 h8 h9 h10 h11 h12
      subst h1 h7 h9 h10 h11 h12
      exact ⟨⟨h2, h3, h4, h5, h6, h8⟩, rfl⟩)⟩
/-- fills -/
def cd5 (S C k : Int) : { tk : Tkr OpM // Cd S (fun o : OpM => o.kd = k ∧ mayR o.id = true ∧ isPl o.x ∧ isPl o.y ∧ o.x2 = 0 ∧ o.y2 = 0 ∧ isSz o.sz ∧ okC o.co ∧ o.sw = 0 ∧ o.sh = 0 ∧ o.px = [] ∧ o.tg = zI3) (fun o => idB o.id ++ (plB' o.x ++ (plB' o.y ++ (layW 2 o.sz ++ coB' o.co)))) tk } :=
  ⟨_, ((cdId S C).seq ((cdPl S).seq ((cdPl S).seq ((cdN S 2).seq (cdCo S))))).map (fun p : I3 × Int × Int × Int × C4 => (⟨p.1, k, p.2.1, p.2.2.1, 0, 0, p.2.2.2.1, p.2.2.2.2, 0, 0, [], zI3⟩ : OpM)) (fun o => (o.id, o.x, o.y, o.sz, o.co))
    (fun a h => ⟨rfl, rfl, h.1, h.2.1, h.2.2.1, rfl, rfl, h.2.2.2.1, h.2.2.2.2, rfl, rfl, rfl, rfl⟩)
    (fun o h => by
      obtain ⟨id, kd, x, y, x2, y2, sz, co, sw, sh, px, tg⟩ := o
      obtain ⟨h1, h2, h3, h4, h5, h6, h7, h8, h9, h10, h11, h12⟩ := h
      dsimp only at h1 h2 h3 h4 h5 h6 h7 h8 h9 h10 h11 h12
      subst h1 h5 h6 h9 h10 h11 h12
      exact ⟨⟨h2, h3, h4, h7, h8⟩, rfl⟩)⟩
/-- stamps -/
def cd6 (S C k : Int) : { tk : Tkr OpM // Cd S (fun o : OpM => o.kd = k ∧ mayR o.id = true ∧ isPl o.x ∧ isPl o.y ∧ o.x2 = 0 ∧ o.y2 = 0 ∧ o.sz = 0 ∧ o.co = zC4 ∧ ((siD o.sw = true ∧ siD o.sh = true) ∧ o.px.length = (o.sw * o.sh).toNat ∧ ∀ c ∈ o.px, okC c) ∧ o.tg = zI3) (fun o => idB o.id ++ (plB' o.x ++ (plB' o.y ++ stBy ((o.sw, o.sh), o.px)))) tk } :=
  ⟨_, ((cdId S C).seq ((cdPl S).seq ((cdPl S).seq (cdSt S C)))).map (fun p : I3 × Int × Int × (Int × Int) × List C4 => (⟨p.1, k, p.2.1, p.2.2.1, 0, 0, 0, zC4, p.2.2.2.1.1, p.2.2.2.1.2, p.2.2.2.2, zI3⟩ : OpM)) (fun o => (o.id, o.x, o.y, (o.sw, o.sh), o.px))
    (fun a h => ⟨rfl, rfl, h.1, h.2.1, h.2.2.1, rfl, rfl, rfl, rfl, h.2.2.2, rfl⟩)
    (fun o h => by
      obtain ⟨id, kd, x, y, x2, y2, sz, co, sw, sh, px, tg⟩ := o
      obtain ⟨h1, h2, h3, h4, h5, h6, h7, h8, h9, h10⟩ := h
      dsimp only at h1 h2 h3 h4 h5 h6 h7 h8 h9 h10
      subst h1 h5 h6 h7 h8 h10
      exact ⟨⟨h2, h3, h4, h9⟩, rfl⟩)⟩
/-- undos and redos -/
def cd78 (S C k : Int) : { tk : Tkr OpM // Cd S (fun o : OpM => o.kd = k ∧ mayR o.id = true ∧ o.x = 0 ∧ o.y = 0 ∧ o.x2 = 0 ∧ o.y2 = 0 ∧ o.sz = 0 ∧ o.co = zC4 ∧ o.sw = 0 ∧ o.sh = 0 ∧ o.px = [] ∧ mayR o.tg = true) (fun o => idB o.id ++ idB o.tg) tk } :=
  ⟨_, ((cdId S C).seq (cdId S C)).map (fun p : I3 × I3 => (⟨p.1, k, 0, 0, 0, 0, 0, zC4, 0, 0, [], p.2⟩ : OpM)) (fun o => (o.id, o.tg))
    (fun a h => ⟨rfl, rfl, h.1, rfl, rfl, rfl, rfl, rfl, rfl, rfl, rfl, rfl, h.2⟩)
    (fun o h => by
      obtain ⟨id, kd, x, y, x2, y2, sz, co, sw, sh, px, tg⟩ := o
      obtain ⟨h1, h2, h3, h4, h5, h6, h7, h8, h9, h10, h11, h12⟩ := h
      dsimp only at h1 h2 h3 h4 h5 h6 h7 h8 h9 h10 h11 h12
      subst h1 h3 h4 h5 h6 h7 h8 h9 h10 h11
      exact ⟨⟨h2, h12⟩, rfl⟩)⟩
end Go.Proofs.YtmacjicebemgoaaGreat
namespace Go.Proofs.YtmacjicebemgoaaGreat
set_option linter.unusedVariables false
set_option linter.unusedSimpArgs false
/-- may be, and its colours are colours -/
def okO (o : OpM) : Prop := opB o = true ∧ okC o.co ∧ ∀ c ∈ o.px, okC c
def fldB (o : OpM) : List Int :=
  if o.kd = 1 ∨ o.kd = 2 then idB o.id ++ (plB' o.x ++ (plB' o.y ++ (plB' o.x2 ++ (plB' o.y2 ++ (layW 2 o.sz ++ coB' o.co)))))
  else if o.kd = 3 ∨ o.kd = 4 then idB o.id ++ (plB' o.x ++ (plB' o.y ++ (plB' o.x2 ++ (plB' o.y2 ++ coB' o.co))))
  else if o.kd = 5 then idB o.id ++ (plB' o.x ++ (plB' o.y ++ (layW 2 o.sz ++ coB' o.co)))
  else if o.kd = 6 then idB o.id ++ (plB' o.x ++ (plB' o.y ++ stBy ((o.sw, o.sh), o.px)))
  else idB o.id ++ idB o.tg
def opNd (C : Int) (tk : Tkr OpM) : Tkr OpM := fun b => (tk b).bind fun a r => if opB a then .ok a r else .err C
def tkK (S C k : Int) : Tkr OpM :=
  if k = 1 ∨ k = 2 then opNd C (cd12 S C k).1 else if k = 3 ∨ k = 4 then opNd C (cd34 S C k).1 else if k = 5 then opNd C (cd5 S C k).1 else if k = 6 then opNd C (cd6 S C k).1 else opNd C (cd78 S C k).1
theorem opB_12 {o : OpM} (h : opB o = true) (hk : o.kd = 1 ∨ o.kd = 2) : mayR o.id = true ∧ isPl o.x ∧ isPl o.y ∧ isPl o.x2 ∧ isPl o.y2 ∧ isSz o.sz ∧ o.sw = 0 ∧ o.sh = 0 ∧ o.px = [] ∧ o.tg = zI3 := by
  unfold opB at h
  have e2 : ((256 ^ 2 : Nat) : Int) = 65536 := by decide
  unfold isPl isSz
  rw [e2]
  rcases hk with hk | hk <;> simp [hk, mostK, drB] at h <;> simp [h] <;> omega
theorem opB_34 {o : OpM} (h : opB o = true) (hk : o.kd = 3 ∨ o.kd = 4) : mayR o.id = true ∧ isPl o.x ∧ isPl o.y ∧ isPl o.x2 ∧ isPl o.y2 ∧ o.sz = 0 ∧ o.sw = 0 ∧ o.sh = 0 ∧ o.px = [] ∧ o.tg = zI3 := by
  unfold opB at h
  unfold isPl
  rcases hk with hk | hk <;> simp [hk, mostK, drB] at h <;> simp [h] <;> omega
theorem opB_5 {o : OpM} (h : opB o = true) (hk : o.kd = 5) : mayR o.id = true ∧ isPl o.x ∧ isPl o.y ∧ o.x2 = 0 ∧ o.y2 = 0 ∧ isSz o.sz ∧ o.sw = 0 ∧ o.sh = 0 ∧ o.px = [] ∧ o.tg = zI3 := by
  unfold opB at h
  have e2 : ((256 ^ 2 : Nat) : Int) = 65536 := by decide
  unfold isPl isSz
  rw [e2]
  simp [hk, mostK, drB] at h
  simp [h]
  omega
theorem opB_6 {o : OpM} (h : opB o = true) (hk : o.kd = 6) : mayR o.id = true ∧ isPl o.x ∧ isPl o.y ∧ o.x2 = 0 ∧ o.y2 = 0 ∧ o.sz = 0 ∧ o.co = zC4 ∧ ((siD o.sw = true ∧ siD o.sh = true) ∧ o.px.length = (o.sw * o.sh).toNat) ∧ o.tg = zI3 := by
  unfold opB at h
  unfold isPl
  simp [hk, mostK, drB, stB] at h
  simp [h]
  omega
theorem opB_78 {o : OpM} (h : opB o = true) (hk : ¬ (o.kd = 1 ∨ o.kd = 2)) (hk2 : ¬ (o.kd = 3 ∨ o.kd = 4)) (hk3 : ¬ o.kd = 5) (hk4 : ¬ o.kd = 6) : mayR o.id = true ∧ o.x = 0 ∧ o.y = 0 ∧ o.x2 = 0 ∧ o.y2 = 0 ∧ o.sz = 0 ∧ o.co = zC4 ∧ o.sw = 0 ∧ o.sh = 0 ∧ o.px = [] ∧ mayR o.tg = true := by
  have h7 : o.kd = 7 ∨ o.kd = 8 := by
    unfold opB at h
    simp only [Bool.and_eq_true, decide_eq_true_eq] at h
    omega
  unfold opB at h
  rcases h7 with hk | hk <;> simp [hk, mostK, drB] at h <;> simp [h]
/-- an operation -/
def isK (k : Int) : Bool := decide (1 ≤ k) && decide (k ≤ 8)
def opL (o : OpM) : List Int := layW 1 o.kd ++ fldB o
def tkOp (S C : Int) : Tkr OpM := fun b => (((tkN S 1 b).bind fun a r => if isK a then .ok a r else .err C).bind fun a r => (tkK S C a r).bind fun x r => Tk.ok (a, x) r).bind fun a r => .ok a.2 r
end Go.Proofs.YtmacjicebemgoaaGreat
namespace Go.Proofs.YtmacjicebemgoaaGreat
set_option linter.unusedVariables false
set_option linter.unusedSimpArgs false
/-- a row of operations: how many, and each -/
def rowL (l : List OpM) : List Int := layW 1 (l.length : Int) ++ l.flatMap opL
def isM (n : Int) : Bool := decide (n ≤ 64)
def tkRow (S C : Int) : Tkr (List OpM) := fun b => (((tkN S 1 b).bind fun a r => if isM a then .ok a r else .err C).bind fun a r => (tkRep (tkOp S C) a.toNat r).bind fun x r => Tk.ok (a, x) r).bind fun a r => .ok a.2 r
/-- eight numbers -/
def numsL (l : List Int) : List Int := l.flatMap (layW 8)
end Go.Proofs.YtmacjicebemgoaaGreat
namespace Go.Proofs.YtmacjicebemgoaaGreat
set_option linter.unusedVariables false
set_option linter.unusedSimpArgs false
section
variable {α : Type} {S : Int} {ok : α → Prop} {lay : α → List Int} {tk : Tkr α}
/-- what was read are the bytes of what was taken -/
theorem Cd.back (c : Cd S ok lay tk) {b r : List Int} {a : α} (hb : isB b) (h : tk b = .ok a r) : r.length ≤ b.length ∧ b.take (b.length - r.length) = lay a ∧ b.length - r.length = (lay a).length ∧ ok a := by
  obtain ⟨e, k⟩ := c.bwd b a r hb h
  have hl : b.length = (lay a).length + r.length := by rw [e, List.length_append]
  refine ⟨by omega, ?_, by omega, k⟩
  rw [show b.length - r.length = (lay a).length by omega, e, List.take_append_of_le_length (Nat.le_refl _), List.take_of_length_le (Nat.le_refl _)]
end
theorem isB_layN : ∀ w n, isB (layN w n)
  | 0, _ => fun x h => by cases h
  | w + 1, n => fun x h => by
    rw [layN] at h
    rcases List.mem_cons.1 h with rfl | h
    · omega
    · exact isB_layN w n x h
theorem isB_layW (w : Nat) (n : Int) : isB (layW w n) := isB_layN _ _
theorem isB_idB (i : I3) : isB (idB i) := isB_app.2 ⟨isB_layW _ _, isB_app.2 ⟨isB_layW _ _, isB_layW _ _⟩⟩
/-- an operation has at most 18 + 2 + 2 + 256 bytes -/
theorem opL_len {o : OpM} (h : okO o) : (opL o).length ≤ 278 := by
  have hw : ∀ w n, (layW w n).length = w := fun w n => layN_len _ _
  have hi : ∀ i, (idB i).length = 17 := fun i => by unfold idB; simp only [List.length_append, hw]
  have hp : ∀ x, (plB' x).length = 1 := fun x => hw _ _
  have hc : ∀ c, (coB' c).length = 4 := fun c => by unfold coB'; simp only [List.length_append, hw]
  have hf : ∀ l : List C4, (l.flatMap coB').length = 4 * l.length := fun l => by
    induction l with
    | nil => rfl
    | cons a l ih => rw [List.flatMap_cons, List.length_append, ih, hc, List.length_cons]; omega
  unfold opL
  rw [List.length_append, hw]
  unfold fldB
  split
  · simp only [List.length_append, hw, hi, hp, hc]; omega
  · split
    · simp only [List.length_append, hw, hi, hp, hc]; omega
    · split
      · simp only [List.length_append, hw, hi, hp, hc]; omega
      · split
        · rename_i h6
          have h8 := opB_6 h.1 h6
          have h9 := h8.2.2.2.2.2.2.2.1
          have hs1 : o.sw ≤ 8 ∧ 0 ≤ o.sw := by have := h9.1.1; unfold siD at this; simp at this; omega
          have hs2 : o.sh ≤ 8 ∧ 0 ≤ o.sh := by have := h9.1.2; unfold siD at this; simp at this; omega
          have hm : o.sw * o.sh ≤ 8 * 8 := Int.mul_le_mul hs1.1 hs2.1 hs2.2 (by omega)
          have hl := h9.2
          unfold stBy
          simp only [List.length_append, hw, hi, hp, hf]
          omega
        · simp only [List.length_append, hi]; omega
end Go.Proofs.YtmacjicebemgoaaGreat
namespace Go.Proofs.YtmacjicebemgoaaGreat
set_option linter.unusedVariables false
set_option linter.unusedSimpArgs false
/-- the vector of eight numbers -/
def mkV (l : List Int) : Vec := fun i => if 1 ≤ i ∧ i ≤ 8 then (l.getD (i - 1) 0).toNat else 0
def numsV (v : Vec) : List Int := [(v 1 : Int), v 2, v 3, v 4, v 5, v 6, v 7, v 8]
def vecL (v : Vec) : List Int := numsL (numsV v)
def tkVec (S C : Int) : Tkr Vec := fun b => ((tkRep (tkN S 8) 8 b).bind fun a r => Tk.ok (mkV a) r).bind fun a r => if vB a then .ok a r else .err C
end Go.Proofs.YtmacjicebemgoaaGreat
namespace Go.Proofs.YtmacjicebemgoaaGreat
set_option linter.unusedVariables false
set_option linter.unusedSimpArgs false
open Go.RowKit
section
variable {α β γ : Type}
theorem Tk.bind_bind (t : Tk α) (f : α → List Int → Tk β) (g : β → List Int → Tk γ) : (t.bind f).bind g = t.bind fun a r => (f a r).bind g := by cases t <;> rfl
theorem Tk.ok_bind (a : α) (r : List Int) (f : α → List Int → Tk β) : (Tk.ok a r).bind f = f a r := rfl
theorem Tk.err_bind (e : Int) (f : α → List Int → Tk β) : (Tk.err e : Tk α).bind f = .err e := rfl
theorem Tk.if_bind (p : Bool) (s t : Tk α) (f : α → List Int → Tk β) : (if p = true then s else t).bind f = if p = true then s.bind f else t.bind f := by split <;> rfl
theorem Tk.bind_congr {t : Tk α} {f g : α → List Int → Tk β} (h : ∀ a r, f a r = g a r) : t.bind f = t.bind g := by rw [show f = g from funext fun a => funext fun r => h a r]
theorem Tk.bind_ok {t : Tk α} {f : α → List Int → Tk β} {x : β} {r : List Int} (h : t.bind f = .ok x r) : ∃ a q, t = .ok a q ∧ f a q = .ok x r := by
  cases t with
  | ok a q => exact ⟨a, q, rfl, h⟩
  | err e => cases h
theorem Tk.bind_err {t : Tk α} {f : α → List Int → Tk β} {e : Int} (h : t.bind f = .err e) : t = .err e ∨ ∃ a q, t = .ok a q ∧ f a q = .err e := by
  cases t with
  | ok a q => exact .inr ⟨a, q, rfl, h⟩
  | err e' => cases h; exact .inl rfl
end
/-- bytes, not too many -/
def okL (l : List Int) : Prop := isB l ∧ l.length ≤ 40000
theorem okL_of {α : Type} {S : Int} {ok : α → Prop} {lay : α → List Int} {tk : Tkr α} (c : Cd S ok lay tk) {l r : List Int} {a : α} (h : okL l) (e : tk l = .ok a r) : okL r := by
  obtain ⟨h1, _⟩ := c.bwd l a r h.1 e
  refine ⟨(isB_app.1 (h1 ▸ h.1)).2, ?_⟩
  have := h.2
  rw [h1, List.length_append] at this
  omega
abbrev tN := tkN 110
abbrev tId : Tkr I3 := tkId 110 290
abbrev tCo : Tkr C4 := tkCo 110
abbrev tSi : Tkr Int := tkSi 110 290
abbrev tSt : Tkr ((Int × Int) × List C4) := tkSt 110 290
abbrev tPl : Tkr Int := tkPl 110
abbrev tOp : Tkr OpM := tkOp 110 290
abbrev tRow : Tkr (List OpM) := tkRow 110 290
abbrev tVec : Tkr Vec := tkVec 110 290
theorem tN_ok {w : Nat} {l r : List Int} {n : Int} (h : okL l) (e : tN w l = .ok n r) : w ≤ l.length ∧ r = l.drop w ∧ n = (valF (l.take w) 0 : Int) ∧ (0 ≤ n ∧ n < (256 ^ w : Nat)) ∧ okL r := by
  refine ⟨?_, ?_, ?_, ((cdN 110 w).bwd l n r h.1 e).2, okL_of (cdN 110 w) h e⟩
  all_goals
    unfold tN tkN at e
    split at e
    · cases e
    · cases e
      first | omega | rfl
theorem tN_err {w : Nat} {l : List Int} {e : Int} (h : tN w l = .err e) : l.length < w ∧ e = 110 := by
  unfold tN tkN at h
  split at h
  · cases h
    exact ⟨by assumption, rfl⟩
  · cases h
/-- what a kind uses, by number: X, Y, X2, Y2, Size, Color, Stamp, Target -/
def fieldsK : Nat → List Nat
  | 1 => [0, 1, 2, 3, 4, 5]
  | 2 => [0, 1, 2, 3, 4, 5]
  | 3 => [0, 1, 2, 3, 5]
  | 4 => [0, 1, 2, 3, 5]
  | 5 => [0, 1, 4, 5]
  | 6 => [0, 1, 6]
  | 7 => [7]
  | 8 => [7]
  | _ => []
theorem fieldsK_lt (k : Nat) : ∀ f ∈ fieldsK k, f < 8 := by
  unfold fieldsK
  split <;> simp
def layF (f : Nat) (o : OpM) : List Int := match f with
  | 0 => plB' o.x
  | 1 => plB' o.y
  | 2 => plB' o.x2
  | 3 => plB' o.y2
  | 4 => layW 2 o.sz
  | 5 => coB' o.co
  | 6 => stBy ((o.sw, o.sh), o.px)
  | _ => idB o.tg
def kdN (o : OpM) : Nat := o.kd.toNat
theorem opB_kd {o : OpM} (h : opB o = true) : 1 ≤ o.kd ∧ o.kd ≤ 8 := by
  unfold opB at h
  simp only [Bool.and_eq_true, decide_eq_true_eq] at h
  exact h.1.1.1.1.1.1.1
theorem opL_fields {o : OpM} (h : 1 ≤ o.kd ∧ o.kd ≤ 8) : opL o = layW 1 o.kd ++ (idB o.id ++ (fieldsK (kdN o)).flatMap fun f => layF f o) := by
  unfold opL fldB kdN
  have : o.kd = 1 ∨ o.kd = 2 ∨ o.kd = 3 ∨ o.kd = 4 ∨ o.kd = 5 ∨ o.kd = 6 ∨ o.kd = 7 ∨ o.kd = 8 := by omega
  rcases this with h | h | h | h | h | h | h | h <;> rw [h] <;> simp [fieldsK, layF]
/-- a field is taken -/
def tkF (f : Nat) (o : OpM) : Tkr OpM := fun b => match f with
  | 0 => (tPl b).bind fun a r => .ok { o with x := a } r
  | 1 => (tPl b).bind fun a r => .ok { o with y := a } r
  | 2 => (tPl b).bind fun a r => .ok { o with x2 := a } r
  | 3 => (tPl b).bind fun a r => .ok { o with y2 := a } r
  | 4 => (tN 2 b).bind fun a r => .ok { o with sz := a } r
  | 5 => (tCo b).bind fun a r => .ok { o with co := a } r
  | 6 => (tSt b).bind fun a r => .ok { o with sw := a.1.1, sh := a.1.2, px := a.2 } r
  | _ => (tId b).bind fun a r => .ok { o with tg := a } r
def tkFs : List Nat → OpM → Tkr OpM
  | [], o, b => if opB o then .ok o b else .err 290
  | f :: fs, o, b => (tkF f o b).bind fun o' r => tkFs fs o' r
def mk0 (k : Int) (i : I3) : OpM := ⟨i, k, 0, 0, 0, 0, 0, zC4, 0, 0, [], zI3⟩
theorem tOp_eq (b : List Int) : tOp b = (tN 1 b).bind fun k r => if isK k = true then (tId r).bind fun i r => tkFs (fieldsK k.toNat) (mk0 k i) r else .err 290 := by
  unfold tOp tkOp
  simp only [Tk.bind_bind, Tk.if_bind, Tk.ok_bind, Tk.err_bind]
  refine Tk.bind_congr fun k r => ?_
  by_cases hk : isK k = true
  · rw [if_pos hk, if_pos hk]
    have h8 : 1 ≤ k ∧ k ≤ 8 := by unfold isK at hk; simpa using hk
    have : k = 1 ∨ k = 2 ∨ k = 3 ∨ k = 4 ∨ k = 5 ∨ k = 6 ∨ k = 7 ∨ k = 8 := by omega
    rcases this with rfl | rfl | rfl | rfl | rfl | rfl | rfl | rfl <;>
      simp [tkK, opNd, cd12, cd34, cd5, cd6, cd78, fieldsK, tkFs, tkF, mk0, Tk.bind_bind, Tk.ok_bind, Tk.if_bind, Tk.err_bind]
  · rw [if_neg hk, if_neg hk]
theorem tRow_eq (b : List Int) : tRow b = (tN 1 b).bind fun a r => if isM a = true then tkRep tOp a.toNat r else .err 290 := by
  unfold tRow tkRow
  simp only [Tk.bind_bind, Tk.if_bind, Tk.ok_bind, Tk.err_bind]
  refine Tk.bind_congr fun a r => ?_
  by_cases h : isM a = true
  · rw [if_pos h, if_pos h]
    cases tkRep (tkOp 110 290) a.toNat r <;> rfl
  · rw [if_neg h, if_neg h]
/-- numbers of sites are taken, so many -/
def tkVs : Nat → Vec → Tkr Vec
  | 0, v, b => if vB v then .ok v b else .err 290
  | n + 1, v, b => (tN 8 b).bind fun x r => tkVs n (upV v (8 - n) x.toNat) r
theorem mkV_up (x1 x2 x3 x4 x5 x6 x7 x8 : Int) : mkV [x1, x2, x3, x4, x5, x6, x7, x8] = upV (upV (upV (upV (upV (upV (upV (upV z9 (8 - 7) x1.toNat) (8 - 6) x2.toNat) (8 - 5) x3.toNat) (8 - 4) x4.toNat) (8 - 3) x5.toNat) (8 - 2) x6.toNat) (8 - 1) x7.toNat) (8 - 0) x8.toNat := by
  funext i
  unfold mkV upV
  have : i = 0 ∨ i = 1 ∨ i = 2 ∨ i = 3 ∨ i = 4 ∨ i = 5 ∨ i = 6 ∨ i = 7 ∨ i = 8 ∨ 9 ≤ i := by omega
  rcases this with rfl | rfl | rfl | rfl | rfl | rfl | rfl | rfl | rfl | h
  all_goals first | rfl | skip
  rw [if_neg (by omega), if_neg (by omega), if_neg (by omega), if_neg (by omega), if_neg (by omega), if_neg (by omega), if_neg (by omega), if_neg (by omega), if_neg (by omega)]
  rfl
theorem tVec_eq (b : List Int) : tVec b = tkVs 8 z9 b := by
  unfold tVec tkVec
  simp only [tkRep, tkVs, Tk.bind_bind, Tk.ok_bind]
  refine Tk.bind_congr fun x1 r => Tk.bind_congr fun x2 r => Tk.bind_congr fun x3 r => Tk.bind_congr fun x4 r => Tk.bind_congr fun x5 r => Tk.bind_congr fun x6 r => Tk.bind_congr fun x7 r => Tk.bind_congr fun x8 r => ?_
  rw [mkV_up]
theorem tId_eq (b : List Int) : tId b = (tN 8 b).bind fun t r => (tN 1 r).bind fun s r => (tN 8 r).bind fun q r => if mayR ⟨t, s, q⟩ = true then .ok ⟨t, s, q⟩ r else .err 290 := by
  unfold tId tkId tkRaw
  simp only [Tk.bind_bind, Tk.ok_bind]
theorem tCo_eq (b : List Int) : tCo b = (tN 1 b).bind fun x r => (tN 1 r).bind fun y r => (tN 1 r).bind fun z r => (tN 1 r).bind fun w r => .ok ⟨x, y, z, w⟩ r := by
  unfold tCo tkCo
  simp only [Tk.bind_bind, Tk.ok_bind]
theorem tSt_eq (b : List Int) : tSt b = (tSi b).bind fun w r => (tSi r).bind fun h r => (tkRep tCo (w * h).toNat r).bind fun l r => .ok ((w, h), l) r := by
  unfold tSt tkSt
  simp only [Tk.bind_bind, Tk.ok_bind]
theorem tId_ok {l r : List Int} {i : I3} (h : tId l = .ok i r) : ∃ r1 r2, tN 8 l = .ok i.t r1 ∧ tN 1 r1 = .ok i.s r2 ∧ tN 8 r2 = .ok i.q r ∧ mayR i = true := by
  rw [tId_eq] at h
  obtain ⟨t, r1, e1, h⟩ := Tk.bind_ok h
  obtain ⟨s, r2, e2, h⟩ := Tk.bind_ok h
  obtain ⟨q, r3, e3, h⟩ := Tk.bind_ok h
  split at h
  · cases h
    exact ⟨r1, r2, e1, e2, e3, by assumption⟩
  · cases h
theorem tId_err {l : List Int} {e : Int} (h : tId l = .err e) : tN 8 l = .err e ∨ (∃ t r1, tN 8 l = .ok t r1 ∧ tN 1 r1 = .err e) ∨ (∃ t r1 s r2, tN 8 l = .ok t r1 ∧ tN 1 r1 = .ok s r2 ∧ tN 8 r2 = .err e) ∨
    (∃ i : I3, ∃ r1 r2 r3, tN 8 l = .ok i.t r1 ∧ tN 1 r1 = .ok i.s r2 ∧ tN 8 r2 = .ok i.q r3 ∧ mayR i = false ∧ e = 290) := by
  rw [tId_eq] at h
  rcases Tk.bind_err h with h | ⟨t, r1, e1, h⟩
  · exact .inl h
  rcases Tk.bind_err h with h | ⟨s, r2, e2, h⟩
  · exact .inr (.inl ⟨t, r1, e1, h⟩)
  rcases Tk.bind_err h with h | ⟨q, r3, e3, h⟩
  · exact .inr (.inr (.inl ⟨t, r1, s, r2, e1, e2, h⟩))
  split at h
  · cases h
  · cases h
    exact .inr (.inr (.inr ⟨⟨t, s, q⟩, r1, r2, r3, e1, e2, e3, by simpa using ‹¬ mayR ⟨t, s, q⟩ = true›, rfl⟩))
/-- what may be laid of a field -/
def okF (f : Nat) (o : OpM) : Prop := match f with
  | 0 => isPl o.x
  | 1 => isPl o.y
  | 2 => isPl o.x2
  | 3 => isPl o.y2
  | 4 => isSz o.sz
  | 5 => okC o.co
  | 6 => siD o.sw = true ∧ siD o.sh = true ∧ o.px.length = (o.sw * o.sh).toNat ∧ ∀ c ∈ o.px, okC c
  | _ => mayR o.tg = true
/-- how many times a field is laid behind -/
def nF (f : Nat) (o : OpM) : Nat := match f with
  | 6 => 2 + o.px.length
  | 7 => 3
  | _ => 1
theorem okF_of {o : OpM} (h : okO o) : ∀ f ∈ fieldsK (kdN o), okF f o := by
  obtain ⟨h1, h2, h3⟩ := h
  have hk := opB_kd h1
  have : o.kd = 1 ∨ o.kd = 2 ∨ o.kd = 3 ∨ o.kd = 4 ∨ o.kd = 5 ∨ o.kd = 6 ∨ o.kd = 7 ∨ o.kd = 8 := by omega
  unfold kdN
  rcases this with h | h | h | h | h | h | h | h
  · obtain ⟨a1, a2, a3, a4, a5, a6, _⟩ := opB_12 h1 (.inl h)
    rw [h]; intro f hf
    have hf : f ∈ [0, 1, 2, 3, 4, 5] := hf
    simp only [List.mem_cons, List.not_mem_nil, or_false] at hf
    rcases hf with rfl | rfl | rfl | rfl | rfl | rfl <;> assumption
  · obtain ⟨a1, a2, a3, a4, a5, a6, _⟩ := opB_12 h1 (.inr h)
    rw [h]; intro f hf
    have hf : f ∈ [0, 1, 2, 3, 4, 5] := hf
    simp only [List.mem_cons, List.not_mem_nil, or_false] at hf
    rcases hf with rfl | rfl | rfl | rfl | rfl | rfl <;> assumption
  · obtain ⟨a1, a2, a3, a4, a5, a6, _⟩ := opB_34 h1 (.inl h)
    rw [h]; intro f hf
    have hf : f ∈ [0, 1, 2, 3, 5] := hf
    simp only [List.mem_cons, List.not_mem_nil, or_false] at hf
    rcases hf with rfl | rfl | rfl | rfl | rfl <;> assumption
  · obtain ⟨a1, a2, a3, a4, a5, a6, _⟩ := opB_34 h1 (.inr h)
    rw [h]; intro f hf
    have hf : f ∈ [0, 1, 2, 3, 5] := hf
    simp only [List.mem_cons, List.not_mem_nil, or_false] at hf
    rcases hf with rfl | rfl | rfl | rfl | rfl <;> assumption
  · obtain ⟨a1, a2, a3, a4, a5, a6, _⟩ := opB_5 h1 h
    rw [h]; intro f hf
    have hf : f ∈ [0, 1, 4, 5] := hf
    simp only [List.mem_cons, List.not_mem_nil, or_false] at hf
    rcases hf with rfl | rfl | rfl | rfl <;> assumption
  · obtain ⟨a1, a2, a3, a4, a5, a6, a7, ⟨⟨a8, a9⟩, a10⟩, a11⟩ := opB_6 h1 h
    rw [h]; intro f hf
    have hf : f ∈ [0, 1, 6] := hf
    simp only [List.mem_cons, List.not_mem_nil, or_false] at hf
    rcases hf with rfl | rfl | rfl
    · exact a2
    · exact a3
    · exact ⟨a8, a9, a10, h3⟩
  · have := opB_78 h1 (by omega) (by omega) (by omega) (by omega)
    rw [h]; intro f hf
    have hf : f ∈ [7] := hf
    simp only [List.mem_cons, List.not_mem_nil, or_false] at hf
    subst hf
    exact this.2.2.2.2.2.2.2.2.2.2
  · have := opB_78 h1 (by omega) (by omega) (by omega) (by omega)
    rw [h]; intro f hf
    have hf : f ∈ [7] := hf
    simp only [List.mem_cons, List.not_mem_nil, or_false] at hf
    subst hf
    exact this.2.2.2.2.2.2.2.2.2.2
theorem coB_eq {c : C4} (h : okC c) : coB' c = [c.r, c.g, c.b, c.a] := by
  obtain ⟨⟨h1, h2⟩, ⟨h3, h4⟩, ⟨h5, h6⟩, ⟨h7, h8⟩⟩ := h
  have e1 : ((256 ^ 1 : Nat) : Int) = 256 := by decide
  rw [e1] at h2 h4 h6 h8
  have one : ∀ n : Int, 0 ≤ n → n < 256 → layW 1 n = [n] := fun n a b => by
    unfold layW
    rw [layN, layN]
    congr 1
    rw [Nat.pow_zero, Nat.div_one]
    omega
  unfold coB'
  rw [one _ h1 h2, one _ h3 h4, one _ h5 h6, one _ h7 h8]
  rfl
theorem coB_len (c : C4) : (coB' c).length = 4 := by
  unfold coB' layW
  simp only [List.length_append, layN_len]
theorem idB_len (i : I3) : (idB i).length = 17 := by
  unfold idB layW
  simp only [List.length_append, layN_len]
theorem cols_len (l : List C4) : (l.flatMap coB').length = 4 * l.length := by
  induction l with
  | nil => rfl
  | cons a l ih => rw [List.flatMap_cons, List.length_append, ih, coB_len, List.length_cons]; omega
theorem px_le {o : OpM} (h : okF 6 o) : o.px.length ≤ 64 := by
  obtain ⟨h1, h2, h3, _⟩ := h
  unfold siD at h1 h2
  simp at h1 h2
  have a1 : o.sw * o.sh ≤ 8 * 8 := Int.mul_le_mul h1.2 h2.2 (by omega) (by omega)
  omega
theorem layF_len {f : Nat} {o : OpM} (h : okF f o) : (layF f o).length ≤ 258 := by
  unfold layF
  split
  case h_7 =>
    have := px_le h
    unfold stBy
    rw [List.length_append, List.length_append, cols_len]
    unfold layW
    rw [layN_len, layN_len]
    show 1 + 1 + 4 * o.px.length ≤ 258
    omega
  all_goals (first | (unfold plB' layW; rw [layN_len]; omega) | (unfold layW; rw [layN_len]; omega) | (rw [coB_len]; omega) | (rw [idB_len]; omega))
theorem fs_len {o : OpM} : ∀ {fs : List Nat}, (∀ f ∈ fs, okF f o) → (fs.flatMap fun f => layF f o).length ≤ 258 * fs.length
  | [], _ => by simp
  | f :: fs, h => by
    have h1 := layF_len (h f (List.mem_cons_self ..))
    have h2 := fs_len fun g hg => h g (List.mem_cons_of_mem _ hg)
    rw [List.flatMap_cons, List.length_append, List.length_cons]
    omega
theorem fieldsK_len (k : Nat) : (fieldsK k).length ≤ 6 := by
  unfold fieldsK
  split <;> simp
theorem numR_eq {a b : Nat} (ha : a < 72057594037927936) (hb : b < 256) : numR (a : Int) (b : Int) = ((a * 256 + b : Nat) : Int) := by
  have h := or_low (n := a) (b := b) (j := 8) (by omega) (by omega)
  unfold numR
  rw [IntWalk.u64_in _ (by omega), IntWalk.u64_in _ (by omega), h]
  omega
theorem fold_val : ∀ (l : List Int) (a : Nat), isB l → (a + 1) * 256 ^ l.length ≤ 18446744073709551616 → l.foldl numR (a : Int) = (valF l a : Int)
  | [], a, _, _ => rfl
  | x :: l, a, h, hb => by
    have hx := h x (List.mem_cons_self ..)
    have hl : isB l := fun y hy => h y (List.mem_cons_of_mem _ hy)
    have hp : 0 < 256 ^ l.length := pow_pos' _
    rw [List.length_cons, Nat.pow_succ] at hb
    have ha : a < 72057594037927936 := by
      have : (a + 1) * 256 ≤ (a + 1) * (256 ^ l.length * 256) := Nat.mul_le_mul_left _ (by omega)
      omega
    obtain ⟨m, rfl⟩ : ∃ m : Nat, x = m := ⟨x.toNat, by omega⟩
    rw [List.foldl_cons, numR_eq ha (by omega), fold_val l (a * 256 + m) hl ?_]
    · unfold valF
      rw [List.foldl_cons, Int.toNat_natCast]
    · have : (a * 256 + m + 1) * 256 ^ l.length ≤ ((a + 1) * 256) * 256 ^ l.length := Nat.mul_le_mul_right _ (by omega)
      rw [Nat.mul_assoc (a + 1), Nat.mul_comm 256] at this
      omega
theorem numN_valF {w : Nat} {l : List Int} (h : isB l) (hw : w ≤ 8) (hl : w ≤ l.length) : numN w l = (valF (l.take w) 0 : Int) := by
  unfold numN
  refine fold_val (l.take w) 0 (fun x hx => h x (List.mem_of_mem_take hx)) ?_
  rw [List.length_take, Nat.min_eq_left hl, Nat.zero_add, Nat.one_mul]
  exact Nat.le_trans (Nat.pow_le_pow_right (n := 256) (by decide) hw) (by decide)
theorem layR_W {n : Int} (hn : 0 ≤ n) (w : Nat) : layR n w = layW w n := by
  obtain ⟨m, rfl⟩ : ∃ m : Nat, n = m := ⟨n.toNat, by omega⟩
  unfold layW
  rw [Int.toNat_natCast]
  induction w with
  | zero => rfl
  | succ w ih => rw [layR_head, ih]; rfl
theorem bytesN_W {w : Nat} {n : Int} (hw : 1 ≤ w ∧ w ≤ 8) (hn : 0 ≤ n) : bytesN w n = layW w n := by rw [bytes_lay n w hw, layR_W hn]
theorem fits_W {w : Nat} {n : Int} (hn : 0 ≤ n ∧ n < (256 ^ w : Nat)) : fitsN w n = true := by
  have e : n / 2 ^ (8 * w) = 0 := Int.ediv_eq_zero_of_lt hn.1 (by
    rw [Int.pow_mul]
    have h2 := hn.2
    rw [Int.natCast_pow] at h2
    exact h2)
  unfold fitsN
  rw [e]
  simp
theorem layW_len (w : Nat) (n : Int) : (layW w n).length = w := layN_len _ _
theorem tN_num {w : Nat} {l r : List Int} {n : Int} (h : okL l) (hw : w ≤ 8) (e : tN w l = .ok n r) : w ≤ l.length ∧ r = l.drop w ∧ n = numN w l ∧ (0 ≤ n ∧ n < (256 ^ w : Nat)) ∧ okL r := by
  obtain ⟨h1, h2, h3, h4, h5⟩ := tN_ok h e
  exact ⟨h1, h2, by rw [h3, numN_valF h.1 hw h1], h4, h5⟩
theorem fm_at {k : Nat} {x : Mem} : (List.replicate k Mem.gone ++ [x])[k]? = some x := by
  rw [List.getElem?_append_right (by rw [List.length_replicate]; omega), List.length_replicate, Nat.sub_self]
  rfl
theorem fm_len {k : Nat} {x : Mem} : (List.replicate k Mem.gone ++ [x]).length = k + 1 := by
  rw [List.length_append, List.length_replicate]
  rfl
theorem fm_set {k : Nat} {x : Mem} : (List.replicate k Mem.gone ++ [x]).set k .gone = List.replicate (k + 1) Mem.gone := by
  rw [List.set_append_right _ _ (by rw [List.length_replicate]; omega), List.length_replicate, Nat.sub_self, List.replicate_succ']
  rfl
/-- a row that grows: where it stood before is gone -/
abbrev fmB (k : Nat) (l : List Int) : Blk := .fam (List.replicate k .gone ++ [.arr 5 1 l.length (l.flatMap uc8)])
theorem fm_eq {k m m' : Nat} {x : Mem} {L L' : List Value} (h : m = m') (h' : L = L') : some (Blk.fam ((List.replicate k Mem.gone ++ [x]).set k .gone ++ [.arr 5 1 m L])) = some (Blk.fam (List.replicate (k + 1) .gone ++ [.arr 5 1 m' L'])) := by
  rw [fm_set, h, h']
theorem fm_app {k : Nat} {x : Mem} {l l2 : List Int} : some (Blk.fam ((List.replicate k Mem.gone ++ [x]).set k .gone ++ [.arr 5 1 (l.length + l2.length) (l.flatMap uc8 ++ l2.flatMap uc8)])) = some (fmB (k + 1) (l ++ l2)) := fm_eq (by rw [List.length_append]) (by rw [List.flatMap_append])
theorem siD_rng {n : Int} (h : siD n = true) : 1 ≤ n ∧ n ≤ 8 := by
  unfold siD at h
  simpa using h
theorem one_W {n : Int} (h : 0 ≤ n ∧ n < 256) : layW 1 n = [n] := by
  unfold layW
  rw [layN, layN]
  congr 1
  rw [Nat.pow_zero, Nat.div_one]
  omega
theorem fs_take {fs : List Nat} {o : OpM} {j : Nat} (h : j < fs.length) : ((fs.take (j + 1)).flatMap fun f => layF f o) = ((fs.take j).flatMap fun f => layF f o) ++ layF fs[j] o := by
  rw [List.take_succ_eq_append_getElem h, List.flatMap_append]
  simp
theorem kdN_eq {o : OpM} (h : opB o = true) : o.kd = (kdN o : Int) ∧ 1 ≤ kdN o ∧ kdN o ≤ 8 := by
  have := opB_kd h
  unfold kdN
  omega
theorem ops_take {l : List OpM} {j : Nat} (h : j < l.length) : (l.take (j + 1)).flatMap opL = (l.take j).flatMap opL ++ opL l[j] := by
  rw [List.take_succ_eq_append_getElem h, List.flatMap_append]
  simp
theorem ops_len {l : List OpM} (h : ∀ o ∈ l, okO o) : (l.flatMap opL).length ≤ 278 * l.length := by
  induction l with
  | nil => simp
  | cons a l ih =>
    have h1 := opL_len (h a (List.mem_cons_self ..))
    have h2 := ih fun x hx => h x (List.mem_cons_of_mem _ hx)
    rw [List.flatMap_cons, List.length_append, List.length_cons]
    omega
theorem rowL_one {l : List OpM} (h : l.length ≤ 64) : rowL l = [(l.length : Int)] ++ l.flatMap opL := by
  unfold rowL
  rw [one_W (by omega)]
theorem opB_idm {o : OpM} (h : opB o = true) : mayR o.id = true := by
  unfold opB at h
  simp only [Bool.and_eq_true] at h
  exact h.1.1.1.1.1.1.2
theorem okO_take {l : List OpM} {i j : Nat} (h : ∀ j (h : j < l.length), j < i → okO l[j]) (hj : j ≤ i) : ∀ o ∈ l.take j, okO o := by
  intro o ho
  obtain ⟨q, hq, rfl⟩ := List.mem_iff_getElem.1 ho
  rw [List.length_take] at hq
  rw [List.getElem_take]
  exact h q (by omega) (by omega)
theorem tN_one {l r : List Int} {n : Int} (h : okL l) (e : tN 1 l = .ok n r) : 0 ≤ n ∧ n < 256 := by
  have h2 := (tN_ok h e).2.2.2.1
  have e1 : ((256 ^ 1 : Nat) : Int) = 256 := by decide
  rw [e1] at h2
  exact h2
theorem okL_N {w : Nat} {l r : List Int} {n : Int} (h : okL l) (e : tN w l = .ok n r) : okL r := (tN_ok h e).2.2.2.2
theorem okL_len {l : List Int} (h : okL l) : l.length ≤ 2000000 := Nat.le_trans h.2 (by decide)
/-- an operation that the laws go through -/
def ownO (o : OpM) : OpM := { o with px := o.px.take (min o.px.length 66) }
def fewL (x : List OpM) : List OpM := (x.take (min x.length 66)).map ownO
theorem fewL_len (x : List OpM) : (fewL x).length ≤ 66 := by
  unfold fewL
  rw [List.length_map, List.length_take]
  omega
theorem few_step {x : List OpM} {j : Nat} (h : j < (x.take (min x.length 66)).length) : (((x.take (min x.length 66)).take (j + 1)).map ownO) = (((x.take (min x.length 66)).take j).map ownO) ++ [ownO (x.take (min x.length 66))[j]] := by
  rw [List.take_succ_eq_append_getElem h, List.map_append]
  rfl
/-- what may be said of operations that are handed in: their colours are colours -/
def okX (o : OpM) : Prop := okC o.co ∧ ∀ c ∈ o.px, okC c
theorem fewL_ok {x : List OpM} (h : ∀ o ∈ x, okX o) : ∀ o ∈ fewL x, okX o := by
  intro o ho
  unfold fewL at ho
  obtain ⟨a, ha, rfl⟩ := List.mem_map.1 ho
  have h1 := h a (List.mem_of_mem_take ha)
  exact ⟨h1.1, fun c hc => h1.2 c (List.mem_of_mem_take hc)⟩
theorem okO_of {o : OpM} (h : opB o = true) (hx : okX o) : okO o := ⟨h, hx.1, hx.2⟩
/-- all may be, or there is a first one that may not -/
theorem ops_split {l : List OpM} (hx : ∀ o ∈ l, okX o) : (∀ o ∈ l, okO o) ∨ ∃ i, ∃ h : i < l.length, (∀ j (h : j < l.length), j < i → okO l[j]) ∧ opB l[i] = false := by
  induction l with
  | nil => exact .inl fun o h => by cases h
  | cons a l ih =>
    cases ha : opB a with
    | false => exact .inr ⟨0, by simp, fun j h hj => by omega, ha⟩
    | true =>
      have ka := okO_of ha (hx a (List.mem_cons_self ..))
      rcases ih fun o h => hx o (List.mem_cons_of_mem _ h) with h | ⟨i, hi, h1, h2⟩
      · exact .inl fun o ho => by
          rcases List.mem_cons.1 ho with rfl | ho
          · exact ka
          · exact h o ho
      · refine .inr ⟨i + 1, by simp; omega, fun j h hj => ?_, by simpa using h2⟩
        cases j with
        | zero => exact ka
        | succ j => simpa using h1 j (by simpa using h) (by omega)
def all2 {α : Type} (f : α → α → Bool) : List α → List α → Bool
  | [], [] => true
  | a :: l, b :: r => f a b && all2 f l r
  | _, _ => false
theorem all2_refl {α : Type} {f : α → α → Bool} (h : ∀ a, f a a = true) : ∀ l, all2 f l l = true
  | [] => rfl
  | a :: l => by rw [all2, h, all2_refl h l]; rfl
theorem all2_len {α : Type} {f : α → α → Bool} : ∀ {l r : List α}, l.length ≠ r.length → all2 f l r = false
  | [], [], h => absurd rfl h
  | [], _ :: _, _ => rfl
  | _ :: _, [], _ => rfl
  | a :: l, b :: r, h => by
    rw [all2, all2_len (fun e => h (by rw [List.length_cons, List.length_cons, e])), Bool.and_false]
theorem all2_drop {α : Type} {f : α → α → Bool} {l r : List α} {k : Nat} (h : k < l.length) (h2 : k < r.length) : all2 f (l.drop k) (r.drop k) = (f l[k] r[k] && all2 f (l.drop (k + 1)) (r.drop (k + 1))) := by
  rw [List.drop_eq_getElem_cons h, List.drop_eq_getElem_cons h2, all2]
/-- of which kind an error is -/
def Er {α : Type} (t : Tk α) : Prop := ∀ e, t = .err e → e = 110 ∨ e = 290
theorem Er.ok {α : Type} {a : α} {r : List Int} : Er (Tk.ok a r) := fun e h => by cases h
theorem Er.e1 {α : Type} : Er (Tk.err 110 : Tk α) := fun e h => by cases h; exact .inl rfl
theorem Er.e2 {α : Type} : Er (Tk.err 290 : Tk α) := fun e h => by cases h; exact .inr rfl
theorem Er.bind {α β : Type} {t : Tk α} {f : α → List Int → Tk β} (h : Er t) (k : ∀ a r, Er (f a r)) : Er (t.bind f) := fun e he => by
  rcases Tk.bind_err he with h1 | ⟨a, q, _, h2⟩
  · exact h e h1
  · exact k a q e h2
theorem Er.ite {α : Type} {p : Bool} {s t : Tk α} (h : Er s) (k : Er t) : Er (if p = true then s else t) := by
  split
  · exact h
  · exact k
theorem Er.N (w : Nat) (b : List Int) : Er (tN w b) := fun e h => .inl (tN_err h).2
theorem Er.rep {α : Type} {tk : Tkr α} (h : ∀ b, Er (tk b)) : ∀ n b, Er (tkRep tk n b)
  | 0, b => Er.ok
  | n + 1, b => Er.bind (h b) fun a r => Er.bind (Er.rep h n r) fun l r => Er.ok
theorem Er.I (b : List Int) : Er (tId b) := by
  rw [tId_eq]
  exact Er.bind (Er.N 8 b) fun _ r => Er.bind (Er.N 1 r) fun _ r => Er.bind (Er.N 8 r) fun _ r => Er.ite Er.ok Er.e2
theorem Er.C (b : List Int) : Er (tCo b) := by
  rw [tCo_eq]
  exact Er.bind (Er.N 1 b) fun _ r => Er.bind (Er.N 1 r) fun _ r => Er.bind (Er.N 1 r) fun _ r => Er.bind (Er.N 1 r) fun _ r => Er.ok
theorem Er.S (b : List Int) : Er (tSt b) := by
  rw [tSt_eq]
  exact Er.bind (Er.bind (Er.N 1 b) fun _ r => Er.ite Er.ok Er.e2) fun _ r => Er.bind (Er.bind (Er.N 1 r) fun _ r => Er.ite Er.ok Er.e2) fun _ r => Er.bind (Er.rep Er.C _ r) fun _ r => Er.ok
theorem Er.V (b : List Int) : Er (tVec b) := by
  rw [tVec_eq]
  have go : ∀ n v b, Er (tkVs n v b) := fun n => by
    induction n with
    | zero => exact fun v b => Er.ite Er.ok Er.e2
    | succ n ih => exact fun v b => Er.bind (Er.N 8 b) fun x r => ih _ r
  exact go 8 z9 b
theorem Er.F (f : Nat) (o : OpM) (b : List Int) : Er (tkF f o b) := by
  unfold tkF
  split
  · exact Er.bind (Er.bind (Er.N 1 b) fun _ _ => Er.ok) fun _ _ => Er.ok
  · exact Er.bind (Er.bind (Er.N 1 b) fun _ _ => Er.ok) fun _ _ => Er.ok
  · exact Er.bind (Er.bind (Er.N 1 b) fun _ _ => Er.ok) fun _ _ => Er.ok
  · exact Er.bind (Er.bind (Er.N 1 b) fun _ _ => Er.ok) fun _ _ => Er.ok
  · exact Er.bind (Er.N 2 b) fun _ _ => Er.ok
  · exact Er.bind (Er.C b) fun _ _ => Er.ok
  · exact Er.bind (Er.S b) fun _ _ => Er.ok
  · exact Er.bind (Er.I b) fun _ _ => Er.ok
theorem Er.Fs : ∀ fs o b, Er (tkFs fs o b)
  | [], o, b => Er.ite Er.ok Er.e2
  | f :: fs, o, b => Er.bind (Er.F f o b) fun o' r => Er.Fs fs o' r
theorem Er.O (b : List Int) : Er (tOp b) := by
  rw [tOp_eq]
  exact Er.bind (Er.N 1 b) fun k r => Er.ite (Er.bind (Er.I r) fun i r => Er.Fs _ _ r) Er.e2
theorem Er.R (b : List Int) : Er (tRow b) := by
  rw [tRow_eq]
  exact Er.bind (Er.N 1 b) fun k r => Er.ite (Er.rep Er.O _ r) Er.e2
end Go.Proofs.YtmacjicebemgoaaGreat
namespace Go.Proofs.YtmacjicebemgoaaGreat
set_option linter.unusedVariables false
set_option linter.unusedSimpArgs false
open Go.RowKit
section
variable {P : Program} {pc : Bool} {o : Oper} {F : Fr} {M : List Blk}
/-- a struct with rows, into a part of a variable -/
theorem op_stmp {T T' : TypeId} {x y : Operand} {i p k : Nat} {rw' : Bool} {ds l R : List D} (ho : o.op = .store T x y) (hT : tyB P T = some (rw', k)) (hx : Ev pc F x (.loc i p)) (hy : Ev pc F y (.agg ds)) (hM : M[i]? = some (.mix T' l)) (hk : ds.length = k) (hfit : Nat.ble (p + k) l.length = true) (h1 : ds.all D.oc = true) (hR : l.take p ++ ds ++ l.drop (p + k) = R) : DOp P pc o F M [i] .junk [(i, .mix T' R)] := by
  have hfit' := Nat.le_of_ble_eq_true hfit
  subst hR
  intro hp a s hok hops hfp
  have hr := ev_at hp hx (by simp [ho, Op.operands]) hops
  have hry := ev_at hp hy (by simp [ho, Op.operands]) hops
  have hM' : s.M[i]? = some (.mix T' l) := by rw [hfp i (by simp)]; exact hM
  generalize hv : a.eval x = vx at hr
  generalize hvy : a.eval y = vy at hry
  cases hr with
  | @loc _ _ b h =>
    cases hry with
    | @agg _ vs hvl hd =>
      obtain ⟨b', L, e1, e2, e3, e4⟩ := hok.blk i _ _ hM' h
      cases e1
      have hcell := cellsAt_block e2 0
      have hoc : ∀ u ∈ vs, u.oneCell' = true := fun u hu => by
        obtain ⟨j, hj, rfl⟩ := List.getElem_of_mem hu
        have hj2 : j < ds.length := by omega
        exact oc_one (hd j _ _ (List.getElem?_eq_getElem hj2) (List.getElem?_eq_getElem hj)) (List.all_eq_true.1 h1 _ (List.getElem_mem hj2))
      have hrun := run_store (P := P) (w := s.w) (C := vs) ho hT hv hvy rfl (by omega) (fun j hj => by
          have hp' : p + j < L.length := by omega
          have := hcell (p + j) L[p + j] (by simp [hp'])
          rw [Nat.zero_add] at this
          rw [this]; rfl) (fun j hj => by simp [World.frozen?, e2]) hoc
      have hβ : s.β.set i (.pointer (some ⟨b, 0, none⟩)) = s.β := by
        apply List.ext_getElem?
        intro k
        by_cases e : i = k
        · subst e; rw [List.getElem?_set_self (List.getElem?_eq_some_iff.1 h).1, h]
        · rw [List.getElem?_set_ne e]
      refine dg_skip (s' := ⟨s.β.set i (.pointer (some ⟨b, 0, none⟩)), s.I, s.M.set i (.mix T' (l.take p ++ ds ++ l.drop (p + k))), s.w.setCells b p vs⟩) hrun (tr_store hok hM' rfl h rfl p _ ?_) rfl
      have hlen : (l.take p ++ ds ++ l.drop (p + k)).length = l.length := by
        simp only [List.length_append, List.length_take, List.length_drop]
        omega
      refine ⟨b, setL L p vs, rfl, setCells_block b vs p s.w L T' e2, by rw [setL_len, hlen, e3], fun j e v hj hv' => ?_⟩
      have lift : ∀ {e : D} {v : Value}, Rep s e v → Rep ⟨s.β.set i (.pointer (some ⟨b, 0, none⟩)), s.I, s.M.set i (.mix T' (l.take p ++ ds ++ l.drop (p + k))), s.w.setCells b p vs⟩ e v := by
        intro e v hr
        refine Rep.mono' (s := s) (s' := ⟨s.β.set i (.pointer (some ⟨b, 0, none⟩)), s.I, s.M.set i (.mix T' (l.take p ++ ds ++ l.drop (p + k))), s.w.setCells b p vs⟩) (fun k x hk _ => by show (s.β.set i _)[k]? = _; rw [hβ]; exact hk) (fun _ h => h) (fun b' hI => setCells_other b _ p s.w b' fun e => ?_) hr
        subst e
        exact (hok.lt b' (live_of hM' rfl h rfl)).2 hI
      rw [setL_eq vs L p (by omega)] at hv'
      by_cases h1 : j < p
      · rw [List.append_assoc, List.getElem?_append_left (by simp; omega), List.getElem?_take_of_lt h1] at hj hv'
        exact lift (e4 j e v hj hv')
      · rw [List.append_assoc, List.getElem?_append_right (by simp; omega)] at hj hv'
        rw [List.length_take, Nat.min_eq_left (by omega)] at hj hv'
        by_cases h2 : j - p < k
        · rw [List.getElem?_append_left (by omega)] at hj hv'
          exact lift (hd _ e v hj hv')
        · rw [List.getElem?_append_right (by omega), List.getElem?_drop] at hj hv'
          rw [hvl, hk] at hv'
          rw [hk, show p + k + (j - p - k) = j by omega] at hj
          rw [show p + k + (j - p - k) = j by omega] at hv'
          exact lift (e4 j e v hj hv')
end
end Go.Proofs.YtmacjicebemgoaaGreat
namespace Go.Proofs.YtmacjicebemgoaaGreat
set_option linter.unusedVariables false
set_option linter.unusedSimpArgs false
open Go.RowKit
theorem reb_arr {e : TypeId} {sz : Nat} : ∀ s h, BlkOk s h (.arx e sz 0 []) → BlkOk s h (.arr e sz 0 []) := fun s h hk => by
  obtain ⟨vs, h1, h2, _⟩ := hk
  obtain rfl : vs = [] := List.eq_nil_of_length_eq_zero (by simpa using h2)
  exact h1
theorem reb_wk {T : TypeId} {l l' : List D} (h : WkL l l') : ∀ s hd, BlkOk s hd (.mix T l) → BlkOk s hd (.mix T l') := fun s hd hk => by
  obtain ⟨b, vs, e1, e2, e3, e4⟩ := hk
  exact ⟨b, vs, e1, e2, by rw [e3, h.1], h.rep e4⟩
section
variable {P : Program} {s0 : St} {n : Cx}
end
/-- all that a call knew is forgotten -/
theorem tr_dead {s : St} (h : Ok s) : Tr s ⟨s.β, s.I, s.M.map fun _ => Blk.gone, s.w⟩ := by
  have hg : ∀ (i : Nat) k, (s.M.map fun _ => Blk.gone)[i]? = some k → k = .gone := fun i k hk => by
    rw [List.getElem?_map] at hk
    cases hm : s.M[i]? with
    | none => rw [hm] at hk; cases hk
    | some x => rw [hm] at hk; exact (Option.some.inj hk).symm
  have nl : ∀ b, ¬ Live ⟨s.β, s.I, s.M.map fun _ => Blk.gone, s.w⟩ b := by
    rintro b ⟨i, k, hd, h1, h2, h3, h4⟩
    rw [hg i k h1] at h2
    cases h2
  refine ⟨⟨by simp [h.len], fun i k hd h1 h2 => ?_, fun b hb => (nl b hb).elim, fun i j k k' hd hd' b a1 a2 _ _ _ _ _ _ => ?_, h.il⟩, hkeep.refl _, fun _ h => h, fun _ h => .inl h, fun _ _ _ => rfl, fun b hb => (nl b hb).elim, rfl, rfl, rfl, Nat.le_refl _⟩
  · rw [hg i k h1]
    trivial
  · rw [hg i k a1] at a2
    cases a2
/-- it panics with this, whatever memory it leaves -/
abbrev DPanL (P : Program) (f : FuncId) (args : List D) (Min : List Blk) (d : D) : Prop :=
  DCalls P f args Min (fun _ _ => False) (fun d' M' => d' = d ∧ M'.length = Min.length)
theorem DPanL.dead {P : Program} {f : FuncId} {args : List D} {Min : List Blk} {d : D} (h : DPanL P f args Min d) : DPan P f args Min d (Min.map fun _ => Blk.gone) := by
  refine ⟨h.1, fun s vs hok hM hr => (h.2 s vs hok hM hr).mono ?_⟩
  rintro e w' ⟨s', rfl, ht, hor⟩
  rcases hor with ⟨d0, v, _, _, hf⟩ | ⟨d0, v, rfl, hrep, rfl, hMo⟩
  · exact hf.elim
  · refine ⟨⟨s'.β, s'.I, s'.M.map fun _ => Blk.gone, s'.w⟩, rfl, ht.trans (tr_dead ht.ok), .inr ⟨d0, v, rfl, Rep.mono' (s := s') (s' := ⟨s'.β, s'.I, s'.M.map fun _ => Blk.gone, s'.w⟩) (fun _ _ h _ => h) (fun _ h => h) (fun _ _ => rfl) hrep, rfl, ?_⟩⟩
    show (s'.M.map fun _ => Blk.gone) = Min.map fun _ => Blk.gone
    rw [List.map_const', List.map_const', hMo]
theorem DPan.weakL {P : Program} {f : FuncId} {args : List D} {Min Mout : List Blk} {d : D} (h : DPan P f args Min d Mout) (hl : Mout.length = Min.length) : DPanL P f args Min d := by
  refine ⟨h.1, fun s vs hok hM hr => (h.2 s vs hok hM hr).mono ?_⟩
  rintro e w' ⟨s', rfl, ht, hor⟩
  rcases hor with ⟨d0, v, _, _, hf⟩ | ⟨d0, v, rfl, hrep, rfl, hMo⟩
  · exact hf.elim
  · exact ⟨s', rfl, ht, .inr ⟨d0, v, rfl, hrep, rfl, by rw [hMo, hl]⟩⟩
theorem kpanL {P : Program} {fn : Func} {F : Fr} {M : List Blk} {d d' dr : D} {m k : Nat} {Mo : List Blk} {post : D → List Blk → Prop} (σ : List Nat) (hσ : okσ m σ = true) (hv : vw σ allv M d = some d') (h : d' = dr) (hM : MFits σ allv M σ Mo) (hl : Mo.length = k) : DEnd P fn m post (fun d M => d = dr ∧ M.length = k) [] (some d) F M := .pan hσ hv hM ⟨h, hl⟩
end Go.Proofs.YtmacjicebemgoaaGreat
namespace Go.Proofs.YtmacjicebemgoaaGreat
set_option linter.unusedVariables false
set_option linter.unusedSimpArgs false
open Go.RowKit
theorem eq42 {a b : C4} : eqT Tryz.prog 9 42 (c4 a) (c4 b) = some (decide (a = b)) := by
  rw [← eqC_iff]; kernel_rfl
theorem fo45_0 : fdO Tryz.prog 45 0 = some 0 := by kernel_rfl
theorem fo45_1 : fdO Tryz.prog 45 1 = some 1 := by kernel_rfl
theorem fo45_2 : fdO Tryz.prog 45 2 = some 2 := by kernel_rfl
theorem gd42 : Tryz.prog.eqGuardType Tryz.prog.depth 42 = false := by kernel_rfl
theorem sl43 : slE Tryz.prog 43 = some (42, 4, 4) := by kernel_rfl
theorem tb42 : tyB Tryz.prog 42 = some (true, 4) := by kernel_rfl
theorem tb43 : tyB Tryz.prog 43 = some (false, 1) := by kernel_rfl
set_option maxRecDepth 4000 in
set_option maxHeartbeats 1000000 in
theorem side_d (n : Int) : DFun Tryz.prog 145 [.val (.int .i64 n)] [] (.val (.bool (siD n))) [] := by
  refine zaj (N := 9) 0 (by kernel_rfl) Tryz.func145 rfl rfl rfl (by simp only [fr0, Nat.zero_add, Nat.reduceAdd]; exact rfl) rfl fun s0 hs0 => ?_
  refine zaf ?_
  refine zac ?_
  refine za rfl rfl rfl (zad (.inr rfl) (ev1 rfl)) ?_
  refine zae ?_
  refine zaf ?_
  refine zac ?_
  refine za rfl rfl rfl (zad (.inl rfl) (ev1 rfl)) ?_
  refine za rfl rfl rfl (op_geq rfl (ev1 rfl) (ev1 rfl)) ?_
  refine za rfl rfl rfl (zad (.inl rfl) (ev1 rfl)) ?_
  refine zah (gd_t rfl rfl rfl) rfl rfl rfl (zad (.inl rfl) (ev1 rfl)) ?_
  refine zah (gd_t rfl rfl rfl) rfl rfl rfl (op_leq rfl (ev2 rfl) (ev1 rfl)) ?_
  refine za rfl rfl rfl (op_and rfl (ev1 rfl) (ev3 rfl id)) ?_
  refine za rfl rfl rfl (zad (.inr rfl) (ev1 rfl)) ?_
  refine zae ?_
  refine zan ?_
  refine kend0 (rs1 rfl (rv_t rfl)) rfl ?_
  rfl
set_option maxRecDepth 4000 in
set_option maxHeartbeats 1000000 in
theorem drawn_d (n : Int) : DFun Tryz.prog 91 [.val (.int .i64 n)] [] (.val (.bool (drB n))) [] := by
  refine zaj (N := 9) 0 (by kernel_rfl) Tryz.func91 rfl rfl rfl (by simp only [fr0, Nat.zero_add, Nat.reduceAdd]; exact rfl) rfl fun s0 hs0 => ?_
  refine zaf ?_
  refine zac ?_
  refine za rfl rfl rfl (zad (.inr rfl) (ev1 rfl)) ?_
  refine zae ?_
  refine zaf ?_
  refine zac ?_
  refine za rfl rfl rfl (zad (.inl rfl) (ev1 rfl)) ?_
  refine za rfl rfl rfl (op_geq rfl (ev1 rfl) (ev1 rfl)) ?_
  refine za rfl rfl rfl (zad (.inl rfl) (ev1 rfl)) ?_
  refine zah (gd_t rfl rfl rfl) rfl rfl rfl (zad (.inl rfl) (ev1 rfl)) ?_
  refine zah (gd_t rfl rfl rfl) rfl rfl rfl (op_leq rfl (ev2 rfl) (ev1 rfl)) ?_
  refine za rfl rfl rfl (op_and rfl (ev1 rfl) (ev3 rfl id)) ?_
  refine za rfl rfl rfl (zad (.inr rfl) (ev1 rfl)) ?_
  refine zae ?_
  refine zan ?_
  refine kend0 (rs1 rfl (rv_t rfl)) rfl ?_
  rfl
theorem eqI_dec (a b : I3) : eqI a b = decide (a = b) := by
  rw [Bool.eq_iff_iff, eqI_iff]; simp
set_option maxRecDepth 4000 in
set_option maxHeartbeats 1000000 in
theorem equalC (l r : List C4) : DFun Tryz.prog 85 [.slf 4 l.length (l.flatMap c4), .slf 4 r.length (r.flatMap c4)] [] (.val (.bool (decide (l = r)))) [] := by
  refine zaj (N := 26) 0 (by kernel_rfl) Tryz.func85 rfl rfl rfl (by simp only [fr0, Nat.zero_add, Nat.reduceAdd]; exact rfl) rfl fun s0 hs0 => ?_
  refine dwp_len (t := 0) rfl fun hl0 hL0 => ?_
  refine dwp_len (t := 1) rfl fun hl1 hL1 => ?_
  refine zaf ?_
  refine zac ?_
  refine za rfl rfl rfl (zad (.inr rfl) (ev1 rfl)) ?_
  refine zae ?_
  refine zaf ?_
  refine zaf ?_
  refine zac ?_
  refine za rfl rfl rfl (zad (.inl rfl) (ev1 rfl)) ?_
  refine za rfl rfl rfl (op_len rfl sl43 (ev1 rfl)) ?_
  refine za rfl rfl rfl (zad (.inl rfl) (ev1 rfl)) ?_
  refine za rfl rfl rfl (op_len rfl sl43 (ev1 rfl)) ?_
  refine za rfl rfl rfl (op_neq rfl (ev1 rfl) (ev1 rfl)) ?_
  refine zae ?_
  refine dwp_cond rfl (fun c1 => ?_) (fun c1 => ?_)
  · try simp only [decide_eq_true_eq, decide_eq_false_iff_not, beq_iff_eq, bne_iff_ne, beq_eq_false_iff_ne, bne_eq_false_iff_eq, Bool.not_eq_true', Bool.not_eq_false', Bool.and_eq_true, Bool.or_eq_true, Bool.or_eq_false_iff, ne_eq, Decidable.not_not, Int.not_lt, Int.not_le] at c1
    refine zaf ?_
    refine zac ?_
    refine za rfl rfl rfl (zad (.inr rfl) (ev1 rfl)) ?_
    refine zae ?_
    refine zan ?_
    refine kend0 (rs1 rfl (rv_t rfl)) rfl ?_
    have hne : l ≠ r := fun e => by subst e; exact c1 rfl
    rw [decide_eq_false hne]
  · try simp only [decide_eq_true_eq, decide_eq_false_iff_not, beq_iff_eq, bne_iff_ne, beq_eq_false_iff_ne, bne_eq_false_iff_eq, Bool.not_eq_true', Bool.not_eq_false', Bool.and_eq_true, Bool.or_eq_true, Bool.or_eq_false_iff, ne_eq, Decidable.not_not, Int.not_lt, Int.not_le] at c1
    have hlen : l.length = r.length := by omega
    refine zam ?_
    refine zaf ?_
    refine zaf ?_
    refine zac ?_
    refine za rfl rfl rfl (zad (.inl rfl) (ev1 rfl)) ?_
    refine za rfl rfl rfl (op_len rfl sl43 (ev1 rfl)) ?_
    refine za rfl rfl rfl (zad (.inl rfl) (ev1 rfl)) ?_
    refine zae ?_
    refine dwp_block ?_
    refine dwp_loopS ⟨hs0, rfl⟩ (α := Nat) (fun k => [(13, .val (.int .i64 (k : Int)))]) [(0, _), (1, _), (12, _)] (fun k => []) [] (fun k => k ≤ l.length ∧ l.take k = r.take k) (fun k => l.length - k) 0 [] (by simp) rfl ⟨rfl, rfl, rfl, trivial⟩ ⟨rfl, trivial⟩ trivial ?_
    intro k hx
    simp only [upd, zaa, zab, List.cons_append, List.nil_append]
    obtain ⟨hk, he⟩ := hx
    refine zaf ?_
    refine zac ?_
    refine za rfl rfl rfl (op_lss rfl (ev1 rfl) (ev1 rfl)) ?_
    refine zae ?_
    refine zaf ?_
    refine dwp_cond rfl (fun c2 => ?_) (fun c2 => ?_)
    · try simp only [decide_eq_true_eq, decide_eq_false_iff_not, beq_iff_eq, bne_iff_ne, beq_eq_false_iff_ne, bne_eq_false_iff_eq, Bool.not_eq_true', Bool.not_eq_false', Bool.and_eq_true, Bool.or_eq_true, Bool.or_eq_false_iff, ne_eq, Decidable.not_not, Int.not_lt, Int.not_le] at c2
      refine zam ?_
      refine zaf ?_
      refine dwp_block ?_
      refine zaf ?_
      refine zac ?_
      refine za rfl rfl rfl (zad (.inl rfl) (ev1 rfl)) ?_
      refine za rfl rfl rfl (zad (.inr rfl) (ev1 rfl)) ?_
      refine zae ?_
      refine zaf ?_
      refine dwp_draw [([], []), ([], []), ([], []), ([], []), ([], []), ([], []), ([], []), ([], []), ([], [])] mixed (by kernel_rfl) ?_
      refine lex_r rfl rfl (zad (.inl rfl) (ev1 rfl)) ?_
      refine lex_r rfl rfl (zad (.inl rfl) (ev1 rfl)) ?_
      refine lex_r rfl rfl (op_ixsr (j := k) rfl sl43 (ev1 rfl) (ev1 rfl) (fun _ => rfl) (by decide) (by omega) (by omega)) ?_
      refine lex_r rfl rfl (op_ldwd rfl tb42 (ev1 rfl) rfl) ?_
      refine lex_r rfl rfl (zad (.inl rfl) (ev1 rfl)) ?_
      refine lex_r rfl rfl (zad (.inl rfl) (ev1 rfl)) ?_
      refine lex_r rfl rfl (op_ixsr (j := k) rfl sl43 (ev1 rfl) (ev1 rfl) (fun _ => rfl) (by decide) (by omega) (by omega)) ?_
      refine lex_r rfl rfl (op_ldwd rfl tb42 (ev1 rfl) rfl) ?_
      refine lex_r rfl rfl (op_ner eq42 rfl gd42 tb42 (ev1 rfl) (ev1 rfl)) ?_
      refine lex_nil ?_
      refine dwp_cond rfl (fun c2 => ?_) (fun c2 => ?_)
      · have c3 : l[k] ≠ r[k] := by simpa using c2
        refine zaf ?_
        refine zac ?_
        refine za rfl rfl rfl (zad (.inr rfl) (ev1 rfl)) ?_
        refine zae ?_
        refine zan ?_
        refine kend0 (rs1 rfl (rv_t rfl)) rfl ?_
        have hne : l ≠ r := fun e => by subst e; exact c3 rfl
        rw [decide_eq_false hne]
      · have c3 : l[k] = r[k] := by simpa using c2
        refine zam ?_
        refine zac ?_
        refine za rfl rfl rfl (op_add' rfl (ev1 rfl) (ev1 rfl) (fun _ => IntWalk.i64_in _ (by omega))) ?_
        refine za rfl rfl rfl (zad (.inl rfl) (ev1 rfl)) ?_
        refine zae ?_
        refine ⟨k + 1, [], ⟨by omega, by rw [List.take_succ_eq_append_getElem (by omega), List.take_succ_eq_append_getElem (by omega), he, c3]⟩, by simp only []; omega, rfl, ⟨rfl, rfl, rfl, rfl, trivial⟩, trivial⟩
    · try simp only [decide_eq_true_eq, decide_eq_false_iff_not, beq_iff_eq, bne_iff_ne, beq_eq_false_iff_ne, bne_eq_false_iff_eq, Bool.not_eq_true', Bool.not_eq_false', Bool.and_eq_true, Bool.or_eq_true, Bool.or_eq_false_iff, ne_eq, Decidable.not_not, Int.not_lt, Int.not_le] at c2
      refine dwp_exit ?_
      refine zaf ?_
      refine zac ?_
      refine za rfl rfl rfl (zad (.inr rfl) (ev1 rfl)) ?_
      refine zae ?_
      refine zan ?_
      refine kend0 (rs1 rfl (rv_t rfl)) rfl ?_
      have e : l = r := by
        have h := he
        rw [List.take_of_length_le (by omega), List.take_of_length_le (by omega)] at h
        exact h
      rw [decide_eq_true e]
theorem stCk {w h : Int} {l : List C4} : (((!siD w) || (!siD h)) || !((l.length : Int) == IntKind.i64.wrap (w * h))) = !stB w h l := by
  unfold stB
  cases h1 : siD w
  · rfl
  · cases h2 : siD h
    · rfl
    · have e : IntKind.i64.wrap (w * h) = w * h := IntWalk.i64_in _ (by
        unfold siD at h1 h2
        simp at h1 h2
        have a1 : 0 ≤ w * h := Int.mul_nonneg (by omega) (by omega)
        have a2 : w * h ≤ 8 * 8 := Int.mul_le_mul h1.2 h2.2 (by omega) (by omega)
        omega)
      rw [e]
      rw [Bool.eq_iff_iff]
      simp
set_option maxRecDepth 4000 in
set_option maxHeartbeats 1000000 in
theorem stCheck_d (w h : Int) (l : List C4) : DFun Tryz.prog 110 [.agg [iD w, iD h, pxD l]] [] (.val (.int .i64 (errOr (stB w h l) 190))) [] := by
  refine zaj (N := 24) 0 (by kernel_rfl) Tryz.func110 rfl rfl rfl (by simp only [fr0, Nat.zero_add, Nat.reduceAdd]; exact rfl) rfl fun s0 hs0 => ?_
  refine zaf ?_
  refine zai 1 (by simp only [holes, List.cons_append, List.nil_append]; exact rfl) ?_
  refine zac ?_
  refine zak rfl rfl rfl (op_boxam 0 rfl (ev1 rfl) rfl) (by simp only [upd, zaa, zab]; exact rfl) ?_
  refine za rfl rfl rfl (zad (.inr rfl) (ev1 rfl)) ?_
  refine zae ?_
  refine zaf ?_
  refine zaf ?_
  refine zac ?_
  refine za rfl rfl rfl (zal rfl fo45_0 (ev1 rfl)) ?_
  refine za rfl rfl rfl (op_ldm rfl tb3 (ev1 rfl) rfl rfl) ?_
  refine za rfl rfl rfl (zag [] [] [] rfl (ev1 rfl) (ec (ev1 rfl) en) rfl rfl (side_d _) rfl rfl rfl rfl rfl rfl) ?_
  refine za rfl rfl rfl (op_not rfl (ev1 rfl)) ?_
  refine za rfl rfl rfl (zad (.inl rfl) (ev1 rfl)) ?_
  refine zah (gd_f rfl rfl rfl) rfl rfl rfl (zal rfl fo45_1 (ev1 rfl)) ?_
  refine zah (gd_f rfl rfl rfl) rfl rfl rfl (op_ldm rfl tb3 (ev2 rfl) rfl rfl) ?_
  refine zah (gd_f rfl rfl rfl) rfl rfl rfl (zag [] [] [] rfl (ev1 rfl) (ec (ev2 rfl) en) rfl rfl (side_d _) rfl rfl rfl rfl rfl rfl) ?_
  refine zah (gd_f rfl rfl rfl) rfl rfl rfl (op_not rfl (ev2 rfl)) ?_
  refine za rfl rfl rfl (op_or rfl (ev1 rfl) (ev3 rfl id)) ?_
  refine za rfl rfl rfl (zad (.inl rfl) (ev1 rfl)) ?_
  refine zah (gd_f rfl rfl rfl) rfl rfl rfl (zal rfl fo45_2 (ev1 rfl)) ?_
  refine zah (gd_f rfl rfl rfl) rfl rfl rfl (op_ldm rfl tb43 (ev2 rfl) rfl rfl) ?_
  refine zah (gd_f rfl rfl rfl) rfl rfl rfl (op_len rfl sl43 (ev2 rfl)) ?_
  refine zah (gd_f rfl rfl rfl) rfl rfl rfl (zal rfl fo45_0 (ev1 rfl)) ?_
  refine zah (gd_f rfl rfl rfl) rfl rfl rfl (op_ldm rfl tb3 (ev2 rfl) rfl rfl) ?_
  refine zah (gd_f rfl rfl rfl) rfl rfl rfl (zal rfl fo45_1 (ev1 rfl)) ?_
  refine zah (gd_f rfl rfl rfl) rfl rfl rfl (op_ldm rfl tb3 (ev2 rfl) rfl rfl) ?_
  refine zah (gd_f rfl rfl rfl) rfl rfl rfl (op_mul rfl (ev2 rfl) (ev2 rfl)) ?_
  refine zah (gd_f rfl rfl rfl) rfl rfl rfl (op_neq rfl (ev2 rfl) (ev2 rfl)) ?_
  refine za rfl rfl rfl (op_or rfl (ev1 rfl) (ev3 rfl id)) ?_
  refine zae ?_
  refine dwp_cond rfl (fun c1 => ?_) (fun c1 => ?_)
  · have hb : stB w h l = false := notT (stCk.symm.trans c1)
    refine zaf ?_
    refine zac ?_
    refine za rfl rfl rfl (zad (.inr rfl) (ev1 rfl)) ?_
    refine zae ?_
    refine zan ?_
    refine kend0 (rs1 rfl (rv_t rfl)) rfl ?_
    rw [hb]
    rfl
  · have hb : stB w h l = true := notF (stCk.symm.trans c1)
    refine zam ?_
    refine zaf ?_
    refine zac ?_
    refine za rfl rfl rfl (zad (.inr rfl) (ev1 rfl)) ?_
    refine zae ?_
    refine zan ?_
    refine kend0 (rs1 rfl (rv_t rfl)) rfl ?_
    rw [hb]
    rfl
set_option maxRecDepth 4000 in
set_option maxHeartbeats 1000000 in
theorem stSame_d (w h w2 h2 : Int) (l r : List C4) : DFun Tryz.prog 53 [.agg [iD w, iD h, pxD l], .agg [iD w2, iD h2, pxD r]] [] (.val (.bool (((w == w2) && (h == h2)) && decide (l = r)))) [] := by
  refine zaj (N := 24) 0 (by kernel_rfl) Tryz.func53 rfl rfl rfl (by simp only [fr0, Nat.zero_add, Nat.reduceAdd]; exact rfl) rfl fun s0 hs0 => ?_
  refine zaf ?_
  refine zai 2 (by simp only [holes, List.cons_append, List.nil_append]; exact rfl) ?_
  refine zac ?_
  refine zak rfl rfl rfl (op_boxam 0 rfl (ev1 rfl) rfl) (by simp only [upd, zaa, zab]; exact rfl) ?_
  refine zak rfl rfl rfl (op_boxam 1 rfl (ev1 rfl) rfl) (by simp only [upd, zaa, zab]; exact rfl) ?_
  refine za rfl rfl rfl (zad (.inr rfl) (ev1 rfl)) ?_
  refine zae ?_
  refine zaf ?_
  refine zac ?_
  refine za rfl rfl rfl (zal rfl fo45_0 (ev1 rfl)) ?_
  refine za rfl rfl rfl (op_ldm rfl tb3 (ev1 rfl) rfl rfl) ?_
  refine za rfl rfl rfl (zal rfl fo45_0 (ev1 rfl)) ?_
  refine za rfl rfl rfl (op_ldm rfl tb3 (ev1 rfl) rfl rfl) ?_
  refine za rfl rfl rfl (op_eql rfl (ev1 rfl) (ev1 rfl)) ?_
  refine za rfl rfl rfl (zad (.inl rfl) (ev1 rfl)) ?_
  refine zah (gd_t rfl rfl rfl) rfl rfl rfl (zal rfl fo45_1 (ev1 rfl)) ?_
  refine zah (gd_t rfl rfl rfl) rfl rfl rfl (op_ldm rfl tb3 (ev2 rfl) rfl rfl) ?_
  refine zah (gd_t rfl rfl rfl) rfl rfl rfl (zal rfl fo45_1 (ev1 rfl)) ?_
  refine zah (gd_t rfl rfl rfl) rfl rfl rfl (op_ldm rfl tb3 (ev2 rfl) rfl rfl) ?_
  refine zah (gd_t rfl rfl rfl) rfl rfl rfl (op_eql rfl (ev2 rfl) (ev2 rfl)) ?_
  refine za rfl rfl rfl (op_and rfl (ev1 rfl) (ev3 rfl id)) ?_
  refine za rfl rfl rfl (zad (.inl rfl) (ev1 rfl)) ?_
  refine zah (gd_t rfl rfl rfl) rfl rfl rfl (zal rfl fo45_2 (ev1 rfl)) ?_
  refine zah (gd_t rfl rfl rfl) rfl rfl rfl (op_ldm rfl tb43 (ev2 rfl) rfl rfl) ?_
  refine zah (gd_t rfl rfl rfl) rfl rfl rfl (zal rfl fo45_2 (ev1 rfl)) ?_
  refine zah (gd_t rfl rfl rfl) rfl rfl rfl (op_ldm rfl tb43 (ev2 rfl) rfl rfl) ?_
  refine zah (gd_t rfl rfl rfl) rfl rfl rfl (zag [] [] [] rfl (ev1 rfl) (ec (ev2 rfl) (ec (ev2 rfl) en)) rfl rfl (equalC _ _) rfl rfl rfl rfl rfl rfl) ?_
  refine za rfl rfl rfl (op_and rfl (ev1 rfl) (ev3 rfl id)) ?_
  refine za rfl rfl rfl (zad (.inr rfl) (ev1 rfl)) ?_
  refine zae ?_
  refine zan ?_
  refine kend0 (rs1 rfl (rv_t rfl)) rfl ?_
  rfl
end Go.Proofs.YtmacjicebemgoaaGreat
namespace Go.Proofs.YtmacjicebemgoaaGreat
set_option linter.unusedVariables false
set_option linter.unusedSimpArgs false
open Go.RowKit
theorem ar123 : arE Tryz.prog 123 = some (8, 4) := by kernel_rfl
theorem ar145 : arE Tryz.prog 145 = some (9, 4) := by kernel_rfl
theorem av145 : arV Tryz.prog 145 = some (9, 4) := by kernel_rfl
theorem fl115 : fdL Tryz.prog 115 = some [(0, 1), (1, 1), (2, 1), (3, 1)] := by kernel_rfl
theorem fl122 : fdL Tryz.prog 122 = some [(0, 1), (1, 1), (2, 1), (3, 1)] := by kernel_rfl
theorem fl29 : fdL Tryz.prog 29 = some [(0, 1), (1, 1), (2, 1)] := by kernel_rfl
theorem fl42 : fdL Tryz.prog 42 = some [(0, 1), (1, 1), (2, 1), (3, 1)] := by kernel_rfl
theorem fl45 : fdL Tryz.prog 45 = some [(0, 1), (1, 1), (2, 1)] := by kernel_rfl
theorem fo115_1 : fdO Tryz.prog 115 1 = some 1 := by kernel_rfl
theorem fo47_0 : fdO Tryz.prog 47 0 = some 0 := by kernel_rfl
theorem fo47_2 : fdO Tryz.prog 47 2 = some 4 := by kernel_rfl
theorem fo47_3 : fdO Tryz.prog 47 3 = some 5 := by kernel_rfl
theorem fo47_4 : fdO Tryz.prog 47 4 = some 6 := by kernel_rfl
theorem fo47_5 : fdO Tryz.prog 47 5 = some 7 := by kernel_rfl
theorem fo47_6 : fdO Tryz.prog 47 6 = some 8 := by kernel_rfl
theorem fo47_7 : fdO Tryz.prog 47 7 = some 9 := by kernel_rfl
theorem fo47_8 : fdO Tryz.prog 47 8 = some 13 := by kernel_rfl
theorem fo47_9 : fdO Tryz.prog 47 9 = some 16 := by kernel_rfl
theorem tb115 : tyB Tryz.prog 115 = some (true, 4) := by kernel_rfl
theorem tb123 : tyB Tryz.prog 123 = some (true, 32) := by kernel_rfl
theorem tb145 : tyB Tryz.prog 145 = some (true, 36) := by kernel_rfl
theorem tb45 : tyB Tryz.prog 45 = some (true, 3) := by kernel_rfl
theorem zr115 : zrC Tryz.prog 115 = some [.int .i64 0, .int .i64 0, .nilFunc, .nilFunc] := by kernel_rfl
theorem zr122 : zrC Tryz.prog 122 = some [.string ⟨#[]⟩, .nilFunc, .nilFunc, .nilFunc] := by kernel_rfl
theorem zr123 : zrC Tryz.prog 123 = some [.string ⟨#[]⟩, .nilFunc, .nilFunc, .nilFunc, .string ⟨#[]⟩, .nilFunc, .nilFunc, .nilFunc, .string ⟨#[]⟩, .nilFunc, .nilFunc, .nilFunc, .string ⟨#[]⟩, .nilFunc, .nilFunc, .nilFunc, .string ⟨#[]⟩, .nilFunc, .nilFunc, .nilFunc, .string ⟨#[]⟩, .nilFunc, .nilFunc, .nilFunc, .string ⟨#[]⟩, .nilFunc, .nilFunc, .nilFunc, .string ⟨#[]⟩, .nilFunc, .nilFunc, .nilFunc] := by kernel_rfl
theorem zr145 : zrC Tryz.prog 145 = some [.int .i64 0, .int .i64 0, .nilFunc, .nilFunc, .int .i64 0, .int .i64 0, .nilFunc, .nilFunc, .int .i64 0, .int .i64 0, .nilFunc, .nilFunc, .int .i64 0, .int .i64 0, .nilFunc, .nilFunc, .int .i64 0, .int .i64 0, .nilFunc, .nilFunc, .int .i64 0, .int .i64 0, .nilFunc, .nilFunc, .int .i64 0, .int .i64 0, .nilFunc, .nilFunc, .int .i64 0, .int .i64 0, .nilFunc, .nilFunc, .int .i64 0, .int .i64 0, .nilFunc, .nilFunc] := by kernel_rfl
theorem zr29 : zrC Tryz.prog 29 = some (idc zI3) := by kernel_rfl
theorem zr42 : zrC Tryz.prog 42 = some (c4 zC4) := by kernel_rfl
theorem zr45 : zrC Tryz.prog 45 = some [.int .i64 0, .int .i64 0, .slice none 0 0] := by kernel_rfl
def kndL : List D := [iD 0, iD 0, .val .nilFunc, .val .nilFunc, iD 63, iD 15, .fn (.func 136) [] [], .fn (.func 137) [] [], iD 63, iD 15, .fn (.func 136) [] [], .fn (.func 137) [] [], iD 47, iD 0, .fn (.func 138) [] [], .fn (.func 139) [] [], iD 47, iD 0, .fn (.func 140) [] [], .fn (.func 139) [] [], iD 51, iD 1020, .fn (.func 141) [] [], .fn (.func 142) [] [], iD 67, iD 0, .fn (.func 143) [] [], .fn (.func 144) [] [], iD 128, iD 0, .val .nilFunc, .val .nilFunc, iD 128, iD 0, .val .nilFunc, .val .nilFunc]
def fldL : List D := [.val (.string ⟨#[88]⟩), .fn (.func 90) [] [], .fn (.func 92) [] [], .fn (.func 93) [] [], .val (.string ⟨#[89]⟩), .fn (.func 94) [] [], .fn (.func 95) [] [], .fn (.func 96) [] [], .val (.string ⟨#[88, 50]⟩), .fn (.func 97) [] [], .fn (.func 98) [] [], .fn (.func 99) [] [], .val (.string ⟨#[89, 50]⟩), .fn (.func 100) [] [], .fn (.func 101) [] [], .fn (.func 102) [] [], .val (.string ⟨#[83, 105, 122, 101]⟩), .fn (.func 103) [] [], .fn (.func 104) [] [], .fn (.func 105) [] [], .val (.string ⟨#[67, 111, 108, 111, 114]⟩), .fn (.func 106) [] [], .fn (.func 107) [] [], .fn (.func 108) [] [], .val (.string ⟨#[83, 116, 97, 109, 112]⟩), .fn (.func 109) [] [], .fn (.func 111) [] [], .fn (.func 112) [] [], .val (.string ⟨#[84, 97, 114, 103, 101, 116]⟩), .fn (.func 114) [] [], .fn (.func 116) [] [], .fn (.func 117) [] []]
theorem wkSt0 : Wk (.val (.agg #[.int .i64 0, .int .i64 0, .slice none 0 0])) (.agg [iD 0, iD 0, pxD []]) := (Wk.vagg [.int .i64 0, .int .i64 0, .slice none 0 0]).trans (Wk.agg (WkL.cons (Wk.refl _) (WkL.cons (Wk.refl _) (WkL.cons (Wk.slf0 4) WkL.nil))))
set_option maxRecDepth 4000 in
set_option maxHeartbeats 1000000 in
theorem kinds_d : DFun Tryz.prog 89 [] [] (.agg kndL) [] := by
  refine zaj (N := 10) 0 (by kernel_rfl) Tryz.func89 rfl rfl rfl (by simp only [fr0, Nat.zero_add, Nat.reduceAdd]; exact rfl) rfl fun s0 hs0 => ?_
  refine zaf ?_
  refine zai 1 (by simp only [holes, List.cons_append, List.nil_append]; exact rfl) ?_
  refine zac ?_
  refine zak rfl rfl rfl (op_alloc 0 rfl zr145 rfl) (by simp only [upd, zaa, zab]; exact rfl) ?_
  refine zae ?_
  refine zaf ?_
  refine zac ?_
  refine za rfl rfl rfl (op_bldD (ps := [(0, .const (.int .i64 63)), (1, .const (.int .i64 15)), (2, .func 136), (3, .func 137)]) rfl fl115 zr115 (ec (ev1 rfl) (ec (ev1 rfl) (ec (ev1 rfl) (ec (ev1 rfl) en)))) rfl rfl rfl) ?_
  refine za rfl rfl rfl (op_bldD (ps := [(0, .const (.int .i64 63)), (1, .const (.int .i64 15)), (2, .func 136), (3, .func 137)]) rfl fl115 zr115 (ec (ev1 rfl) (ec (ev1 rfl) (ec (ev1 rfl) (ec (ev1 rfl) en)))) rfl rfl rfl) ?_
  refine za rfl rfl rfl (op_bldD (ps := [(0, .const (.int .i64 47)), (1, .const (.int .i64 0)), (2, .func 138), (3, .func 139)]) rfl fl115 zr115 (ec (ev1 rfl) (ec (ev1 rfl) (ec (ev1 rfl) (ec (ev1 rfl) en)))) rfl rfl rfl) ?_
  refine za rfl rfl rfl (op_bldD (ps := [(0, .const (.int .i64 47)), (1, .const (.int .i64 0)), (2, .func 140), (3, .func 139)]) rfl fl115 zr115 (ec (ev1 rfl) (ec (ev1 rfl) (ec (ev1 rfl) (ec (ev1 rfl) en)))) rfl rfl rfl) ?_
  refine za rfl rfl rfl (op_bldD (ps := [(0, .const (.int .i64 51)), (1, .const (.int .i64 1020)), (2, .func 141), (3, .func 142)]) rfl fl115 zr115 (ec (ev1 rfl) (ec (ev1 rfl) (ec (ev1 rfl) (ec (ev1 rfl) en)))) rfl rfl rfl) ?_
  refine za rfl rfl rfl (op_bldD (ps := [(0, .const (.int .i64 67)), (1, .const (.int .i64 0)), (2, .func 143), (3, .func 144)]) rfl fl115 zr115 (ec (ev1 rfl) (ec (ev1 rfl) (ec (ev1 rfl) (ec (ev1 rfl) en)))) rfl rfl rfl) ?_
  refine za rfl rfl rfl (op_build (ps := [(0, .const (.int .i64 128))]) rfl fl115 zr115 (vc (ev1 rfl) vn) rfl rfl) ?_
  refine za rfl rfl rfl (op_build (ps := [(0, .const (.int .i64 128))]) rfl fl115 zr115 (vc (ev1 rfl) vn) rfl rfl) ?_
  refine za rfl rfl rfl (op_bldaD (ps := [(1, .tmp 1), (2, .tmp 2), (3, .tmp 3), (4, .tmp 4), (5, .tmp 5), (6, .tmp 6), (7, .tmp 7), (8, .tmp 8)]) rfl ar145 zr145 (ec (ev1 rfl) (ec (ev1 rfl) (ec (ev1 rfl) (ec (ev1 rfl) (ec (ev1 rfl) (ec (ev1 rfl) (ec (ev1 rfl) (ec (ev1 rfl) en)))))))) rfl rfl rfl rfl) ?_
  refine walk_s rfl rfl (op_stam rfl tb145 (ev1 rfl) (ev1 rfl) rfl rfl rfl rfl) (by simp only [upd, zaa, zab]; exact rfl) ?_
  refine zae ?_
  refine zan ?_
  refine kend0 (rs1 rfl (rv_mw tb145 rfl rfl rfl)) rfl ?_
  rfl
set_option maxRecDepth 4000 in
set_option maxHeartbeats 1000000 in
theorem fields_d : DFun Tryz.prog 63 [] [] (.agg fldL) [] := by
  refine zaj (N := 10) 0 (by kernel_rfl) Tryz.func63 rfl rfl rfl (by simp only [fr0, Nat.zero_add, Nat.reduceAdd]; exact rfl) rfl fun s0 hs0 => ?_
  refine zaf ?_
  refine zai 1 (by simp only [holes, List.cons_append, List.nil_append]; exact rfl) ?_
  refine zac ?_
  refine zak rfl rfl rfl (op_alloc 0 rfl zr123 rfl) (by simp only [upd, zaa, zab]; exact rfl) ?_
  refine zae ?_
  refine zaf ?_
  refine zac ?_
  refine za rfl rfl rfl (op_bldD (ps := [(0, .const (.string ⟨#[88]⟩)), (1, .func 90), (2, .func 92), (3, .func 93)]) rfl fl122 zr122 (ec (ev1 rfl) (ec (ev1 rfl) (ec (ev1 rfl) (ec (ev1 rfl) en)))) rfl rfl rfl) ?_
  refine za rfl rfl rfl (op_bldD (ps := [(0, .const (.string ⟨#[89]⟩)), (1, .func 94), (2, .func 95), (3, .func 96)]) rfl fl122 zr122 (ec (ev1 rfl) (ec (ev1 rfl) (ec (ev1 rfl) (ec (ev1 rfl) en)))) rfl rfl rfl) ?_
  refine za rfl rfl rfl (op_bldD (ps := [(0, .const (.string ⟨#[88, 50]⟩)), (1, .func 97), (2, .func 98), (3, .func 99)]) rfl fl122 zr122 (ec (ev1 rfl) (ec (ev1 rfl) (ec (ev1 rfl) (ec (ev1 rfl) en)))) rfl rfl rfl) ?_
  refine za rfl rfl rfl (op_bldD (ps := [(0, .const (.string ⟨#[89, 50]⟩)), (1, .func 100), (2, .func 101), (3, .func 102)]) rfl fl122 zr122 (ec (ev1 rfl) (ec (ev1 rfl) (ec (ev1 rfl) (ec (ev1 rfl) en)))) rfl rfl rfl) ?_
  refine za rfl rfl rfl (op_bldD (ps := [(0, .const (.string ⟨#[83, 105, 122, 101]⟩)), (1, .func 103), (2, .func 104), (3, .func 105)]) rfl fl122 zr122 (ec (ev1 rfl) (ec (ev1 rfl) (ec (ev1 rfl) (ec (ev1 rfl) en)))) rfl rfl rfl) ?_
  refine za rfl rfl rfl (op_bldD (ps := [(0, .const (.string ⟨#[67, 111, 108, 111, 114]⟩)), (1, .func 106), (2, .func 107), (3, .func 108)]) rfl fl122 zr122 (ec (ev1 rfl) (ec (ev1 rfl) (ec (ev1 rfl) (ec (ev1 rfl) en)))) rfl rfl rfl) ?_
  refine za rfl rfl rfl (op_bldD (ps := [(0, .const (.string ⟨#[83, 116, 97, 109, 112]⟩)), (1, .func 109), (2, .func 111), (3, .func 112)]) rfl fl122 zr122 (ec (ev1 rfl) (ec (ev1 rfl) (ec (ev1 rfl) (ec (ev1 rfl) en)))) rfl rfl rfl) ?_
  refine za rfl rfl rfl (op_bldD (ps := [(0, .const (.string ⟨#[84, 97, 114, 103, 101, 116]⟩)), (1, .func 114), (2, .func 116), (3, .func 117)]) rfl fl122 zr122 (ec (ev1 rfl) (ec (ev1 rfl) (ec (ev1 rfl) (ec (ev1 rfl) en)))) rfl rfl rfl) ?_
  refine za rfl rfl rfl (op_bldaD (ps := [(0, .tmp 1), (1, .tmp 2), (2, .tmp 3), (3, .tmp 4), (4, .tmp 5), (5, .tmp 6), (6, .tmp 7), (7, .tmp 8)]) rfl ar123 zr123 (ec (ev1 rfl) (ec (ev1 rfl) (ec (ev1 rfl) (ec (ev1 rfl) (ec (ev1 rfl) (ec (ev1 rfl) (ec (ev1 rfl) (ec (ev1 rfl) en)))))))) rfl rfl rfl rfl) ?_
  refine walk_s rfl rfl (op_stam rfl tb123 (ev1 rfl) (ev1 rfl) rfl rfl rfl rfl) (by simp only [upd, zaa, zab]; exact rfl) ?_
  refine zae ?_
  refine zan ?_
  refine kend0 (rs1 rfl (rv_mw tb123 rfl rfl rfl)) rfl ?_
  rfl
set_option maxRecDepth 4000 in
set_option maxHeartbeats 1000000 in
theorem kindOf_1 : DFun Tryz.prog 62 [.val (.int .i64 1)] [] (.tup [.agg [iD 63, iD 15, .fn (.func 136) [] [], .fn (.func 137) [] []], .val (.bool true)]) [] := by
  refine zaj (N := 14) 0 (by kernel_rfl) Tryz.func62 rfl rfl rfl (by simp only [fr0, Nat.zero_add, Nat.reduceAdd]; exact rfl) rfl fun s0 hs0 => ?_
  refine zaf ?_
  refine zai 1 (by simp only [holes, List.cons_append, List.nil_append]; exact rfl) ?_
  refine zac ?_
  refine zak rfl rfl rfl (op_alloc 0 rfl zr115 rfl) (by simp only [upd, zaa, zab]; exact rfl) ?_
  refine za rfl rfl rfl (zad (.inr rfl) (ev1 rfl)) ?_
  refine zae ?_
  refine zaf ?_
  refine zaf ?_
  refine zac ?_
  refine za rfl rfl rfl (zad (.inl rfl) (ev1 rfl)) ?_
  refine za rfl rfl rfl ((op_lss rfl (ev1 rfl) (ev1 rfl)).cast (d' := .val (.bool false)) (by kernel_rfl)) ?_
  refine za rfl rfl rfl (zad (.inl rfl) (ev1 rfl)) ?_
  refine walk_k (gd_f (b := false) rfl rfl rfl) rfl rfl rfl (zad (.inl rfl) (ev1 rfl)) (by simp only [upd, zaa, zab]; exact rfl) ?_
  refine walk_k (gd_f (b := false) rfl rfl rfl) rfl rfl rfl ((op_gtr rfl (ev2 rfl) (ev1 rfl)).cast (d' := .val (.bool false)) (by kernel_rfl)) (by simp only [upd, zaa, zab]; exact rfl) ?_
  refine za rfl rfl rfl ((op_or rfl (ev1 rfl) (ev3 rfl (fun _ => rfl))).cast (d' := .val (.bool false)) (by rfl)) ?_
  refine zae ?_
  refine dwp_if_f rfl (rfl) ?_
  refine zam ?_
  refine zaf ?_
  refine zac ?_
  refine za rfl rfl rfl (zag [] [] [] rfl (ev1 rfl) en rfl rfl (kinds_d) rfl rfl rfl rfl rfl rfl) ?_
  refine za rfl rfl rfl (zad (.inl rfl) (ev1 rfl)) ?_
  refine za rfl rfl rfl (op_ixwr (1) rfl av145 (ev1 rfl) (ev1 rfl) (fun _ => rfl) (fun _ => by decide) (Nat.le_of_ble_eq_true rfl)) ?_
  refine walk_s rfl rfl (op_stam rfl tb115 (ev1 rfl) (ev1 rfl) rfl rfl rfl rfl) (by simp only [upd, zaa, zab]; exact rfl) ?_
  refine za rfl rfl rfl (zad (.inr rfl) (ev1 rfl)) ?_
  refine zae ?_
  refine zan ?_
  refine kend0 (rs2 rfl (rv_mw tb115 rfl rfl rfl) (rv_t rfl)) rfl ?_
  rfl
set_option maxRecDepth 4000 in
set_option maxHeartbeats 1000000 in
theorem kindOf_2 : DFun Tryz.prog 62 [.val (.int .i64 2)] [] (.tup [.agg [iD 63, iD 15, .fn (.func 136) [] [], .fn (.func 137) [] []], .val (.bool true)]) [] := by
  refine zaj (N := 14) 0 (by kernel_rfl) Tryz.func62 rfl rfl rfl (by simp only [fr0, Nat.zero_add, Nat.reduceAdd]; exact rfl) rfl fun s0 hs0 => ?_
  refine zaf ?_
  refine zai 1 (by simp only [holes, List.cons_append, List.nil_append]; exact rfl) ?_
  refine zac ?_
  refine zak rfl rfl rfl (op_alloc 0 rfl zr115 rfl) (by simp only [upd, zaa, zab]; exact rfl) ?_
  refine za rfl rfl rfl (zad (.inr rfl) (ev1 rfl)) ?_
  refine zae ?_
  refine zaf ?_
  refine zaf ?_
  refine zac ?_
  refine za rfl rfl rfl (zad (.inl rfl) (ev1 rfl)) ?_
  refine za rfl rfl rfl ((op_lss rfl (ev1 rfl) (ev1 rfl)).cast (d' := .val (.bool false)) (by kernel_rfl)) ?_
  refine za rfl rfl rfl (zad (.inl rfl) (ev1 rfl)) ?_
  refine walk_k (gd_f (b := false) rfl rfl rfl) rfl rfl rfl (zad (.inl rfl) (ev1 rfl)) (by simp only [upd, zaa, zab]; exact rfl) ?_
  refine walk_k (gd_f (b := false) rfl rfl rfl) rfl rfl rfl ((op_gtr rfl (ev2 rfl) (ev1 rfl)).cast (d' := .val (.bool false)) (by kernel_rfl)) (by simp only [upd, zaa, zab]; exact rfl) ?_
  refine za rfl rfl rfl ((op_or rfl (ev1 rfl) (ev3 rfl (fun _ => rfl))).cast (d' := .val (.bool false)) (by rfl)) ?_
  refine zae ?_
  refine dwp_if_f rfl (rfl) ?_
  refine zam ?_
  refine zaf ?_
  refine zac ?_
  refine za rfl rfl rfl (zag [] [] [] rfl (ev1 rfl) en rfl rfl (kinds_d) rfl rfl rfl rfl rfl rfl) ?_
  refine za rfl rfl rfl (zad (.inl rfl) (ev1 rfl)) ?_
  refine za rfl rfl rfl (op_ixwr (2) rfl av145 (ev1 rfl) (ev1 rfl) (fun _ => rfl) (fun _ => by decide) (Nat.le_of_ble_eq_true rfl)) ?_
  refine walk_s rfl rfl (op_stam rfl tb115 (ev1 rfl) (ev1 rfl) rfl rfl rfl rfl) (by simp only [upd, zaa, zab]; exact rfl) ?_
  refine za rfl rfl rfl (zad (.inr rfl) (ev1 rfl)) ?_
  refine zae ?_
  refine zan ?_
  refine kend0 (rs2 rfl (rv_mw tb115 rfl rfl rfl) (rv_t rfl)) rfl ?_
  rfl
set_option maxRecDepth 4000 in
set_option maxHeartbeats 1000000 in
theorem kindOf_3 : DFun Tryz.prog 62 [.val (.int .i64 3)] [] (.tup [.agg [iD 47, iD 0, .fn (.func 138) [] [], .fn (.func 139) [] []], .val (.bool true)]) [] := by
  refine zaj (N := 14) 0 (by kernel_rfl) Tryz.func62 rfl rfl rfl (by simp only [fr0, Nat.zero_add, Nat.reduceAdd]; exact rfl) rfl fun s0 hs0 => ?_
  refine zaf ?_
  refine zai 1 (by simp only [holes, List.cons_append, List.nil_append]; exact rfl) ?_
  refine zac ?_
  refine zak rfl rfl rfl (op_alloc 0 rfl zr115 rfl) (by simp only [upd, zaa, zab]; exact rfl) ?_
  refine za rfl rfl rfl (zad (.inr rfl) (ev1 rfl)) ?_
  refine zae ?_
  refine zaf ?_
  refine zaf ?_
  refine zac ?_
  refine za rfl rfl rfl (zad (.inl rfl) (ev1 rfl)) ?_
  refine za rfl rfl rfl ((op_lss rfl (ev1 rfl) (ev1 rfl)).cast (d' := .val (.bool false)) (by kernel_rfl)) ?_
  refine za rfl rfl rfl (zad (.inl rfl) (ev1 rfl)) ?_
  refine walk_k (gd_f (b := false) rfl rfl rfl) rfl rfl rfl (zad (.inl rfl) (ev1 rfl)) (by simp only [upd, zaa, zab]; exact rfl) ?_
  refine walk_k (gd_f (b := false) rfl rfl rfl) rfl rfl rfl ((op_gtr rfl (ev2 rfl) (ev1 rfl)).cast (d' := .val (.bool false)) (by kernel_rfl)) (by simp only [upd, zaa, zab]; exact rfl) ?_
  refine za rfl rfl rfl ((op_or rfl (ev1 rfl) (ev3 rfl (fun _ => rfl))).cast (d' := .val (.bool false)) (by rfl)) ?_
  refine zae ?_
  refine dwp_if_f rfl (rfl) ?_
  refine zam ?_
  refine zaf ?_
  refine zac ?_
  refine za rfl rfl rfl (zag [] [] [] rfl (ev1 rfl) en rfl rfl (kinds_d) rfl rfl rfl rfl rfl rfl) ?_
  refine za rfl rfl rfl (zad (.inl rfl) (ev1 rfl)) ?_
  refine za rfl rfl rfl (op_ixwr (3) rfl av145 (ev1 rfl) (ev1 rfl) (fun _ => rfl) (fun _ => by decide) (Nat.le_of_ble_eq_true rfl)) ?_
  refine walk_s rfl rfl (op_stam rfl tb115 (ev1 rfl) (ev1 rfl) rfl rfl rfl rfl) (by simp only [upd, zaa, zab]; exact rfl) ?_
  refine za rfl rfl rfl (zad (.inr rfl) (ev1 rfl)) ?_
  refine zae ?_
  refine zan ?_
  refine kend0 (rs2 rfl (rv_mw tb115 rfl rfl rfl) (rv_t rfl)) rfl ?_
  rfl
set_option maxRecDepth 4000 in
set_option maxHeartbeats 1000000 in
theorem kindOf_4 : DFun Tryz.prog 62 [.val (.int .i64 4)] [] (.tup [.agg [iD 47, iD 0, .fn (.func 140) [] [], .fn (.func 139) [] []], .val (.bool true)]) [] := by
  refine zaj (N := 14) 0 (by kernel_rfl) Tryz.func62 rfl rfl rfl (by simp only [fr0, Nat.zero_add, Nat.reduceAdd]; exact rfl) rfl fun s0 hs0 => ?_
  refine zaf ?_
  refine zai 1 (by simp only [holes, List.cons_append, List.nil_append]; exact rfl) ?_
  refine zac ?_
  refine zak rfl rfl rfl (op_alloc 0 rfl zr115 rfl) (by simp only [upd, zaa, zab]; exact rfl) ?_
  refine za rfl rfl rfl (zad (.inr rfl) (ev1 rfl)) ?_
  refine zae ?_
  refine zaf ?_
  refine zaf ?_
  refine zac ?_
  refine za rfl rfl rfl (zad (.inl rfl) (ev1 rfl)) ?_
  refine za rfl rfl rfl ((op_lss rfl (ev1 rfl) (ev1 rfl)).cast (d' := .val (.bool false)) (by kernel_rfl)) ?_
  refine za rfl rfl rfl (zad (.inl rfl) (ev1 rfl)) ?_
  refine walk_k (gd_f (b := false) rfl rfl rfl) rfl rfl rfl (zad (.inl rfl) (ev1 rfl)) (by simp only [upd, zaa, zab]; exact rfl) ?_
  refine walk_k (gd_f (b := false) rfl rfl rfl) rfl rfl rfl ((op_gtr rfl (ev2 rfl) (ev1 rfl)).cast (d' := .val (.bool false)) (by kernel_rfl)) (by simp only [upd, zaa, zab]; exact rfl) ?_
  refine za rfl rfl rfl ((op_or rfl (ev1 rfl) (ev3 rfl (fun _ => rfl))).cast (d' := .val (.bool false)) (by rfl)) ?_
  refine zae ?_
  refine dwp_if_f rfl (rfl) ?_
  refine zam ?_
  refine zaf ?_
  refine zac ?_
  refine za rfl rfl rfl (zag [] [] [] rfl (ev1 rfl) en rfl rfl (kinds_d) rfl rfl rfl rfl rfl rfl) ?_
  refine za rfl rfl rfl (zad (.inl rfl) (ev1 rfl)) ?_
  refine za rfl rfl rfl (op_ixwr (4) rfl av145 (ev1 rfl) (ev1 rfl) (fun _ => rfl) (fun _ => by decide) (Nat.le_of_ble_eq_true rfl)) ?_
  refine walk_s rfl rfl (op_stam rfl tb115 (ev1 rfl) (ev1 rfl) rfl rfl rfl rfl) (by simp only [upd, zaa, zab]; exact rfl) ?_
  refine za rfl rfl rfl (zad (.inr rfl) (ev1 rfl)) ?_
  refine zae ?_
  refine zan ?_
  refine kend0 (rs2 rfl (rv_mw tb115 rfl rfl rfl) (rv_t rfl)) rfl ?_
  rfl
set_option maxRecDepth 4000 in
set_option maxHeartbeats 1000000 in
theorem kindOf_5 : DFun Tryz.prog 62 [.val (.int .i64 5)] [] (.tup [.agg [iD 51, iD 1020, .fn (.func 141) [] [], .fn (.func 142) [] []], .val (.bool true)]) [] := by
  refine zaj (N := 14) 0 (by kernel_rfl) Tryz.func62 rfl rfl rfl (by simp only [fr0, Nat.zero_add, Nat.reduceAdd]; exact rfl) rfl fun s0 hs0 => ?_
  refine zaf ?_
  refine zai 1 (by simp only [holes, List.cons_append, List.nil_append]; exact rfl) ?_
  refine zac ?_
  refine zak rfl rfl rfl (op_alloc 0 rfl zr115 rfl) (by simp only [upd, zaa, zab]; exact rfl) ?_
  refine za rfl rfl rfl (zad (.inr rfl) (ev1 rfl)) ?_
  refine zae ?_
  refine zaf ?_
  refine zaf ?_
  refine zac ?_
  refine za rfl rfl rfl (zad (.inl rfl) (ev1 rfl)) ?_
  refine za rfl rfl rfl ((op_lss rfl (ev1 rfl) (ev1 rfl)).cast (d' := .val (.bool false)) (by kernel_rfl)) ?_
  refine za rfl rfl rfl (zad (.inl rfl) (ev1 rfl)) ?_
  refine walk_k (gd_f (b := false) rfl rfl rfl) rfl rfl rfl (zad (.inl rfl) (ev1 rfl)) (by simp only [upd, zaa, zab]; exact rfl) ?_
  refine walk_k (gd_f (b := false) rfl rfl rfl) rfl rfl rfl ((op_gtr rfl (ev2 rfl) (ev1 rfl)).cast (d' := .val (.bool false)) (by kernel_rfl)) (by simp only [upd, zaa, zab]; exact rfl) ?_
  refine za rfl rfl rfl ((op_or rfl (ev1 rfl) (ev3 rfl (fun _ => rfl))).cast (d' := .val (.bool false)) (by rfl)) ?_
  refine zae ?_
  refine dwp_if_f rfl (rfl) ?_
  refine zam ?_
  refine zaf ?_
  refine zac ?_
  refine za rfl rfl rfl (zag [] [] [] rfl (ev1 rfl) en rfl rfl (kinds_d) rfl rfl rfl rfl rfl rfl) ?_
  refine za rfl rfl rfl (zad (.inl rfl) (ev1 rfl)) ?_
  refine za rfl rfl rfl (op_ixwr (5) rfl av145 (ev1 rfl) (ev1 rfl) (fun _ => rfl) (fun _ => by decide) (Nat.le_of_ble_eq_true rfl)) ?_
  refine walk_s rfl rfl (op_stam rfl tb115 (ev1 rfl) (ev1 rfl) rfl rfl rfl rfl) (by simp only [upd, zaa, zab]; exact rfl) ?_
  refine za rfl rfl rfl (zad (.inr rfl) (ev1 rfl)) ?_
  refine zae ?_
  refine zan ?_
  refine kend0 (rs2 rfl (rv_mw tb115 rfl rfl rfl) (rv_t rfl)) rfl ?_
  rfl
set_option maxRecDepth 4000 in
set_option maxHeartbeats 1000000 in
theorem kindOf_6 : DFun Tryz.prog 62 [.val (.int .i64 6)] [] (.tup [.agg [iD 67, iD 0, .fn (.func 143) [] [], .fn (.func 144) [] []], .val (.bool true)]) [] := by
  refine zaj (N := 14) 0 (by kernel_rfl) Tryz.func62 rfl rfl rfl (by simp only [fr0, Nat.zero_add, Nat.reduceAdd]; exact rfl) rfl fun s0 hs0 => ?_
  refine zaf ?_
  refine zai 1 (by simp only [holes, List.cons_append, List.nil_append]; exact rfl) ?_
  refine zac ?_
  refine zak rfl rfl rfl (op_alloc 0 rfl zr115 rfl) (by simp only [upd, zaa, zab]; exact rfl) ?_
  refine za rfl rfl rfl (zad (.inr rfl) (ev1 rfl)) ?_
  refine zae ?_
  refine zaf ?_
  refine zaf ?_
  refine zac ?_
  refine za rfl rfl rfl (zad (.inl rfl) (ev1 rfl)) ?_
  refine za rfl rfl rfl ((op_lss rfl (ev1 rfl) (ev1 rfl)).cast (d' := .val (.bool false)) (by kernel_rfl)) ?_
  refine za rfl rfl rfl (zad (.inl rfl) (ev1 rfl)) ?_
  refine walk_k (gd_f (b := false) rfl rfl rfl) rfl rfl rfl (zad (.inl rfl) (ev1 rfl)) (by simp only [upd, zaa, zab]; exact rfl) ?_
  refine walk_k (gd_f (b := false) rfl rfl rfl) rfl rfl rfl ((op_gtr rfl (ev2 rfl) (ev1 rfl)).cast (d' := .val (.bool false)) (by kernel_rfl)) (by simp only [upd, zaa, zab]; exact rfl) ?_
  refine za rfl rfl rfl ((op_or rfl (ev1 rfl) (ev3 rfl (fun _ => rfl))).cast (d' := .val (.bool false)) (by rfl)) ?_
  refine zae ?_
  refine dwp_if_f rfl (rfl) ?_
  refine zam ?_
  refine zaf ?_
  refine zac ?_
  refine za rfl rfl rfl (zag [] [] [] rfl (ev1 rfl) en rfl rfl (kinds_d) rfl rfl rfl rfl rfl rfl) ?_
  refine za rfl rfl rfl (zad (.inl rfl) (ev1 rfl)) ?_
  refine za rfl rfl rfl (op_ixwr (6) rfl av145 (ev1 rfl) (ev1 rfl) (fun _ => rfl) (fun _ => by decide) (Nat.le_of_ble_eq_true rfl)) ?_
  refine walk_s rfl rfl (op_stam rfl tb115 (ev1 rfl) (ev1 rfl) rfl rfl rfl rfl) (by simp only [upd, zaa, zab]; exact rfl) ?_
  refine za rfl rfl rfl (zad (.inr rfl) (ev1 rfl)) ?_
  refine zae ?_
  refine zan ?_
  refine kend0 (rs2 rfl (rv_mw tb115 rfl rfl rfl) (rv_t rfl)) rfl ?_
  rfl
set_option maxRecDepth 4000 in
set_option maxHeartbeats 1000000 in
theorem kindOf_7 : DFun Tryz.prog 62 [.val (.int .i64 7)] [] (.tup [.agg [iD 128, iD 0, .val .nilFunc, .val .nilFunc], .val (.bool true)]) [] := by
  refine zaj (N := 14) 0 (by kernel_rfl) Tryz.func62 rfl rfl rfl (by simp only [fr0, Nat.zero_add, Nat.reduceAdd]; exact rfl) rfl fun s0 hs0 => ?_
  refine zaf ?_
  refine zai 1 (by simp only [holes, List.cons_append, List.nil_append]; exact rfl) ?_
  refine zac ?_
  refine zak rfl rfl rfl (op_alloc 0 rfl zr115 rfl) (by simp only [upd, zaa, zab]; exact rfl) ?_
  refine za rfl rfl rfl (zad (.inr rfl) (ev1 rfl)) ?_
  refine zae ?_
  refine zaf ?_
  refine zaf ?_
  refine zac ?_
  refine za rfl rfl rfl (zad (.inl rfl) (ev1 rfl)) ?_
  refine za rfl rfl rfl ((op_lss rfl (ev1 rfl) (ev1 rfl)).cast (d' := .val (.bool false)) (by kernel_rfl)) ?_
  refine za rfl rfl rfl (zad (.inl rfl) (ev1 rfl)) ?_
  refine walk_k (gd_f (b := false) rfl rfl rfl) rfl rfl rfl (zad (.inl rfl) (ev1 rfl)) (by simp only [upd, zaa, zab]; exact rfl) ?_
  refine walk_k (gd_f (b := false) rfl rfl rfl) rfl rfl rfl ((op_gtr rfl (ev2 rfl) (ev1 rfl)).cast (d' := .val (.bool false)) (by kernel_rfl)) (by simp only [upd, zaa, zab]; exact rfl) ?_
  refine za rfl rfl rfl ((op_or rfl (ev1 rfl) (ev3 rfl (fun _ => rfl))).cast (d' := .val (.bool false)) (by rfl)) ?_
  refine zae ?_
  refine dwp_if_f rfl (rfl) ?_
  refine zam ?_
  refine zaf ?_
  refine zac ?_
  refine za rfl rfl rfl (zag [] [] [] rfl (ev1 rfl) en rfl rfl (kinds_d) rfl rfl rfl rfl rfl rfl) ?_
  refine za rfl rfl rfl (zad (.inl rfl) (ev1 rfl)) ?_
  refine za rfl rfl rfl (op_ixwr (7) rfl av145 (ev1 rfl) (ev1 rfl) (fun _ => rfl) (fun _ => by decide) (Nat.le_of_ble_eq_true rfl)) ?_
  refine walk_s rfl rfl (op_stam rfl tb115 (ev1 rfl) (ev1 rfl) rfl rfl rfl rfl) (by simp only [upd, zaa, zab]; exact rfl) ?_
  refine za rfl rfl rfl (zad (.inr rfl) (ev1 rfl)) ?_
  refine zae ?_
  refine zan ?_
  refine kend0 (rs2 rfl (rv_mw tb115 rfl rfl rfl) (rv_t rfl)) rfl ?_
  rfl
set_option maxRecDepth 4000 in
set_option maxHeartbeats 1000000 in
theorem kindOf_8 : DFun Tryz.prog 62 [.val (.int .i64 8)] [] (.tup [.agg [iD 128, iD 0, .val .nilFunc, .val .nilFunc], .val (.bool true)]) [] := by
  refine zaj (N := 14) 0 (by kernel_rfl) Tryz.func62 rfl rfl rfl (by simp only [fr0, Nat.zero_add, Nat.reduceAdd]; exact rfl) rfl fun s0 hs0 => ?_
  refine zaf ?_
  refine zai 1 (by simp only [holes, List.cons_append, List.nil_append]; exact rfl) ?_
  refine zac ?_
  refine zak rfl rfl rfl (op_alloc 0 rfl zr115 rfl) (by simp only [upd, zaa, zab]; exact rfl) ?_
  refine za rfl rfl rfl (zad (.inr rfl) (ev1 rfl)) ?_
  refine zae ?_
  refine zaf ?_
  refine zaf ?_
  refine zac ?_
  refine za rfl rfl rfl (zad (.inl rfl) (ev1 rfl)) ?_
  refine za rfl rfl rfl ((op_lss rfl (ev1 rfl) (ev1 rfl)).cast (d' := .val (.bool false)) (by kernel_rfl)) ?_
  refine za rfl rfl rfl (zad (.inl rfl) (ev1 rfl)) ?_
  refine walk_k (gd_f (b := false) rfl rfl rfl) rfl rfl rfl (zad (.inl rfl) (ev1 rfl)) (by simp only [upd, zaa, zab]; exact rfl) ?_
  refine walk_k (gd_f (b := false) rfl rfl rfl) rfl rfl rfl ((op_gtr rfl (ev2 rfl) (ev1 rfl)).cast (d' := .val (.bool false)) (by kernel_rfl)) (by simp only [upd, zaa, zab]; exact rfl) ?_
  refine za rfl rfl rfl ((op_or rfl (ev1 rfl) (ev3 rfl (fun _ => rfl))).cast (d' := .val (.bool false)) (by rfl)) ?_
  refine zae ?_
  refine dwp_if_f rfl (rfl) ?_
  refine zam ?_
  refine zaf ?_
  refine zac ?_
  refine za rfl rfl rfl (zag [] [] [] rfl (ev1 rfl) en rfl rfl (kinds_d) rfl rfl rfl rfl rfl rfl) ?_
  refine za rfl rfl rfl (zad (.inl rfl) (ev1 rfl)) ?_
  refine za rfl rfl rfl (op_ixwr (8) rfl av145 (ev1 rfl) (ev1 rfl) (fun _ => rfl) (fun _ => by decide) (Nat.le_of_ble_eq_true rfl)) ?_
  refine walk_s rfl rfl (op_stam rfl tb115 (ev1 rfl) (ev1 rfl) rfl rfl rfl rfl) (by simp only [upd, zaa, zab]; exact rfl) ?_
  refine za rfl rfl rfl (zad (.inr rfl) (ev1 rfl)) ?_
  refine zae ?_
  refine zan ?_
  refine kend0 (rs2 rfl (rv_mw tb115 rfl rfl rfl) (rv_t rfl)) rfl ?_
  rfl
set_option maxRecDepth 4000 in
set_option maxHeartbeats 1000000 in
theorem kindOf_no (n : Int) (h : ¬ (1 ≤ n ∧ n ≤ 8)) : DFun Tryz.prog 62 [.val (.int .i64 n)] [] (.tup [.val (.agg #[.int .i64 0, .int .i64 0, .nilFunc, .nilFunc]), .val (.bool false)]) [] := by
  refine zaj (N := 14) 0 (by kernel_rfl) Tryz.func62 rfl rfl rfl (by simp only [fr0, Nat.zero_add, Nat.reduceAdd]; exact rfl) rfl fun s0 hs0 => ?_
  refine zaf ?_
  refine zai 1 (by simp only [holes, List.cons_append, List.nil_append]; exact rfl) ?_
  refine zac ?_
  refine zak rfl rfl rfl (op_alloc 0 rfl zr115 rfl) (by simp only [upd, zaa, zab]; exact rfl) ?_
  refine za rfl rfl rfl (zad (.inr rfl) (ev1 rfl)) ?_
  refine zae ?_
  refine zaf ?_
  refine zaf ?_
  refine zac ?_
  refine za rfl rfl rfl (zad (.inl rfl) (ev1 rfl)) ?_
  refine za rfl rfl rfl (op_lss rfl (ev1 rfl) (ev1 rfl)) ?_
  refine za rfl rfl rfl (zad (.inl rfl) (ev1 rfl)) ?_
  refine zah (gd_f rfl rfl rfl) rfl rfl rfl (zad (.inl rfl) (ev1 rfl)) ?_
  refine zah (gd_f rfl rfl rfl) rfl rfl rfl (op_gtr rfl (ev2 rfl) (ev1 rfl)) ?_
  refine za rfl rfl rfl (op_or rfl (ev1 rfl) (ev3 rfl id)) ?_
  refine zae ?_
  refine dwp_if_t rfl (by simp; omega) ?_
  refine zaf ?_
  refine zac ?_
  refine za rfl rfl rfl (op_build0 rfl fl115 zr115) ?_
  refine walk_s rfl rfl (op_stwa rfl tb115 (ev1 rfl) (ev1 rfl) rfl rfl rfl rfl) (by simp only [upd, zaa, zab]; exact rfl) ?_
  refine za rfl rfl rfl (zad (.inr rfl) (ev1 rfl)) ?_
  refine zae ?_
  refine zan ?_
  refine kend0 (rs2 rfl (rv_w tb115 rfl rfl rfl) (rv_t rfl)) rfl ?_
  rfl
set_option maxRecDepth 4000 in
set_option maxHeartbeats 1000000 in
theorem fit0_d (u m : Int) (a b : D) (o : OpM) : DFun Tryz.prog 90 [.agg [iD u, iD m, a, b], .dpm (opD o)] [] (.val (.bool (drB o.x))) [] := by
  refine zaj (N := 10) 0 (by kernel_rfl) Tryz.func90 rfl rfl rfl (by simp only [fr0, Nat.zero_add, Nat.reduceAdd]; exact rfl) rfl fun s0 hs0 => ?_
  refine zaf ?_
  refine zai 1 (by simp only [holes, List.cons_append, List.nil_append]; exact rfl) ?_
  refine zac ?_
  refine zak rfl rfl rfl (op_boxam 0 rfl (ev1 rfl) rfl) (by simp only [upd, zaa, zab]; exact rfl) ?_
  refine za rfl rfl rfl (zad (.inr rfl) (ev1 rfl)) ?_
  refine zae ?_
  refine zaf ?_
  refine zac ?_
  refine za rfl rfl rfl (zad (.inl rfl) (ev1 rfl)) ?_
  refine za rfl rfl rfl (op_nc rfl (ev1 rfl) (fun s v h => by cases h; exact ⟨_, rfl⟩)) ?_
  refine za rfl rfl rfl (op_fadm rfl fo47_2 (ev1 rfl)) ?_
  refine za rfl rfl rfl (op_lddm rfl tb3 (ev1 rfl) rfl) ?_
  refine za rfl rfl rfl (zag [] [] [] rfl (ev1 rfl) (ec (ev1 rfl) en) rfl rfl (drawn_d _) rfl rfl rfl rfl rfl rfl) ?_
  refine za rfl rfl rfl (zad (.inr rfl) (ev1 rfl)) ?_
  refine zae ?_
  refine zan ?_
  refine kend0 (rs1 rfl (rv_t rfl)) rfl ?_
  rfl
set_option maxRecDepth 4000 in
set_option maxHeartbeats 1000000 in
theorem blk0_d (o : OpM) : DFun Tryz.prog 92 [.dpm (opD o)] [] (.val (.bool ((o.x == 0)))) [] := by
  refine zaj (N := 8) 0 (by kernel_rfl) Tryz.func92 rfl rfl rfl (by simp only [fr0, Nat.zero_add, Nat.reduceAdd]; exact rfl) rfl fun s0 hs0 => ?_
  refine zaf ?_
  refine zac ?_
  refine za rfl rfl rfl (zad (.inr rfl) (ev1 rfl)) ?_
  refine zae ?_
  refine zaf ?_
  refine zac ?_
  refine za rfl rfl rfl (zad (.inl rfl) (ev1 rfl)) ?_
  refine za rfl rfl rfl (op_nc rfl (ev1 rfl) (fun s v h => by cases h; exact ⟨_, rfl⟩)) ?_
  refine za rfl rfl rfl (op_fadm rfl fo47_2 (ev1 rfl)) ?_
  refine za rfl rfl rfl (op_lddm rfl tb3 (ev1 rfl) rfl) ?_
  refine za rfl rfl rfl (op_eql rfl (ev1 rfl) (ev1 rfl)) ?_
  refine za rfl rfl rfl (zad (.inr rfl) (ev1 rfl)) ?_
  refine zae ?_
  refine zan ?_
  refine kend0 (rs1 rfl (rv_t rfl)) rfl ?_
  rfl
set_option maxRecDepth 4000 in
set_option maxHeartbeats 1000000 in
theorem fit1_d (u m : Int) (a b : D) (o : OpM) : DFun Tryz.prog 94 [.agg [iD u, iD m, a, b], .dpm (opD o)] [] (.val (.bool (drB o.y))) [] := by
  refine zaj (N := 10) 0 (by kernel_rfl) Tryz.func94 rfl rfl rfl (by simp only [fr0, Nat.zero_add, Nat.reduceAdd]; exact rfl) rfl fun s0 hs0 => ?_
  refine zaf ?_
  refine zai 1 (by simp only [holes, List.cons_append, List.nil_append]; exact rfl) ?_
  refine zac ?_
  refine zak rfl rfl rfl (op_boxam 0 rfl (ev1 rfl) rfl) (by simp only [upd, zaa, zab]; exact rfl) ?_
  refine za rfl rfl rfl (zad (.inr rfl) (ev1 rfl)) ?_
  refine zae ?_
  refine zaf ?_
  refine zac ?_
  refine za rfl rfl rfl (zad (.inl rfl) (ev1 rfl)) ?_
  refine za rfl rfl rfl (op_nc rfl (ev1 rfl) (fun s v h => by cases h; exact ⟨_, rfl⟩)) ?_
  refine za rfl rfl rfl (op_fadm rfl fo47_3 (ev1 rfl)) ?_
  refine za rfl rfl rfl (op_lddm rfl tb3 (ev1 rfl) rfl) ?_
  refine za rfl rfl rfl (zag [] [] [] rfl (ev1 rfl) (ec (ev1 rfl) en) rfl rfl (drawn_d _) rfl rfl rfl rfl rfl rfl) ?_
  refine za rfl rfl rfl (zad (.inr rfl) (ev1 rfl)) ?_
  refine zae ?_
  refine zan ?_
  refine kend0 (rs1 rfl (rv_t rfl)) rfl ?_
  rfl
set_option maxRecDepth 4000 in
set_option maxHeartbeats 1000000 in
theorem blk1_d (o : OpM) : DFun Tryz.prog 95 [.dpm (opD o)] [] (.val (.bool ((o.y == 0)))) [] := by
  refine zaj (N := 8) 0 (by kernel_rfl) Tryz.func95 rfl rfl rfl (by simp only [fr0, Nat.zero_add, Nat.reduceAdd]; exact rfl) rfl fun s0 hs0 => ?_
  refine zaf ?_
  refine zac ?_
  refine za rfl rfl rfl (zad (.inr rfl) (ev1 rfl)) ?_
  refine zae ?_
  refine zaf ?_
  refine zac ?_
  refine za rfl rfl rfl (zad (.inl rfl) (ev1 rfl)) ?_
  refine za rfl rfl rfl (op_nc rfl (ev1 rfl) (fun s v h => by cases h; exact ⟨_, rfl⟩)) ?_
  refine za rfl rfl rfl (op_fadm rfl fo47_3 (ev1 rfl)) ?_
  refine za rfl rfl rfl (op_lddm rfl tb3 (ev1 rfl) rfl) ?_
  refine za rfl rfl rfl (op_eql rfl (ev1 rfl) (ev1 rfl)) ?_
  refine za rfl rfl rfl (zad (.inr rfl) (ev1 rfl)) ?_
  refine zae ?_
  refine zan ?_
  refine kend0 (rs1 rfl (rv_t rfl)) rfl ?_
  rfl
set_option maxRecDepth 4000 in
set_option maxHeartbeats 1000000 in
theorem fit2_d (u m : Int) (a b : D) (o : OpM) : DFun Tryz.prog 97 [.agg [iD u, iD m, a, b], .dpm (opD o)] [] (.val (.bool (drB o.x2))) [] := by
  refine zaj (N := 10) 0 (by kernel_rfl) Tryz.func97 rfl rfl rfl (by simp only [fr0, Nat.zero_add, Nat.reduceAdd]; exact rfl) rfl fun s0 hs0 => ?_
  refine zaf ?_
  refine zai 1 (by simp only [holes, List.cons_append, List.nil_append]; exact rfl) ?_
  refine zac ?_
  refine zak rfl rfl rfl (op_boxam 0 rfl (ev1 rfl) rfl) (by simp only [upd, zaa, zab]; exact rfl) ?_
  refine za rfl rfl rfl (zad (.inr rfl) (ev1 rfl)) ?_
  refine zae ?_
  refine zaf ?_
  refine zac ?_
  refine za rfl rfl rfl (zad (.inl rfl) (ev1 rfl)) ?_
  refine za rfl rfl rfl (op_nc rfl (ev1 rfl) (fun s v h => by cases h; exact ⟨_, rfl⟩)) ?_
  refine za rfl rfl rfl (op_fadm rfl fo47_4 (ev1 rfl)) ?_
  refine za rfl rfl rfl (op_lddm rfl tb3 (ev1 rfl) rfl) ?_
  refine za rfl rfl rfl (zag [] [] [] rfl (ev1 rfl) (ec (ev1 rfl) en) rfl rfl (drawn_d _) rfl rfl rfl rfl rfl rfl) ?_
  refine za rfl rfl rfl (zad (.inr rfl) (ev1 rfl)) ?_
  refine zae ?_
  refine zan ?_
  refine kend0 (rs1 rfl (rv_t rfl)) rfl ?_
  rfl
set_option maxRecDepth 4000 in
set_option maxHeartbeats 1000000 in
theorem blk2_d (o : OpM) : DFun Tryz.prog 98 [.dpm (opD o)] [] (.val (.bool ((o.x2 == 0)))) [] := by
  refine zaj (N := 8) 0 (by kernel_rfl) Tryz.func98 rfl rfl rfl (by simp only [fr0, Nat.zero_add, Nat.reduceAdd]; exact rfl) rfl fun s0 hs0 => ?_
  refine zaf ?_
  refine zac ?_
  refine za rfl rfl rfl (zad (.inr rfl) (ev1 rfl)) ?_
  refine zae ?_
  refine zaf ?_
  refine zac ?_
  refine za rfl rfl rfl (zad (.inl rfl) (ev1 rfl)) ?_
  refine za rfl rfl rfl (op_nc rfl (ev1 rfl) (fun s v h => by cases h; exact ⟨_, rfl⟩)) ?_
  refine za rfl rfl rfl (op_fadm rfl fo47_4 (ev1 rfl)) ?_
  refine za rfl rfl rfl (op_lddm rfl tb3 (ev1 rfl) rfl) ?_
  refine za rfl rfl rfl (op_eql rfl (ev1 rfl) (ev1 rfl)) ?_
  refine za rfl rfl rfl (zad (.inr rfl) (ev1 rfl)) ?_
  refine zae ?_
  refine zan ?_
  refine kend0 (rs1 rfl (rv_t rfl)) rfl ?_
  rfl
set_option maxRecDepth 4000 in
set_option maxHeartbeats 1000000 in
theorem fit3_d (u m : Int) (a b : D) (o : OpM) : DFun Tryz.prog 100 [.agg [iD u, iD m, a, b], .dpm (opD o)] [] (.val (.bool (drB o.y2))) [] := by
  refine zaj (N := 10) 0 (by kernel_rfl) Tryz.func100 rfl rfl rfl (by simp only [fr0, Nat.zero_add, Nat.reduceAdd]; exact rfl) rfl fun s0 hs0 => ?_
  refine zaf ?_
  refine zai 1 (by simp only [holes, List.cons_append, List.nil_append]; exact rfl) ?_
  refine zac ?_
  refine zak rfl rfl rfl (op_boxam 0 rfl (ev1 rfl) rfl) (by simp only [upd, zaa, zab]; exact rfl) ?_
  refine za rfl rfl rfl (zad (.inr rfl) (ev1 rfl)) ?_
  refine zae ?_
  refine zaf ?_
  refine zac ?_
  refine za rfl rfl rfl (zad (.inl rfl) (ev1 rfl)) ?_
  refine za rfl rfl rfl (op_nc rfl (ev1 rfl) (fun s v h => by cases h; exact ⟨_, rfl⟩)) ?_
  refine za rfl rfl rfl (op_fadm rfl fo47_5 (ev1 rfl)) ?_
  refine za rfl rfl rfl (op_lddm rfl tb3 (ev1 rfl) rfl) ?_
  refine za rfl rfl rfl (zag [] [] [] rfl (ev1 rfl) (ec (ev1 rfl) en) rfl rfl (drawn_d _) rfl rfl rfl rfl rfl rfl) ?_
  refine za rfl rfl rfl (zad (.inr rfl) (ev1 rfl)) ?_
  refine zae ?_
  refine zan ?_
  refine kend0 (rs1 rfl (rv_t rfl)) rfl ?_
  rfl
set_option maxRecDepth 4000 in
set_option maxHeartbeats 1000000 in
theorem blk3_d (o : OpM) : DFun Tryz.prog 101 [.dpm (opD o)] [] (.val (.bool ((o.y2 == 0)))) [] := by
  refine zaj (N := 8) 0 (by kernel_rfl) Tryz.func101 rfl rfl rfl (by simp only [fr0, Nat.zero_add, Nat.reduceAdd]; exact rfl) rfl fun s0 hs0 => ?_
  refine zaf ?_
  refine zac ?_
  refine za rfl rfl rfl (zad (.inr rfl) (ev1 rfl)) ?_
  refine zae ?_
  refine zaf ?_
  refine zac ?_
  refine za rfl rfl rfl (zad (.inl rfl) (ev1 rfl)) ?_
  refine za rfl rfl rfl (op_nc rfl (ev1 rfl) (fun s v h => by cases h; exact ⟨_, rfl⟩)) ?_
  refine za rfl rfl rfl (op_fadm rfl fo47_5 (ev1 rfl)) ?_
  refine za rfl rfl rfl (op_lddm rfl tb3 (ev1 rfl) rfl) ?_
  refine za rfl rfl rfl (op_eql rfl (ev1 rfl) (ev1 rfl)) ?_
  refine za rfl rfl rfl (zad (.inr rfl) (ev1 rfl)) ?_
  refine zae ?_
  refine zan ?_
  refine kend0 (rs1 rfl (rv_t rfl)) rfl ?_
  rfl
set_option maxRecDepth 4000 in
set_option maxHeartbeats 1000000 in
theorem fit4_d (u m : Int) (a b : D) (o : OpM) : DFun Tryz.prog 103 [.agg [iD u, iD m, a, b], .dpm (opD o)] [] (.val (.bool ((decide (0 ≤ o.sz) && decide (o.sz ≤ m))))) [] := by
  refine zaj (N := 19) 0 (by kernel_rfl) Tryz.func103 rfl rfl rfl (by simp only [fr0, Nat.zero_add, Nat.reduceAdd]; exact rfl) rfl fun s0 hs0 => ?_
  refine zaf ?_
  refine zai 1 (by simp only [holes, List.cons_append, List.nil_append]; exact rfl) ?_
  refine zac ?_
  refine zak rfl rfl rfl (op_boxam 0 rfl (ev1 rfl) rfl) (by simp only [upd, zaa, zab]; exact rfl) ?_
  refine za rfl rfl rfl (zad (.inr rfl) (ev1 rfl)) ?_
  refine zae ?_
  refine zaf ?_
  refine dwp_draw [([], []), ([], []), ([], []), ([], []), ([], []), ([], []), ([], []), ([], []), ([], []), ([], []), ([], []), ([0], []), ([], []), ([], []), ([], [])] mixed (by kernel_rfl) ?_
  refine lex_r rfl rfl (zad (.inl rfl) (ev1 rfl)) ?_
  refine lex_r rfl rfl (op_nc rfl (ev1 rfl) (fun s v h => by cases h; exact ⟨_, rfl⟩)) ?_
  refine lex_r rfl rfl (op_fadm rfl fo47_6 (ev1 rfl)) ?_
  refine lex_r rfl rfl (op_lddm rfl tb3 (ev1 rfl) rfl) ?_
  refine lex_r rfl rfl (op_geq rfl (ev1 rfl) (ev1 rfl)) ?_
  refine lex_r rfl rfl (zad (.inl rfl) (ev1 rfl)) ?_
  refine lex_gr (gd_t rfl rfl rfl) rfl rfl (zad (.inl rfl) (ev1 rfl)) ?_
  refine lex_gr (gd_t rfl rfl rfl) rfl rfl (op_nc rfl (ev2 rfl) (fun s v h => by cases h; exact ⟨_, rfl⟩)) ?_
  refine lex_gr (gd_t rfl rfl rfl) rfl rfl (op_fadm rfl fo47_6 (ev2 rfl)) ?_
  refine lex_gr (gd_t rfl rfl rfl) rfl rfl (op_lddm rfl tb3 (ev2 rfl) rfl) ?_
  refine lex_gr (gd_t rfl rfl rfl) rfl rfl (zal rfl fo115_1 (ev1 rfl)) ?_
  refine lex_gr (gd_t rfl rfl rfl) rfl rfl (op_ldm rfl tb3 (ev2 rfl) rfl rfl) ?_
  refine lex_gr (gd_t rfl rfl rfl) rfl rfl (op_leq rfl (ev2 rfl) (ev2 rfl)) ?_
  refine lex_r rfl rfl (op_and rfl (ev1 rfl) (ev3 rfl id)) ?_
  refine lex_r rfl rfl (zad (.inr rfl) (ev1 rfl)) ?_
  refine lex_nil ?_
  refine zan ?_
  refine kend0 (rs1 rfl (rv_t rfl)) rfl ?_
  rfl
set_option maxRecDepth 4000 in
set_option maxHeartbeats 1000000 in
theorem blk4_d (o : OpM) : DFun Tryz.prog 104 [.dpm (opD o)] [] (.val (.bool ((o.sz == 0)))) [] := by
  refine zaj (N := 8) 0 (by kernel_rfl) Tryz.func104 rfl rfl rfl (by simp only [fr0, Nat.zero_add, Nat.reduceAdd]; exact rfl) rfl fun s0 hs0 => ?_
  refine zaf ?_
  refine zac ?_
  refine za rfl rfl rfl (zad (.inr rfl) (ev1 rfl)) ?_
  refine zae ?_
  refine zaf ?_
  refine zac ?_
  refine za rfl rfl rfl (zad (.inl rfl) (ev1 rfl)) ?_
  refine za rfl rfl rfl (op_nc rfl (ev1 rfl) (fun s v h => by cases h; exact ⟨_, rfl⟩)) ?_
  refine za rfl rfl rfl (op_fadm rfl fo47_6 (ev1 rfl)) ?_
  refine za rfl rfl rfl (op_lddm rfl tb3 (ev1 rfl) rfl) ?_
  refine za rfl rfl rfl (op_eql rfl (ev1 rfl) (ev1 rfl)) ?_
  refine za rfl rfl rfl (zad (.inr rfl) (ev1 rfl)) ?_
  refine zae ?_
  refine zan ?_
  refine kend0 (rs1 rfl (rv_t rfl)) rfl ?_
  rfl
set_option maxRecDepth 4000 in
set_option maxHeartbeats 1000000 in
theorem fit5_d (u m : Int) (a b : D) (o : OpM) : DFun Tryz.prog 106 [.agg [iD u, iD m, a, b], .dpm (opD o)] [] (.val (.bool (true))) [] := by
  refine zaj (N := 5) 0 (by kernel_rfl) Tryz.func106 rfl rfl rfl (by simp only [fr0, Nat.zero_add, Nat.reduceAdd]; exact rfl) rfl fun s0 hs0 => ?_
  refine zaf ?_
  refine zai 1 (by simp only [holes, List.cons_append, List.nil_append]; exact rfl) ?_
  refine zac ?_
  refine zak rfl rfl rfl (op_boxam 0 rfl (ev1 rfl) rfl) (by simp only [upd, zaa, zab]; exact rfl) ?_
  refine za rfl rfl rfl (zad (.inr rfl) (ev1 rfl)) ?_
  refine zae ?_
  refine zaf ?_
  refine zac ?_
  refine za rfl rfl rfl (zad (.inr rfl) (ev1 rfl)) ?_
  refine zae ?_
  refine zan ?_
  refine kend0 (rs1 rfl (rv_t rfl)) rfl ?_
  rfl
set_option maxRecDepth 4000 in
set_option maxHeartbeats 1000000 in
theorem blk5_d (o : OpM) : DFun Tryz.prog 107 [.dpm (opD o)] [] (.val (.bool (decide (o.co = zC4)))) [] := by
  refine zaj (N := 9) 0 (by kernel_rfl) Tryz.func107 rfl rfl rfl (by simp only [fr0, Nat.zero_add, Nat.reduceAdd]; exact rfl) rfl fun s0 hs0 => ?_
  refine zaf ?_
  refine zac ?_
  refine za rfl rfl rfl (zad (.inr rfl) (ev1 rfl)) ?_
  refine zae ?_
  refine zaf ?_
  refine zac ?_
  refine za rfl rfl rfl (zad (.inl rfl) (ev1 rfl)) ?_
  refine za rfl rfl rfl (op_nc rfl (ev1 rfl) (fun s v h => by cases h; exact ⟨_, rfl⟩)) ?_
  refine za rfl rfl rfl (op_fadm rfl fo47_7 (ev1 rfl)) ?_
  refine za rfl rfl rfl (op_lddv (c4 o.co) rfl tb42 (ev1 rfl) rfl rfl) ?_
  refine za rfl rfl rfl (op_build0 rfl fl42 zr42) ?_
  refine za rfl rfl rfl (op_eqr eq42 rfl gd42 tb42 (ev1 rfl) (ev1 rfl)) ?_
  refine za rfl rfl rfl (zad (.inr rfl) (ev1 rfl)) ?_
  refine zae ?_
  refine zan ?_
  refine kend0 (rs1 rfl (rv_t rfl)) rfl ?_
  rfl
set_option maxRecDepth 4000 in
set_option maxHeartbeats 1000000 in
theorem fit6_d (u m : Int) (a b : D) (o : OpM) : DFun Tryz.prog 109 [.agg [iD u, iD m, a, b], .dpm (opD o)] [] (.val (.bool ((errOr (stB o.sw o.sh o.px) 190 == 0)))) [] := by
  refine zaj (N := 11) 0 (by kernel_rfl) Tryz.func109 rfl rfl rfl (by simp only [fr0, Nat.zero_add, Nat.reduceAdd]; exact rfl) rfl fun s0 hs0 => ?_
  refine zaf ?_
  refine zai 1 (by simp only [holes, List.cons_append, List.nil_append]; exact rfl) ?_
  refine zac ?_
  refine zak rfl rfl rfl (op_boxam 0 rfl (ev1 rfl) rfl) (by simp only [upd, zaa, zab]; exact rfl) ?_
  refine za rfl rfl rfl (zad (.inr rfl) (ev1 rfl)) ?_
  refine zae ?_
  refine zaf ?_
  refine zac ?_
  refine za rfl rfl rfl (zad (.inl rfl) (ev1 rfl)) ?_
  refine za rfl rfl rfl (op_nc rfl (ev1 rfl) (fun s v h => by cases h; exact ⟨_, rfl⟩)) ?_
  refine za rfl rfl rfl (op_fadm rfl fo47_8 (ev1 rfl)) ?_
  refine za rfl rfl rfl (op_lddr rfl tb45 (ev1 rfl) rfl rfl) ?_
  refine za rfl rfl rfl (zag [] [] [] rfl (ev1 rfl) (ec (ev1 rfl) en) rfl rfl (stCheck_d _ _ _) rfl rfl rfl rfl rfl rfl) ?_
  refine za rfl rfl rfl (op_eql rfl (ev1 rfl) (ev1 rfl)) ?_
  refine za rfl rfl rfl (zad (.inr rfl) (ev1 rfl)) ?_
  refine zae ?_
  refine zan ?_
  refine kend0 (rs1 rfl (rv_t rfl)) rfl ?_
  rfl
set_option maxRecDepth 4000 in
set_option maxHeartbeats 1000000 in
theorem blk6_d (o : OpM) : DFun Tryz.prog 111 [.dpm (opD o)] [] (.val (.bool ((((o.sw == 0) && (o.sh == 0)) && decide (o.px = []))))) [] := by
  refine zaj (N := 9) 0 (by kernel_rfl) Tryz.func111 rfl rfl rfl (by simp only [fr0, Nat.zero_add, Nat.reduceAdd]; exact rfl) rfl fun s0 hs0 => ?_
  refine zaf ?_
  refine zac ?_
  refine za rfl rfl rfl (zad (.inr rfl) (ev1 rfl)) ?_
  refine zae ?_
  refine zaf ?_
  refine zac ?_
  refine za rfl rfl rfl (zad (.inl rfl) (ev1 rfl)) ?_
  refine za rfl rfl rfl (op_nc rfl (ev1 rfl) (fun s v h => by cases h; exact ⟨_, rfl⟩)) ?_
  refine za rfl rfl rfl (op_fadm rfl fo47_8 (ev1 rfl)) ?_
  refine za rfl rfl rfl (op_lddr rfl tb45 (ev1 rfl) rfl rfl) ?_
  refine za rfl rfl rfl (op_build0 rfl fl45 zr45) ?_
  refine za rfl rfl rfl (zag [] [] [] rfl (ev1 rfl) (ec (ev1 rfl) (ec (evwk (ev1 rfl) wkSt0) en)) rfl rfl (stSame_d _ _ _ _ _ []) rfl rfl rfl rfl rfl rfl) ?_
  refine za rfl rfl rfl (zad (.inr rfl) (ev1 rfl)) ?_
  refine zae ?_
  refine zan ?_
  refine kend0 (rs1 rfl (rv_t rfl)) rfl ?_
  rfl
set_option maxRecDepth 4000 in
set_option maxHeartbeats 1000000 in
theorem fit7_d (u m : Int) (a b : D) (o : OpM) : DFun Tryz.prog 114 [.agg [iD u, iD m, a, b], .dpm (opD o)] [] (.val (.bool (((errOr (mayR o.tg) 210 == 0) && lessR o.tg o.id)))) [] := by
  refine zaj (N := 22) 0 (by kernel_rfl) Tryz.func114 rfl rfl rfl (by simp only [fr0, Nat.zero_add, Nat.reduceAdd]; exact rfl) rfl fun s0 hs0 => ?_
  refine zaf ?_
  refine zai 1 (by simp only [holes, List.cons_append, List.nil_append]; exact rfl) ?_
  refine zac ?_
  refine zak rfl rfl rfl (op_boxam 0 rfl (ev1 rfl) rfl) (by simp only [upd, zaa, zab]; exact rfl) ?_
  refine za rfl rfl rfl (zad (.inr rfl) (ev1 rfl)) ?_
  refine zae ?_
  refine zaf ?_
  refine dwp_draw [([], []), ([], []), ([], []), ([], []), ([], []), ([], []), ([], []), ([], []), ([], []), ([], []), ([], []), ([], []), ([], []), ([], []), ([], []), ([], []), ([], []), ([], [])] mixed (by kernel_rfl) ?_
  refine lex_r rfl rfl (zad (.inl rfl) (ev1 rfl)) ?_
  refine lex_r rfl rfl (op_nc rfl (ev1 rfl) (fun s v h => by cases h; exact ⟨_, rfl⟩)) ?_
  refine lex_r rfl rfl (op_fadm rfl fo47_9 (ev1 rfl)) ?_
  refine lex_r rfl rfl (op_lddv (idc o.tg) rfl tb29 (ev1 rfl) rfl rfl) ?_
  refine lex_r rfl rfl (zag [] [] [] rfl (ev1 rfl) (ec (ev1 rfl) en) rfl rfl (idCheck_d _) rfl rfl rfl rfl rfl rfl) ?_
  refine lex_r rfl rfl (op_eql rfl (ev1 rfl) (ev1 rfl)) ?_
  refine lex_r rfl rfl (zad (.inl rfl) (ev1 rfl)) ?_
  refine lex_gr (gd_t rfl rfl rfl) rfl rfl (zad (.inl rfl) (ev1 rfl)) ?_
  refine lex_gr (gd_t rfl rfl rfl) rfl rfl (op_nc rfl (ev2 rfl) (fun s v h => by cases h; exact ⟨_, rfl⟩)) ?_
  refine lex_gr (gd_t rfl rfl rfl) rfl rfl (op_fadm rfl fo47_9 (ev2 rfl)) ?_
  refine lex_gr (gd_t rfl rfl rfl) rfl rfl (op_lddv (idc o.tg) rfl tb29 (ev2 rfl) rfl rfl) ?_
  refine lex_gr (gd_t rfl rfl rfl) rfl rfl (zad (.inl rfl) (ev1 rfl)) ?_
  refine lex_gr (gd_t rfl rfl rfl) rfl rfl (op_nc rfl (ev2 rfl) (fun s v h => by cases h; exact ⟨_, rfl⟩)) ?_
  refine lex_gr (gd_t rfl rfl rfl) rfl rfl (op_fadm rfl fo47_0 (ev2 rfl)) ?_
  refine lex_gr (gd_t rfl rfl rfl) rfl rfl (op_lddv (idc o.id) rfl tb29 (ev2 rfl) rfl rfl) ?_
  refine lex_gr (gd_t rfl rfl rfl) rfl rfl (zag [] [] [] rfl (ev1 rfl) (ec (ev2 rfl) (ec (ev2 rfl) en)) rfl rfl (idLess_d _ _) rfl rfl rfl rfl rfl rfl) ?_
  refine lex_r rfl rfl (op_and rfl (ev1 rfl) (ev3 rfl id)) ?_
  refine lex_r rfl rfl (zad (.inr rfl) (ev1 rfl)) ?_
  refine lex_nil ?_
  refine zan ?_
  refine kend0 (rs1 rfl (rv_t rfl)) rfl ?_
  rfl
set_option maxRecDepth 4000 in
set_option maxHeartbeats 1000000 in
theorem blk7_d (o : OpM) : DFun Tryz.prog 116 [.dpm (opD o)] [] (.val (.bool (eqI o.tg zI3))) [] := by
  refine zaj (N := 9) 0 (by kernel_rfl) Tryz.func116 rfl rfl rfl (by simp only [fr0, Nat.zero_add, Nat.reduceAdd]; exact rfl) rfl fun s0 hs0 => ?_
  refine zaf ?_
  refine zac ?_
  refine za rfl rfl rfl (zad (.inr rfl) (ev1 rfl)) ?_
  refine zae ?_
  refine zaf ?_
  refine zac ?_
  refine za rfl rfl rfl (zad (.inl rfl) (ev1 rfl)) ?_
  refine za rfl rfl rfl (op_nc rfl (ev1 rfl) (fun s v h => by cases h; exact ⟨_, rfl⟩)) ?_
  refine za rfl rfl rfl (op_fadm rfl fo47_9 (ev1 rfl)) ?_
  refine za rfl rfl rfl (op_lddv (idc o.tg) rfl tb29 (ev1 rfl) rfl rfl) ?_
  refine za rfl rfl rfl (op_build0 rfl fl29 zr29) ?_
  refine za rfl rfl rfl (op_eqr eq29 rfl gd29 tb29 (ev1 rfl) (ev1 rfl)) ?_
  refine za rfl rfl rfl (zad (.inr rfl) (ev1 rfl)) ?_
  refine zae ?_
  refine zan ?_
  refine kend0 (rs1 rfl (rv_t rfl)) rfl ?_
  rfl
end Go.Proofs.YtmacjicebemgoaaGreat
namespace Go.Proofs.YtmacjicebemgoaaGreat
set_option linter.unusedVariables false
set_option linter.unusedSimpArgs false
open Go.RowKit
theorem av123 : arV Tryz.prog 123 = some (8, 4) := by kernel_rfl
theorem fo115_0 : fdO Tryz.prog 115 0 = some 0 := by kernel_rfl
theorem fo122_1 : fdO Tryz.prog 122 1 = some 1 := by kernel_rfl
theorem fo122_2 : fdO Tryz.prog 122 2 = some 2 := by kernel_rfl
theorem fo47_1 : fdO Tryz.prog 47 1 = some 3 := by kernel_rfl
theorem tb118 : tyB Tryz.prog 118 = some (false, 1) := by kernel_rfl
theorem tb119 : tyB Tryz.prog 119 = some (false, 1) := by kernel_rfl
theorem tb122 : tyB Tryz.prog 122 = some (true, 4) := by kernel_rfl
theorem errOr_z (b : Bool) {n : Int} (hn : n ≠ 0) : (errOr b n = 0) = (b = true) := by
  cases b
  · simp [errOr, hn]
  · simp [errOr]
def fnFit (j : Nat) : FuncId := match j with
  | 0 => 90
  | 1 => 94
  | 2 => 97
  | 3 => 100
  | 4 => 103
  | 5 => 106
  | 6 => 109
  | _ => 114
def fnBlk (j : Nat) : FuncId := match j with
  | 0 => 92
  | 1 => 95
  | 2 => 98
  | 3 => 101
  | 4 => 104
  | 5 => 107
  | 6 => 111
  | _ => 116
def fnApp (j : Nat) : FuncId := match j with
  | 0 => 93
  | 1 => 96
  | 2 => 99
  | 3 => 102
  | 4 => 105
  | 5 => 108
  | 6 => 112
  | _ => 117
def fldN (j : Nat) : D := match j with
  | 0 => .val (.string ⟨#[88]⟩)
  | 1 => .val (.string ⟨#[89]⟩)
  | 2 => .val (.string ⟨#[88, 50]⟩)
  | 3 => .val (.string ⟨#[89, 50]⟩)
  | 4 => .val (.string ⟨#[83, 105, 122, 101]⟩)
  | 5 => .val (.string ⟨#[67, 111, 108, 111, 114]⟩)
  | 6 => .val (.string ⟨#[83, 116, 97, 109, 112]⟩)
  | _ => .val (.string ⟨#[84, 97, 114, 103, 101, 116]⟩)
def fldAt (j : Nat) : List D := [fldN j, .fn (.func (fnFit j)) [] [], .fn (.func (fnBlk j)) [] [], .fn (.func (fnApp j)) [] []]
theorem lt8 {j : Nat} (h : j < 8) : j = 0 ∨ j = 1 ∨ j = 2 ∨ j = 3 ∨ j = 4 ∨ j = 5 ∨ j = 6 ∨ j = 7 := by omega
theorem fld_at {j : Nat} (h : j < 8) : ((fldL).drop (j * 4)).take 4 = fldAt j := by
  rcases lt8 h with rfl | rfl | rfl | rfl | rfl | rfl | rfl | rfl <;> rfl
theorem fld_oc {j : Nat} (h : j < 8) : (fldAt j).all D.oc = true := by
  rcases lt8 h with rfl | rfl | rfl | rfl | rfl | rfl | rfl | rfl <;> rfl
def usN (K : Nat) : Nat := match K with
  | 1 => 63 | 2 => 63 | 3 => 47 | 4 => 47 | 5 => 51 | 6 => 67 | _ => 128
def msN (K : Nat) : Nat := match K with
  | 1 => 15 | 2 => 15 | 5 => 1020 | _ => 0
def useB (K j : Nat) : Bool := (usN K).testBit j
theorem useB_1 {K j : Nat} (hK : 1 ≤ K ∧ K ≤ 8) (hj : j < 8) : (andZ .i64 ((usN K : Int) / 2 ^ j) 1 == 1) = useB K j := by
  have hk : K = 1 ∨ K = 2 ∨ K = 3 ∨ K = 4 ∨ K = 5 ∨ K = 6 ∨ K = 7 ∨ K = 8 := by omega
  rcases hk with rfl | rfl | rfl | rfl | rfl | rfl | rfl | rfl <;> rcases lt8 hj with rfl | rfl | rfl | rfl | rfl | rfl | rfl | rfl <;> rfl
theorem useB_0 {K j : Nat} (hK : 1 ≤ K ∧ K ≤ 8) (hj : j < 8) : (andZ .i64 ((usN K : Int) / 2 ^ j) 1 == 0) = !useB K j := by
  have hk : K = 1 ∨ K = 2 ∨ K = 3 ∨ K = 4 ∨ K = 5 ∨ K = 6 ∨ K = 7 ∨ K = 8 := by omega
  rcases hk with rfl | rfl | rfl | rfl | rfl | rfl | rfl | rfl <;> rcases lt8 hj with rfl | rfl | rfl | rfl | rfl | rfl | rfl | rfl <;> rfl
def fitB (m : Int) (j : Nat) (o : OpM) : Bool := match j with
  | 0 => drB o.x
  | 1 => drB o.y
  | 2 => drB o.x2
  | 3 => drB o.y2
  | 4 => (decide (0 ≤ o.sz) && decide (o.sz ≤ m))
  | 5 => true
  | 6 => (errOr (stB o.sw o.sh o.px) 190 == 0)
  | _ => ((errOr (mayR o.tg) 210 == 0) && lessR o.tg o.id)
def blkB (j : Nat) (o : OpM) : Bool := match j with
  | 0 => (o.x == 0)
  | 1 => (o.y == 0)
  | 2 => (o.x2 == 0)
  | 3 => (o.y2 == 0)
  | 4 => (o.sz == 0)
  | 5 => decide (o.co = zC4)
  | 6 => (((o.sw == 0) && (o.sh == 0)) && decide (o.px = []))
  | _ => eqI o.tg zI3
theorem fit_gen {j : Nat} (h : j < 8) (u m : Int) (a b : D) (o : OpM) : DFun Tryz.prog (fnFit j) [.agg [iD u, iD m, a, b], .dpm (opD o)] [] (.val (.bool (fitB m j o))) [] := by
  rcases lt8 h with rfl | rfl | rfl | rfl | rfl | rfl | rfl | rfl
  · exact fit0_d u m a b o
  · exact fit1_d u m a b o
  · exact fit2_d u m a b o
  · exact fit3_d u m a b o
  · exact fit4_d u m a b o
  · exact fit5_d u m a b o
  · exact fit6_d u m a b o
  · exact fit7_d u m a b o
theorem blk_gen {j : Nat} (h : j < 8) (o : OpM) : DFun Tryz.prog (fnBlk j) [.dpm (opD o)] [] (.val (.bool (blkB j o))) [] := by
  rcases lt8 h with rfl | rfl | rfl | rfl | rfl | rfl | rfl | rfl
  · exact blk0_d o
  · exact blk1_d o
  · exact blk2_d o
  · exact blk3_d o
  · exact blk4_d o
  · exact blk5_d o
  · exact blk6_d o
  · exact blk7_d o
def okAt (K : Nat) (o : OpM) (j : Nat) : Bool := if useB K j = true then fitB (msN K) j o else blkB j o
theorem okAt_bad {K j : Nat} {o : OpM} (h : ((useB K j && !fitB (msN K) j o) || (!useB K j && !blkB j o)) = true) : okAt K o j = false := by
  unfold okAt
  cases h1 : useB K j <;> rw [h1] at h <;> simpa using h
theorem okAt_good {K j : Nat} {o : OpM} (h : ((useB K j && !fitB (msN K) j o) || (!useB K j && !blkB j o)) = false) : okAt K o j = true := by
  unfold okAt
  cases h1 : useB K j <;> rw [h1] at h <;> simpa using h
theorem opB_at {K : Nat} {o : OpM} (hK : 1 ≤ K ∧ K ≤ 8) (hk : o.kd = K) : opB o = true ↔ mayR o.id = true ∧ ∀ j, j < 8 → okAt K o j = true := by
  have all8 : (∀ j, j < 8 → okAt K o j = true) ↔ okAt K o 0 = true ∧ okAt K o 1 = true ∧ okAt K o 2 = true ∧ okAt K o 3 = true ∧ okAt K o 4 = true ∧ okAt K o 5 = true ∧ okAt K o 6 = true ∧ okAt K o 7 = true := by
    constructor
    · intro h
      exact ⟨h 0 (by omega), h 1 (by omega), h 2 (by omega), h 3 (by omega), h 4 (by omega), h 5 (by omega), h 6 (by omega), h 7 (by omega)⟩
    · rintro ⟨h0, h1, h2, h3, h4, h5, h6, h7⟩ j hj
      rcases lt8 hj with rfl | rfl | rfl | rfl | rfl | rfl | rfl | rfl <;> assumption
  rw [all8]
  have hk8 : K = 1 ∨ K = 2 ∨ K = 3 ∨ K = 4 ∨ K = 5 ∨ K = 6 ∨ K = 7 ∨ K = 8 := by omega
  unfold opB
  rcases hk8 with rfl | rfl | rfl | rfl | rfl | rfl | rfl | rfl <;> rw [hk] <;> simp [okAt, useB, usN, msN, fitB, blkB, mostK, errz, errOr_z, eqI_dec, Nat.testBit] <;> (try (constructor <;> intro h <;> simp_all))
def pfN (K : Nat) : FuncId := match K with
  | 1 => 136
  | 2 => 136
  | 3 => 138
  | 4 => 140
  | 5 => 141
  | _ => 143
def rfN (K : Nat) : FuncId := match K with
  | 1 => 137
  | 2 => 137
  | 3 => 139
  | 4 => 139
  | 5 => 142
  | _ => 144
theorem kindOf_lo {K : Nat} (h : 1 ≤ K ∧ K ≤ 6) : DFun Tryz.prog 62 [.val (.int .i64 (K : Int))] [] (.tup [.agg [iD (usN K), iD (msN K), .fn (.func (pfN K)) [] [], .fn (.func (rfN K)) [] []], .val (.bool true)]) [] := by
  have : K = 1 ∨ K = 2 ∨ K = 3 ∨ K = 4 ∨ K = 5 ∨ K = 6 := by omega
  rcases this with rfl | rfl | rfl | rfl | rfl | rfl
  · exact kindOf_1
  · exact kindOf_2
  · exact kindOf_3
  · exact kindOf_4
  · exact kindOf_5
  · exact kindOf_6
theorem kindOf_hi {K : Nat} (h : 7 ≤ K ∧ K ≤ 8) : DFun Tryz.prog 62 [.val (.int .i64 (K : Int))] [] (.tup [.agg [iD (usN K), iD (msN K), .val .nilFunc, .val .nilFunc], .val (.bool true)]) [] := by
  have : K = 7 ∨ K = 8 := by omega
  rcases this with rfl | rfl
  · exact kindOf_7
  · exact kindOf_8
set_option maxRecDepth 4000 in
set_option maxHeartbeats 1000000 in
theorem opc_lo (o : OpM) (K : Nat) (hK : 1 ≤ K ∧ K ≤ 6) (hk : o.kd = K) : DFun Tryz.prog 29 [.agg (opD o)] [] (.val (.int .i64 (errOr (opB o) 220))) [] := by
  refine zaj (N := 54) 0 (by kernel_rfl) Tryz.func29 rfl rfl rfl (by simp only [fr0, Nat.zero_add, Nat.reduceAdd]; exact rfl) rfl fun s0 hs0 => ?_
  refine zaf ?_
  have hK8 : 1 ≤ K ∧ K ≤ 8 := by omega
  refine zai 1 (by simp only [holes, List.cons_append, List.nil_append]; exact rfl) ?_
  refine zac ?_
  refine zak rfl rfl rfl (op_boxam 0 rfl (ev1 rfl) rfl) (by simp only [upd, zaa, zab]; exact rfl) ?_
  refine za rfl rfl rfl (zad (.inr rfl) (ev1 rfl)) ?_
  refine zae ?_
  refine zaf ?_
  refine zai 1 (by simp only [holes, List.cons_append, List.nil_append]; exact rfl) ?_
  refine zac ?_
  refine za rfl rfl rfl (zal rfl fo47_1 (ev1 rfl)) ?_
  refine za rfl rfl rfl ((op_ldm rfl tb3 (ev1 rfl) rfl rfl).cast (d' := .val (.int .i64 (K : Int))) (by rw [hk])) ?_
  refine za rfl rfl rfl (zag [] [] [] rfl (ev1 rfl) (ec (ev1 rfl) en) rfl rfl (kindOf_lo hK) rfl rfl rfl rfl rfl rfl) ?_
  refine za rfl rfl rfl (zad (.inl rfl) (ev1 rfl)) ?_
  refine za rfl rfl rfl (op_ext rfl (ev1 rfl) rfl) ?_
  refine za rfl rfl rfl (op_ext rfl (ev1 rfl) rfl) ?_
  refine zak rfl rfl rfl (op_alloc 1 rfl zr115 rfl) (by simp only [upd, zaa, zab]; exact rfl) ?_
  refine walk_s rfl rfl (op_stam rfl tb115 (ev1 rfl) (ev1 rfl) rfl rfl rfl rfl) (by simp only [upd, zaa, zab]; exact rfl) ?_
  refine za rfl rfl rfl (zad (.inr rfl) (ev1 rfl)) ?_
  refine zae ?_
  refine zaf ?_
  refine zaf ?_
  refine zac ?_
  refine za rfl rfl rfl (zad (.inl rfl) (ev1 rfl)) ?_
  refine za rfl rfl rfl ((op_not rfl (ev1 rfl)).cast (d' := .val (.bool false)) (by kernel_rfl)) ?_
  refine za rfl rfl rfl (zad (.inl rfl) (ev1 rfl)) ?_
  refine walk_k (gd_f (b := false) rfl rfl rfl) rfl rfl rfl (zal rfl fo47_0 (ev1 rfl)) (by simp only [upd, zaa, zab]; exact rfl) ?_
  refine walk_k (gd_f (b := false) rfl rfl rfl) rfl rfl rfl (op_ldmv (R := [_, _, _]) rfl tb29 (ev2 rfl) rfl rfl rfl) (by simp only [upd, zaa, zab]; exact rfl) ?_
  refine walk_k (gd_f (b := false) rfl rfl rfl) rfl rfl rfl (zag [] [] [] rfl (ev1 rfl) (ec (ev2 rfl) en) rfl rfl (idCheck_d o.id) rfl rfl rfl rfl rfl rfl) (by simp only [upd, zaa, zab]; exact rfl) ?_
  refine walk_k (gd_f (b := false) rfl rfl rfl) rfl rfl rfl (op_neq rfl (ev2 rfl) (ev1 rfl)) (by simp only [upd, zaa, zab]; exact rfl) ?_
  refine za rfl rfl rfl (op_or rfl (ev1 rfl) (ev3 rfl (fun _ => rfl))) ?_
  refine zae ?_
  refine dwp_cond rfl (fun ci => ?_) (fun ci => ?_)
  · have hi : mayR o.id = false := by
      cases h : mayR o.id
      · rfl
      · rw [h] at ci; simp [errOr] at ci
    refine zaf ?_
    refine zac ?_
    refine za rfl rfl rfl (zad (.inr rfl) (ev1 rfl)) ?_
    refine zae ?_
    refine zan ?_
    refine kend0 (rs1 rfl (rv_t rfl)) rfl ?_
    have hb : opB o = false := by
      cases h : opB o
      · rfl
      · rw [((opB_at hK8 hk).1 h).1] at hi
        cases hi
    rw [hb]
    rfl
  · have hi : mayR o.id = true := by
      cases h : mayR o.id
      · rw [h] at ci; simp [errOr] at ci
      · rfl
    refine zam ?_
    refine zaf ?_
    refine zaf ?_
    refine zac ?_
    refine za rfl rfl rfl (zag [] [] [] rfl (ev1 rfl) en rfl rfl (fields_d) rfl rfl rfl rfl rfl rfl) ?_
    refine za rfl rfl rfl (zad (.inl rfl) (ev1 rfl)) ?_
    refine zae ?_
    refine dwp_block ?_
    refine dwp_loopS ⟨hs0, rfl⟩ (α := Nat) (fun j => [(22, .val (.int .i64 (j : Int)))]) [(1, _), (3, _), (21, _)] (fun j => []) [_, _] (fun j => j ≤ 8 ∧ ∀ i, i < j → okAt K o i = true) (fun j => 8 - j) 0 [0, 1] (⟨by omega, fun i h => by omega⟩) rfl ⟨rfl, rfl, rfl, trivial⟩ ⟨rfl, trivial⟩ ⟨rfl, rfl, trivial⟩ ?_
    intro j hx
    simp only [upd, zaa, zab, List.cons_append, List.nil_append]
    obtain ⟨hj, he⟩ := hx
    refine zaf ?_
    refine zac ?_
    refine za rfl rfl rfl (op_lss rfl (ev1 rfl) (ev1 rfl)) ?_
    refine zae ?_
    refine zaf ?_
    refine dwp_cond rfl (fun c2 => ?_) (fun c2 => ?_)
    · try simp only [decide_eq_true_eq, decide_eq_false_iff_not, beq_iff_eq, bne_iff_ne, beq_eq_false_iff_ne, bne_eq_false_iff_eq, Bool.not_eq_true', Bool.not_eq_false', Bool.and_eq_true, Bool.or_eq_true, Bool.or_eq_false_iff, ne_eq, Decidable.not_not, Int.not_lt, Int.not_le] at c2
      refine zam ?_
      refine zaf ?_
      refine dwp_block ?_
      refine zaf ?_
      refine zai 1 (by simp only [holes, List.cons_append, List.nil_append]; exact rfl) ?_
      refine zac ?_
      refine za rfl rfl rfl (zad (.inl rfl) (ev1 rfl)) ?_
      refine za rfl rfl rfl ((op_ixwr j rfl av123 (ev1 rfl) (ev1 rfl) (fun _ => rfl) (fun _ => by omega) (by show j * 4 + 4 ≤ 32; omega)).cast (d' := .agg (fldAt j)) (by exact congrArg D.agg (fld_at (j := j) (by omega)))) ?_
      refine zak rfl rfl rfl (op_alloc 2 rfl zr122 rfl) (by simp only [upd, zaa, zab]; exact rfl) ?_
      refine za rfl rfl rfl (zad (.inr rfl) (ev1 rfl)) ?_
      refine walk_s rfl rfl (op_stam rfl tb122 (ev1 rfl) (ev1 rfl) rfl rfl rfl (fld_oc (by omega))) (by simp only [upd, zaa, zab]; exact rfl) ?_
      refine zae ?_
      refine zaf ?_
      refine zac ?_
      refine za rfl rfl rfl (zal rfl fo115_0 (ev1 rfl)) ?_
      refine za rfl rfl rfl (op_ldm rfl tb3 (ev1 rfl) rfl rfl) ?_
      refine za rfl rfl rfl (zad (.inl rfl) (ev1 rfl)) ?_
      refine za rfl rfl rfl (op_shr (j) rfl (ev1 rfl) (ev1 rfl) (fun _ => ⟨rfl, by simp [IntKind.bits]; omega⟩)) ?_
      refine za rfl rfl rfl (op_iand rfl (ev1 rfl) (ev1 rfl)) ?_
      refine za rfl rfl rfl ((op_eql rfl (ev1 rfl) (ev1 rfl)).cast (d' := .val (.bool (useB K j))) (by rw [useB_1 hK8 (by omega)])) ?_
      refine za rfl rfl rfl (zad (.inl rfl) (ev1 rfl)) ?_
      refine zah (gd_t rfl rfl rfl) rfl rfl rfl (zal rfl fo122_1 (ev1 rfl)) ?_
      refine zah (gd_t rfl rfl rfl) rfl rfl rfl (op_ldm rfl tb118 (ev2 rfl) rfl rfl) ?_
      refine zah (gd_t rfl rfl rfl) rfl rfl rfl (op_ldmw rfl tb115 (ev1 rfl) rfl rfl) ?_
      refine zah (gd_t rfl rfl rfl) rfl rfl rfl (zag [] [0] [] rfl (ev2 rfl) (ec (ev2 rfl) (ec (ev1 rfl) en)) rfl rfl (fit_gen (j := j) (by omega) (usN K) (msN K) _ _ o) rfl rfl rfl rfl rfl rfl) ?_
      refine zah (gd_t rfl rfl rfl) rfl rfl rfl (op_not rfl (ev2 rfl)) ?_
      refine za rfl rfl rfl (op_and rfl (ev1 rfl) (ev3 rfl id)) ?_
      refine za rfl rfl rfl (zad (.inl rfl) (ev1 rfl)) ?_
      refine zah (gd_f rfl rfl rfl) rfl rfl rfl (zal rfl fo115_0 (ev1 rfl)) ?_
      refine zah (gd_f rfl rfl rfl) rfl rfl rfl (op_ldm rfl tb3 (ev2 rfl) rfl rfl) ?_
      refine zah (gd_f rfl rfl rfl) rfl rfl rfl (zad (.inl rfl) (ev1 rfl)) ?_
      refine zah (gd_f rfl rfl rfl) rfl rfl rfl (op_shr (j) rfl (ev2 rfl) (ev2 rfl) (fun _ => ⟨rfl, by simp [IntKind.bits]; omega⟩)) ?_
      refine zah (gd_f rfl rfl rfl) rfl rfl rfl (op_iand rfl (ev2 rfl) (ev1 rfl)) ?_
      refine zah (gd_f rfl rfl rfl) rfl rfl rfl ((op_eql rfl (ev2 rfl) (ev1 rfl)).cast (d' := .val (.bool (!useB K j))) (by rw [useB_0 hK8 (by omega)])) ?_
      refine zah (gd_f rfl rfl rfl) rfl rfl rfl (zad (.inl rfl) (ev2 rfl)) ?_
      refine zah (gd_tt rfl rfl rfl) rfl rfl rfl (zal rfl fo122_2 (ev1 rfl)) ?_
      refine zah (gd_tt rfl rfl rfl) rfl rfl rfl (op_ldm rfl tb119 (ev2 rfl) rfl rfl) ?_
      refine zah (gd_tt rfl rfl rfl) rfl rfl rfl (zag [] [0] [] rfl (ev2 rfl) (ec (ev1 rfl) en) rfl rfl (blk_gen (j := j) (by omega) o) rfl rfl rfl rfl rfl rfl) ?_
      refine zah (gd_tt rfl rfl rfl) rfl rfl rfl (op_not rfl (ev2 rfl)) ?_
      refine zah (gd_f rfl rfl rfl) rfl rfl rfl (op_and rfl (ev2 rfl) (ev2 rfl)) ?_
      refine za rfl rfl rfl (op_or rfl (ev1 rfl) (ev3 rfl id)) ?_
      refine zae ?_
      refine dwp_cond rfl (fun hc => ?_) (fun hc => ?_)
      · have hbad : okAt K o j = false := okAt_bad hc
        refine zaf ?_
        refine zac ?_
        refine za rfl rfl rfl (zad (.inr rfl) (ev1 rfl)) ?_
        refine zae ?_
        refine zan ?_
        refine kend0 (rs1 rfl (rv_t rfl)) rfl ?_
        have hb : opB o = false := by
          cases h : opB o
          · rfl
          · rw [((opB_at hK8 hk).1 h).2 j (by omega)] at hbad
            cases hbad
        rw [hb]
        rfl
      · have hgood : okAt K o j = true := okAt_good hc
        refine zam ?_
        refine zac ?_
        refine za rfl rfl rfl (op_add' rfl (ev1 rfl) (ev1 rfl) (fun _ => IntWalk.i64_in _ (by omega))) ?_
        refine za rfl rfl rfl (zad (.inl rfl) (ev1 rfl)) ?_
        refine zae ?_
        refine ⟨j + 1, [0, 1], ⟨by omega, fun i h => (Nat.lt_succ_iff_lt_or_eq.1 h).elim (he i) fun e => e ▸ hgood⟩, by simp only []; omega, rfl, ⟨rfl, rfl, rfl, rfl, trivial⟩, ⟨rfl, rfl, trivial⟩⟩
    · try simp only [decide_eq_true_eq, decide_eq_false_iff_not, beq_iff_eq, bne_iff_ne, beq_eq_false_iff_ne, bne_eq_false_iff_eq, Bool.not_eq_true', Bool.not_eq_false', Bool.and_eq_true, Bool.or_eq_true, Bool.or_eq_false_iff, ne_eq, Decidable.not_not, Int.not_lt, Int.not_le] at c2
      refine dwp_exit ?_
      refine zaf ?_
      refine zac ?_
      refine za rfl rfl rfl (zad (.inr rfl) (ev1 rfl)) ?_
      refine zae ?_
      refine zan ?_
      refine kend0 (rs1 rfl (rv_t rfl)) rfl ?_
      rw [(opB_at hK8 hk).2 ⟨hi, fun i h => he i (by omega)⟩]
      rfl
set_option maxRecDepth 4000 in
set_option maxHeartbeats 1000000 in
theorem opc_hi (o : OpM) (K : Nat) (hK : 7 ≤ K ∧ K ≤ 8) (hk : o.kd = K) : DFun Tryz.prog 29 [.agg (opD o)] [] (.val (.int .i64 (errOr (opB o) 220))) [] := by
  refine zaj (N := 54) 0 (by kernel_rfl) Tryz.func29 rfl rfl rfl (by simp only [fr0, Nat.zero_add, Nat.reduceAdd]; exact rfl) rfl fun s0 hs0 => ?_
  refine zaf ?_
  have hK8 : 1 ≤ K ∧ K ≤ 8 := by omega
  refine zai 1 (by simp only [holes, List.cons_append, List.nil_append]; exact rfl) ?_
  refine zac ?_
  refine zak rfl rfl rfl (op_boxam 0 rfl (ev1 rfl) rfl) (by simp only [upd, zaa, zab]; exact rfl) ?_
  refine za rfl rfl rfl (zad (.inr rfl) (ev1 rfl)) ?_
  refine zae ?_
  refine zaf ?_
  refine zai 1 (by simp only [holes, List.cons_append, List.nil_append]; exact rfl) ?_
  refine zac ?_
  refine za rfl rfl rfl (zal rfl fo47_1 (ev1 rfl)) ?_
  refine za rfl rfl rfl ((op_ldm rfl tb3 (ev1 rfl) rfl rfl).cast (d' := .val (.int .i64 (K : Int))) (by rw [hk])) ?_
  refine za rfl rfl rfl (zag [] [] [] rfl (ev1 rfl) (ec (ev1 rfl) en) rfl rfl (kindOf_hi hK) rfl rfl rfl rfl rfl rfl) ?_
  refine za rfl rfl rfl (zad (.inl rfl) (ev1 rfl)) ?_
  refine za rfl rfl rfl (op_ext rfl (ev1 rfl) rfl) ?_
  refine za rfl rfl rfl (op_ext rfl (ev1 rfl) rfl) ?_
  refine zak rfl rfl rfl (op_alloc 1 rfl zr115 rfl) (by simp only [upd, zaa, zab]; exact rfl) ?_
  refine walk_s rfl rfl (op_stam rfl tb115 (ev1 rfl) (ev1 rfl) rfl rfl rfl rfl) (by simp only [upd, zaa, zab]; exact rfl) ?_
  refine za rfl rfl rfl (zad (.inr rfl) (ev1 rfl)) ?_
  refine zae ?_
  refine zaf ?_
  refine zaf ?_
  refine zac ?_
  refine za rfl rfl rfl (zad (.inl rfl) (ev1 rfl)) ?_
  refine za rfl rfl rfl ((op_not rfl (ev1 rfl)).cast (d' := .val (.bool false)) (by kernel_rfl)) ?_
  refine za rfl rfl rfl (zad (.inl rfl) (ev1 rfl)) ?_
  refine walk_k (gd_f (b := false) rfl rfl rfl) rfl rfl rfl (zal rfl fo47_0 (ev1 rfl)) (by simp only [upd, zaa, zab]; exact rfl) ?_
  refine walk_k (gd_f (b := false) rfl rfl rfl) rfl rfl rfl (op_ldmv (R := [_, _, _]) rfl tb29 (ev2 rfl) rfl rfl rfl) (by simp only [upd, zaa, zab]; exact rfl) ?_
  refine walk_k (gd_f (b := false) rfl rfl rfl) rfl rfl rfl (zag [] [] [] rfl (ev1 rfl) (ec (ev2 rfl) en) rfl rfl (idCheck_d o.id) rfl rfl rfl rfl rfl rfl) (by simp only [upd, zaa, zab]; exact rfl) ?_
  refine walk_k (gd_f (b := false) rfl rfl rfl) rfl rfl rfl (op_neq rfl (ev2 rfl) (ev1 rfl)) (by simp only [upd, zaa, zab]; exact rfl) ?_
  refine za rfl rfl rfl (op_or rfl (ev1 rfl) (ev3 rfl (fun _ => rfl))) ?_
  refine zae ?_
  refine dwp_cond rfl (fun ci => ?_) (fun ci => ?_)
  · have hi : mayR o.id = false := by
      cases h : mayR o.id
      · rfl
      · rw [h] at ci; simp [errOr] at ci
    refine zaf ?_
    refine zac ?_
    refine za rfl rfl rfl (zad (.inr rfl) (ev1 rfl)) ?_
    refine zae ?_
    refine zan ?_
    refine kend0 (rs1 rfl (rv_t rfl)) rfl ?_
    have hb : opB o = false := by
      cases h : opB o
      · rfl
      · rw [((opB_at hK8 hk).1 h).1] at hi
        cases hi
    rw [hb]
    rfl
  · have hi : mayR o.id = true := by
      cases h : mayR o.id
      · rw [h] at ci; simp [errOr] at ci
      · rfl
    refine zam ?_
    refine zaf ?_
    refine zaf ?_
    refine zac ?_
    refine za rfl rfl rfl (zag [] [] [] rfl (ev1 rfl) en rfl rfl (fields_d) rfl rfl rfl rfl rfl rfl) ?_
    refine za rfl rfl rfl (zad (.inl rfl) (ev1 rfl)) ?_
    refine zae ?_
    refine dwp_block ?_
    refine dwp_loopS ⟨hs0, rfl⟩ (α := Nat) (fun j => [(22, .val (.int .i64 (j : Int)))]) [(1, _), (3, _), (21, _)] (fun j => []) [_, _] (fun j => j ≤ 8 ∧ ∀ i, i < j → okAt K o i = true) (fun j => 8 - j) 0 [0, 1] (⟨by omega, fun i h => by omega⟩) rfl ⟨rfl, rfl, rfl, trivial⟩ ⟨rfl, trivial⟩ ⟨rfl, rfl, trivial⟩ ?_
    intro j hx
    simp only [upd, zaa, zab, List.cons_append, List.nil_append]
    obtain ⟨hj, he⟩ := hx
    refine zaf ?_
    refine zac ?_
    refine za rfl rfl rfl (op_lss rfl (ev1 rfl) (ev1 rfl)) ?_
    refine zae ?_
    refine zaf ?_
    refine dwp_cond rfl (fun c2 => ?_) (fun c2 => ?_)
    · try simp only [decide_eq_true_eq, decide_eq_false_iff_not, beq_iff_eq, bne_iff_ne, beq_eq_false_iff_ne, bne_eq_false_iff_eq, Bool.not_eq_true', Bool.not_eq_false', Bool.and_eq_true, Bool.or_eq_true, Bool.or_eq_false_iff, ne_eq, Decidable.not_not, Int.not_lt, Int.not_le] at c2
      refine zam ?_
      refine zaf ?_
      refine dwp_block ?_
      refine zaf ?_
      refine zai 1 (by simp only [holes, List.cons_append, List.nil_append]; exact rfl) ?_
      refine zac ?_
      refine za rfl rfl rfl (zad (.inl rfl) (ev1 rfl)) ?_
      refine za rfl rfl rfl ((op_ixwr j rfl av123 (ev1 rfl) (ev1 rfl) (fun _ => rfl) (fun _ => by omega) (by show j * 4 + 4 ≤ 32; omega)).cast (d' := .agg (fldAt j)) (by exact congrArg D.agg (fld_at (j := j) (by omega)))) ?_
      refine zak rfl rfl rfl (op_alloc 2 rfl zr122 rfl) (by simp only [upd, zaa, zab]; exact rfl) ?_
      refine za rfl rfl rfl (zad (.inr rfl) (ev1 rfl)) ?_
      refine walk_s rfl rfl (op_stam rfl tb122 (ev1 rfl) (ev1 rfl) rfl rfl rfl (fld_oc (by omega))) (by simp only [upd, zaa, zab]; exact rfl) ?_
      refine zae ?_
      refine zaf ?_
      refine zac ?_
      refine za rfl rfl rfl (zal rfl fo115_0 (ev1 rfl)) ?_
      refine za rfl rfl rfl (op_ldm rfl tb3 (ev1 rfl) rfl rfl) ?_
      refine za rfl rfl rfl (zad (.inl rfl) (ev1 rfl)) ?_
      refine za rfl rfl rfl (op_shr (j) rfl (ev1 rfl) (ev1 rfl) (fun _ => ⟨rfl, by simp [IntKind.bits]; omega⟩)) ?_
      refine za rfl rfl rfl (op_iand rfl (ev1 rfl) (ev1 rfl)) ?_
      refine za rfl rfl rfl ((op_eql rfl (ev1 rfl) (ev1 rfl)).cast (d' := .val (.bool (useB K j))) (by rw [useB_1 hK8 (by omega)])) ?_
      refine za rfl rfl rfl (zad (.inl rfl) (ev1 rfl)) ?_
      refine zah (gd_t rfl rfl rfl) rfl rfl rfl (zal rfl fo122_1 (ev1 rfl)) ?_
      refine zah (gd_t rfl rfl rfl) rfl rfl rfl (op_ldm rfl tb118 (ev2 rfl) rfl rfl) ?_
      refine zah (gd_t rfl rfl rfl) rfl rfl rfl (op_ldmw rfl tb115 (ev1 rfl) rfl rfl) ?_
      refine zah (gd_t rfl rfl rfl) rfl rfl rfl (zag [] [0] [] rfl (ev2 rfl) (ec (ev2 rfl) (ec (ev1 rfl) en)) rfl rfl (fit_gen (j := j) (by omega) (usN K) (msN K) _ _ o) rfl rfl rfl rfl rfl rfl) ?_
      refine zah (gd_t rfl rfl rfl) rfl rfl rfl (op_not rfl (ev2 rfl)) ?_
      refine za rfl rfl rfl (op_and rfl (ev1 rfl) (ev3 rfl id)) ?_
      refine za rfl rfl rfl (zad (.inl rfl) (ev1 rfl)) ?_
      refine zah (gd_f rfl rfl rfl) rfl rfl rfl (zal rfl fo115_0 (ev1 rfl)) ?_
      refine zah (gd_f rfl rfl rfl) rfl rfl rfl (op_ldm rfl tb3 (ev2 rfl) rfl rfl) ?_
      refine zah (gd_f rfl rfl rfl) rfl rfl rfl (zad (.inl rfl) (ev1 rfl)) ?_
      refine zah (gd_f rfl rfl rfl) rfl rfl rfl (op_shr (j) rfl (ev2 rfl) (ev2 rfl) (fun _ => ⟨rfl, by simp [IntKind.bits]; omega⟩)) ?_
      refine zah (gd_f rfl rfl rfl) rfl rfl rfl (op_iand rfl (ev2 rfl) (ev1 rfl)) ?_
      refine zah (gd_f rfl rfl rfl) rfl rfl rfl ((op_eql rfl (ev2 rfl) (ev1 rfl)).cast (d' := .val (.bool (!useB K j))) (by rw [useB_0 hK8 (by omega)])) ?_
      refine zah (gd_f rfl rfl rfl) rfl rfl rfl (zad (.inl rfl) (ev2 rfl)) ?_
      refine zah (gd_tt rfl rfl rfl) rfl rfl rfl (zal rfl fo122_2 (ev1 rfl)) ?_
      refine zah (gd_tt rfl rfl rfl) rfl rfl rfl (op_ldm rfl tb119 (ev2 rfl) rfl rfl) ?_
      refine zah (gd_tt rfl rfl rfl) rfl rfl rfl (zag [] [0] [] rfl (ev2 rfl) (ec (ev1 rfl) en) rfl rfl (blk_gen (j := j) (by omega) o) rfl rfl rfl rfl rfl rfl) ?_
      refine zah (gd_tt rfl rfl rfl) rfl rfl rfl (op_not rfl (ev2 rfl)) ?_
      refine zah (gd_f rfl rfl rfl) rfl rfl rfl (op_and rfl (ev2 rfl) (ev2 rfl)) ?_
      refine za rfl rfl rfl (op_or rfl (ev1 rfl) (ev3 rfl id)) ?_
      refine zae ?_
      refine dwp_cond rfl (fun hc => ?_) (fun hc => ?_)
      · have hbad : okAt K o j = false := okAt_bad hc
        refine zaf ?_
        refine zac ?_
        refine za rfl rfl rfl (zad (.inr rfl) (ev1 rfl)) ?_
        refine zae ?_
        refine zan ?_
        refine kend0 (rs1 rfl (rv_t rfl)) rfl ?_
        have hb : opB o = false := by
          cases h : opB o
          · rfl
          · rw [((opB_at hK8 hk).1 h).2 j (by omega)] at hbad
            cases hbad
        rw [hb]
        rfl
      · have hgood : okAt K o j = true := okAt_good hc
        refine zam ?_
        refine zac ?_
        refine za rfl rfl rfl (op_add' rfl (ev1 rfl) (ev1 rfl) (fun _ => IntWalk.i64_in _ (by omega))) ?_
        refine za rfl rfl rfl (zad (.inl rfl) (ev1 rfl)) ?_
        refine zae ?_
        refine ⟨j + 1, [0, 1], ⟨by omega, fun i h => (Nat.lt_succ_iff_lt_or_eq.1 h).elim (he i) fun e => e ▸ hgood⟩, by simp only []; omega, rfl, ⟨rfl, rfl, rfl, rfl, trivial⟩, ⟨rfl, rfl, trivial⟩⟩
    · try simp only [decide_eq_true_eq, decide_eq_false_iff_not, beq_iff_eq, bne_iff_ne, beq_eq_false_iff_ne, bne_eq_false_iff_eq, Bool.not_eq_true', Bool.not_eq_false', Bool.and_eq_true, Bool.or_eq_true, Bool.or_eq_false_iff, ne_eq, Decidable.not_not, Int.not_lt, Int.not_le] at c2
      refine dwp_exit ?_
      refine zaf ?_
      refine zac ?_
      refine za rfl rfl rfl (zad (.inr rfl) (ev1 rfl)) ?_
      refine zae ?_
      refine zan ?_
      refine kend0 (rs1 rfl (rv_t rfl)) rfl ?_
      rw [(opB_at hK8 hk).2 ⟨hi, fun i h => he i (by omega)⟩]
      rfl
set_option maxRecDepth 4000 in
set_option maxHeartbeats 1000000 in
theorem opc_no (o : OpM) (hk : ¬ (1 ≤ o.kd ∧ o.kd ≤ 8)) : DFun Tryz.prog 29 [.agg (opD o)] [] (.val (.int .i64 (errOr (opB o) 220))) [] := by
  refine zaj (N := 54) 0 (by kernel_rfl) Tryz.func29 rfl rfl rfl (by simp only [fr0, Nat.zero_add, Nat.reduceAdd]; exact rfl) rfl fun s0 hs0 => ?_
  refine zaf ?_
  refine zai 1 (by simp only [holes, List.cons_append, List.nil_append]; exact rfl) ?_
  refine zac ?_
  refine zak rfl rfl rfl (op_boxam 0 rfl (ev1 rfl) rfl) (by simp only [upd, zaa, zab]; exact rfl) ?_
  refine za rfl rfl rfl (zad (.inr rfl) (ev1 rfl)) ?_
  refine zae ?_
  refine zaf ?_
  refine zai 1 (by simp only [holes, List.cons_append, List.nil_append]; exact rfl) ?_
  refine zac ?_
  refine za rfl rfl rfl (zal rfl fo47_1 (ev1 rfl)) ?_
  refine za rfl rfl rfl (op_ldm rfl tb3 (ev1 rfl) rfl rfl) ?_
  refine za rfl rfl rfl (zag [] [] [] rfl (ev1 rfl) (ec (ev1 rfl) en) rfl rfl (kindOf_no _ hk) rfl rfl rfl rfl rfl rfl) ?_
  refine za rfl rfl rfl (zad (.inl rfl) (ev1 rfl)) ?_
  refine za rfl rfl rfl (op_ext rfl (ev1 rfl) rfl) ?_
  refine za rfl rfl rfl (op_ext rfl (ev1 rfl) rfl) ?_
  refine zak rfl rfl rfl (op_alloc 1 rfl zr115 rfl) (by simp only [upd, zaa, zab]; exact rfl) ?_
  refine walk_s rfl rfl (op_stwa rfl tb115 (ev1 rfl) (ev1 rfl) rfl rfl rfl rfl) (by simp only [upd, zaa, zab]; exact rfl) ?_
  refine za rfl rfl rfl (zad (.inr rfl) (ev1 rfl)) ?_
  refine zae ?_
  refine zaf ?_
  refine zaf ?_
  refine zac ?_
  refine za rfl rfl rfl (zad (.inl rfl) (ev1 rfl)) ?_
  refine za rfl rfl rfl ((op_not rfl (ev1 rfl)).cast (d' := .val (.bool true)) (by kernel_rfl)) ?_
  refine za rfl rfl rfl (zad (.inl rfl) (ev1 rfl)) ?_
  refine zah (gd_f (b := true) rfl rfl rfl) rfl rfl rfl (dop_never (d := .junk)) ?_
  refine zah (gd_f (b := true) rfl rfl rfl) rfl rfl rfl (dop_never (d := .junk)) ?_
  refine zah (gd_f (b := true) rfl rfl rfl) rfl rfl rfl (dop_never (d := .junk)) ?_
  refine zah (gd_f (b := true) rfl rfl rfl) rfl rfl rfl (dop_never (d := .val (.bool false))) ?_
  refine za rfl rfl rfl ((op_or rfl (ev1 rfl) (ev3 rfl id)).cast (d' := .val (.bool true)) (by rfl)) ?_
  refine zae ?_
  refine dwp_if_t rfl (rfl) ?_
  refine zaf ?_
  refine zac ?_
  refine za rfl rfl rfl (zad (.inr rfl) (ev1 rfl)) ?_
  refine zae ?_
  refine zan ?_
  refine kend0 (rs1 rfl (rv_t rfl)) rfl ?_
  have hb : opB o = false := by
    unfold opB
    simp
    intros
    omega
  rw [hb]
  rfl
theorem opCheck_d (o : OpM) : DFun Tryz.prog 29 [.agg (opD o)] [] (.val (.int .i64 (errOr (opB o) 220))) [] := by
  by_cases h : 1 ≤ o.kd ∧ o.kd ≤ 8
  · by_cases h6 : o.kd ≤ 6
    · exact opc_lo o o.kd.toNat (by omega) (by omega)
    · exact opc_hi o o.kd.toNat (by omega) (by omega)
  · exact opc_no o h
end Go.Proofs.YtmacjicebemgoaaGreat
namespace Go.Proofs.YtmacjicebemgoaaGreat
set_option linter.unusedVariables false
set_option linter.unusedSimpArgs false
open Go.RowKit
theorem fo72_0 : fdO Tryz.prog 72 0 = some 0 := by kernel_rfl
theorem fo72_1 : fdO Tryz.prog 72 1 = some 19 := by kernel_rfl
theorem ty3 : (tyB Tryz.prog 3).isSome = true := by kernel_rfl
theorem uput_W (w : Nat) (n : Int) (hw : 1 ≤ w ∧ w ≤ 8) (hn : 0 ≤ n ∧ n < (256 ^ w : Nat)) : DFun Tryz.prog 66 [.slf 1 0 [], .val (.int .i64 (w : Int)), .val (.int .u64 n)] [] (.tup [.slf 1 (layW w n).length ((layW w n).flatMap uc8), .val (.int .i64 0)]) [] := by
  have h := uput_ok [] w n (by decide) hw (fits_W hn)
  rw [List.nil_append, bytesN_W hw hn.1] at h
  exact h
set_option maxRecDepth 4000 in
set_option maxHeartbeats 1000000 in
theorem lnum_d (o : OpM) (k : Nat) (l : List Int) (w : Nat) (n : Int) (hw : 1 ≤ w ∧ w ≤ 8) (hn : 0 ≤ n ∧ n < (256 ^ w : Nat)) (hl : l.length ≤ 50000) : DFun Tryz.prog 37 [.loc 0 0, .val (.int .i64 (w : Int)), .val (.int .u64 n)] [.mix 72 (opD o ++ [.farr 1 k]), fmB k (l)] (.tup []) [.mix 72 (opD o ++ [.farr 1 (k + 1)]), fmB (k + 1) (l ++ layW w n)] := by
  refine zaj (N := 23) 2 (by kernel_rfl) Tryz.func37 rfl rfl rfl (by simp only [fr0, Nat.zero_add, Nat.reduceAdd]; exact rfl) rfl fun s0 hs0 => ?_
  refine zaf ?_
  refine zac ?_
  refine za rfl rfl rfl (zad (.inl rfl) (ev1 rfl)) ?_
  refine za rfl rfl rfl (zad (.inl rfl) (ev1 rfl)) ?_
  refine za rfl rfl rfl (zag [] [] [] rfl (ev1 rfl) (ec (evnil 1 (ev1 rfl)) (ec (ev1 rfl) (ec (ev1 rfl) en))) rfl rfl (uput_W w n hw hn) rfl rfl rfl rfl rfl rfl) ?_
  refine za rfl rfl rfl (zad (.inl rfl) (ev1 rfl)) ?_
  refine za rfl rfl rfl (op_ext rfl (ev1 rfl) rfl) ?_
  refine za rfl rfl rfl (op_ext rfl (ev1 rfl) rfl) ?_
  refine za rfl rfl rfl (zad (.inr rfl) (ev1 rfl)) ?_
  refine za rfl rfl rfl (zad (.inr rfl) (ev1 rfl)) ?_
  refine zae ?_
  have hlw := layW_len w n
  refine zai 2 (by simp only [holes, List.cons_append, List.nil_append]; exact rfl) ?_
  refine zac ?_
  refine za rfl rfl rfl (zad (.inl rfl) (ev1 rfl)) ?_
  refine za rfl rfl rfl (zad (.inl rfl) (ev1 rfl)) ?_
  refine za rfl rfl rfl (op_nc rfl (ev1 rfl) (fun s v h => by cases h; exact ⟨_, rfl⟩)) ?_
  refine za rfl rfl rfl (zal rfl fo72_1 (ev1 rfl)) ?_
  refine za rfl rfl rfl (op_ldm rfl tb30 (ev1 rfl) rfl rfl) ?_
  refine za rfl rfl rfl (zad (.inl rfl) (ev1 rfl)) ?_
  refine zak rfl rfl rfl ((op_appF (j1 := 2) (j2 := 3) rfl rfl sl30 zr5 rfl (ev1 rfl) (ev1 rfl) rfl (fm_at) rfl rfl rfl (fun _ => flat_oc (fun _ => rfl) _) (fun _ => ⟨by omega, by omega⟩)).cast (d' := .farr 1 (k + 1)) (by rw [fm_len])) (by simp only [upd, zaa, zab]; exact rfl) ?_
  refine za rfl rfl rfl (op_nc rfl (ev1 rfl) (fun s v h => by cases h; exact ⟨_, rfl⟩)) ?_
  refine za rfl rfl rfl (zal rfl fo72_1 (ev1 rfl)) ?_
  refine walk_s rfl rfl (op_stm rfl tb30 (ev1 rfl) (ev1 rfl) (fun s v h => by cases h <;> exact ⟨rfl, rfl⟩) rfl (by first | decide | exact Nat.le_of_ble_eq_true rfl | simp)) (by simp only [upd, zaa, zab]; exact rfl) ?_
  refine zae ?_
  refine kend [0, 1] (res_none rfl) rfl rfl ?_ ⟨?_, ?_, trivial⟩
  rfl
  rfl
  exact fm_app
theorem fm_cat {k k' : Nat} {l l' : List Int} (h : k = k') (h' : l = l') : some (fmB k l) = some (fmB k' l') := by rw [h, h']
set_option maxRecDepth 4000 in
set_option maxHeartbeats 1000000 in
theorem lid_d (o : OpM) (k : Nat) (l : List Int) (i : I3) (hi : mayR i = true) (hl : l.length ≤ 40000) : DFun Tryz.prog 31 [.loc 0 0, .val (.agg (idc i).toArray)] [.mix 72 (opD o ++ [.farr 1 k]), fmB k (l)] (.tup []) [.mix 72 (opD o ++ [.farr 1 (k + 3)]), fmB (k + 3) (l ++ idB i)] := by
  refine zaj (N := 17) 2 (by kernel_rfl) Tryz.func31 rfl rfl rfl (by simp only [fr0, Nat.zero_add, Nat.reduceAdd]; exact rfl) rfl fun s0 hs0 => ?_
  refine zaf ?_
  obtain ⟨ht, hs, hq⟩ := mayR_rng hi
  have e1 : ((256 ^ 1 : Nat) : Int) = 256 := by decide
  have e8 : ((256 ^ 8 : Nat) : Int) = 18446744073709551616 := by decide
  refine zai 1 (by simp only [holes, List.cons_append, List.nil_append]; exact rfl) ?_
  refine zac ?_
  refine zak rfl rfl rfl (op_boxa 2 rfl (ev1 rfl) rfl) (by simp only [upd, zaa, zab]; exact rfl) ?_
  refine zae ?_
  refine zaf ?_
  refine zac ?_
  refine za rfl rfl rfl (zad (.inl rfl) (ev1 rfl)) ?_
  refine za rfl rfl rfl (zal rfl fo29_0 (ev1 rfl)) ?_
  refine za rfl rfl rfl (op_ldo rfl tb23 (ev1 rfl) rfl rfl) ?_
  refine zak rfl rfl rfl (zag [0, 1] [] [] rfl (ev1 rfl) (ec (ev1 rfl) (ec (ev1 rfl) (ec (ev1 rfl) en))) rfl rfl (lnum_d o k (l) 8 (i.t) (by decide) (by rw [e8]; omega) (by omega)) rfl rfl rfl rfl rfl rfl) (by simp only [upd, zaa, zab]; exact rfl) ?_
  refine zae ?_
  refine zaf ?_
  refine zac ?_
  refine za rfl rfl rfl (zad (.inl rfl) (ev1 rfl)) ?_
  refine za rfl rfl rfl (zal rfl fo29_1 (ev1 rfl)) ?_
  refine za rfl rfl rfl (op_ldo rfl tb3 (ev1 rfl) rfl rfl) ?_
  refine za rfl rfl rfl (op_conv' ty3 kn23 rfl (ev1 rfl) (fun _ => IntWalk.u64_in _ (by omega))) ?_
  refine zak rfl rfl rfl (zag [0, 1] [] [] rfl (ev1 rfl) (ec (ev1 rfl) (ec (ev1 rfl) (ec (ev1 rfl) en))) rfl rfl (lnum_d o (k + 1) (l ++ layW 8 i.t) 1 (i.s) (by decide) (by rw [e1]; omega) (by simp only [List.length_append, layW_len]; omega)) rfl rfl rfl rfl rfl rfl) (by simp only [upd, zaa, zab]; exact rfl) ?_
  refine zae ?_
  refine zac ?_
  refine za rfl rfl rfl (zad (.inl rfl) (ev1 rfl)) ?_
  refine za rfl rfl rfl (zal rfl fo29_2 (ev1 rfl)) ?_
  refine za rfl rfl rfl (op_ldo rfl tb23 (ev1 rfl) rfl rfl) ?_
  refine zak rfl rfl rfl (zag [0, 1] [] [] rfl (ev1 rfl) (ec (ev1 rfl) (ec (ev1 rfl) (ec (ev1 rfl) en))) rfl rfl (lnum_d o (k + 1 + 1) ((l ++ layW 8 i.t) ++ layW 1 i.s) 8 (i.q) (by decide) (by rw [e8]; omega) (by simp only [List.length_append, layW_len]; omega)) rfl rfl rfl rfl rfl rfl) (by simp only [upd, zaa, zab]; exact rfl) ?_
  refine zae ?_
  refine kend [0, 1] (res_none rfl) rfl rfl ?_ ⟨?_, ?_, trivial⟩
  rfl
  rfl
  exact fm_cat rfl (by unfold idB; simp only [List.append_assoc])
set_option maxRecDepth 4000 in
set_option maxHeartbeats 1000000 in
theorem lplace_d (o : OpM) (k : Nat) (l : List Int) (n : Int) (hn : isPl n) (hl : l.length ≤ 40000) : DFun Tryz.prog 123 [.loc 0 0, .val (.int .i64 n)] [.mix 72 (opD o ++ [.farr 1 k]), fmB k (l)] (.tup []) [.mix 72 (opD o ++ [.farr 1 (k + 1)]), fmB (k + 1) (l ++ plB' n)] := by
  refine zaj (N := 9) 2 (by kernel_rfl) Tryz.func123 rfl rfl rfl (by simp only [fr0, Nat.zero_add, Nat.reduceAdd]; exact rfl) rfl fun s0 hs0 => ?_
  obtain ⟨hn1, hn2⟩ := hn
  have e1 : ((256 ^ 1 : Nat) : Int) = 256 := by decide
  refine zac ?_
  refine za rfl rfl rfl (zad (.inl rfl) (ev1 rfl)) ?_
  refine za rfl rfl rfl (zad (.inl rfl) (ev1 rfl)) ?_
  refine za rfl rfl rfl ((op_sub' rfl (ev1 rfl) (ev1 rfl) (fun _ => IntWalk.i64_in _ (by omega))).cast (d' := .val (.int .i64 (n + 64))) (by rw [show n - -64 = n + 64 by omega])) ?_
  refine za rfl rfl rfl (op_conv' ty3 kn23 rfl (ev1 rfl) (fun _ => IntWalk.u64_in _ (by omega))) ?_
  refine zak rfl rfl rfl (zag [0, 1] [] [] rfl (ev1 rfl) (ec (ev1 rfl) (ec (ev1 rfl) (ec (ev1 rfl) en))) rfl rfl (lnum_d o k (l) 1 (n + 64) (by decide) (by rw [e1]; omega) (by omega)) rfl rfl rfl rfl rfl rfl) (by simp only [upd, zaa, zab]; exact rfl) ?_
  refine zae ?_
  refine kend [0, 1] (res_none rfl) rfl rfl ?_ ⟨rfl, rfl, trivial⟩
  rfl
set_option maxRecDepth 4000 in
set_option maxHeartbeats 1000000 in
theorem lx_d (o : OpM) (k : Nat) (l : List Int) (hn : isPl o.x) (hl : l.length ≤ 40000) : DFun Tryz.prog 68 [.loc 0 0] [.mix 72 (opD o ++ [.farr 1 k]), fmB k (l)] (.tup []) [.mix 72 (opD o ++ [.farr 1 (k + 1)]), fmB (k + 1) (l ++ plB' o.x)] := by
  refine zaj (N := 9) 2 (by kernel_rfl) Tryz.func68 rfl rfl rfl (by simp only [fr0, Nat.zero_add, Nat.reduceAdd]; exact rfl) rfl fun s0 hs0 => ?_
  refine zac ?_
  refine za rfl rfl rfl (zad (.inl rfl) (ev1 rfl)) ?_
  refine za rfl rfl rfl (zad (.inl rfl) (ev1 rfl)) ?_
  refine za rfl rfl rfl (op_nc rfl (ev1 rfl) (fun s v h => by cases h; exact ⟨_, rfl⟩)) ?_
  refine za rfl rfl rfl (zal rfl fo72_0 (ev1 rfl)) ?_
  refine za rfl rfl rfl (zal rfl fo47_2 (ev1 rfl)) ?_
  refine za rfl rfl rfl (op_ldm rfl tb3 (ev1 rfl) rfl rfl) ?_
  refine zak rfl rfl rfl (zag [0, 1] [] [] rfl (ev1 rfl) (ec (ev1 rfl) (ec (ev1 rfl) en)) rfl rfl (lplace_d o k l o.x hn hl) rfl rfl rfl rfl rfl rfl) (by simp only [upd, zaa, zab]; exact rfl) ?_
  refine zae ?_
  refine kend [0, 1] (res_none rfl) rfl rfl ?_ ⟨rfl, rfl, trivial⟩
  rfl
set_option maxRecDepth 4000 in
set_option maxHeartbeats 1000000 in
theorem ly_d (o : OpM) (k : Nat) (l : List Int) (hn : isPl o.y) (hl : l.length ≤ 40000) : DFun Tryz.prog 69 [.loc 0 0] [.mix 72 (opD o ++ [.farr 1 k]), fmB k (l)] (.tup []) [.mix 72 (opD o ++ [.farr 1 (k + 1)]), fmB (k + 1) (l ++ plB' o.y)] := by
  refine zaj (N := 9) 2 (by kernel_rfl) Tryz.func69 rfl rfl rfl (by simp only [fr0, Nat.zero_add, Nat.reduceAdd]; exact rfl) rfl fun s0 hs0 => ?_
  refine zac ?_
  refine za rfl rfl rfl (zad (.inl rfl) (ev1 rfl)) ?_
  refine za rfl rfl rfl (zad (.inl rfl) (ev1 rfl)) ?_
  refine za rfl rfl rfl (op_nc rfl (ev1 rfl) (fun s v h => by cases h; exact ⟨_, rfl⟩)) ?_
  refine za rfl rfl rfl (zal rfl fo72_0 (ev1 rfl)) ?_
  refine za rfl rfl rfl (zal rfl fo47_3 (ev1 rfl)) ?_
  refine za rfl rfl rfl (op_ldm rfl tb3 (ev1 rfl) rfl rfl) ?_
  refine zak rfl rfl rfl (zag [0, 1] [] [] rfl (ev1 rfl) (ec (ev1 rfl) (ec (ev1 rfl) en)) rfl rfl (lplace_d o k l o.y hn hl) rfl rfl rfl rfl rfl rfl) (by simp only [upd, zaa, zab]; exact rfl) ?_
  refine zae ?_
  refine kend [0, 1] (res_none rfl) rfl rfl ?_ ⟨rfl, rfl, trivial⟩
  rfl
set_option maxRecDepth 4000 in
set_option maxHeartbeats 1000000 in
theorem lx2_d (o : OpM) (k : Nat) (l : List Int) (hn : isPl o.x2) (hl : l.length ≤ 40000) : DFun Tryz.prog 70 [.loc 0 0] [.mix 72 (opD o ++ [.farr 1 k]), fmB k (l)] (.tup []) [.mix 72 (opD o ++ [.farr 1 (k + 1)]), fmB (k + 1) (l ++ plB' o.x2)] := by
  refine zaj (N := 9) 2 (by kernel_rfl) Tryz.func70 rfl rfl rfl (by simp only [fr0, Nat.zero_add, Nat.reduceAdd]; exact rfl) rfl fun s0 hs0 => ?_
  refine zac ?_
  refine za rfl rfl rfl (zad (.inl rfl) (ev1 rfl)) ?_
  refine za rfl rfl rfl (zad (.inl rfl) (ev1 rfl)) ?_
  refine za rfl rfl rfl (op_nc rfl (ev1 rfl) (fun s v h => by cases h; exact ⟨_, rfl⟩)) ?_
  refine za rfl rfl rfl (zal rfl fo72_0 (ev1 rfl)) ?_
  refine za rfl rfl rfl (zal rfl fo47_4 (ev1 rfl)) ?_
  refine za rfl rfl rfl (op_ldm rfl tb3 (ev1 rfl) rfl rfl) ?_
  refine zak rfl rfl rfl (zag [0, 1] [] [] rfl (ev1 rfl) (ec (ev1 rfl) (ec (ev1 rfl) en)) rfl rfl (lplace_d o k l o.x2 hn hl) rfl rfl rfl rfl rfl rfl) (by simp only [upd, zaa, zab]; exact rfl) ?_
  refine zae ?_
  refine kend [0, 1] (res_none rfl) rfl rfl ?_ ⟨rfl, rfl, trivial⟩
  rfl
set_option maxRecDepth 4000 in
set_option maxHeartbeats 1000000 in
theorem ly2_d (o : OpM) (k : Nat) (l : List Int) (hn : isPl o.y2) (hl : l.length ≤ 40000) : DFun Tryz.prog 71 [.loc 0 0] [.mix 72 (opD o ++ [.farr 1 k]), fmB k (l)] (.tup []) [.mix 72 (opD o ++ [.farr 1 (k + 1)]), fmB (k + 1) (l ++ plB' o.y2)] := by
  refine zaj (N := 9) 2 (by kernel_rfl) Tryz.func71 rfl rfl rfl (by simp only [fr0, Nat.zero_add, Nat.reduceAdd]; exact rfl) rfl fun s0 hs0 => ?_
  refine zac ?_
  refine za rfl rfl rfl (zad (.inl rfl) (ev1 rfl)) ?_
  refine za rfl rfl rfl (zad (.inl rfl) (ev1 rfl)) ?_
  refine za rfl rfl rfl (op_nc rfl (ev1 rfl) (fun s v h => by cases h; exact ⟨_, rfl⟩)) ?_
  refine za rfl rfl rfl (zal rfl fo72_0 (ev1 rfl)) ?_
  refine za rfl rfl rfl (zal rfl fo47_5 (ev1 rfl)) ?_
  refine za rfl rfl rfl (op_ldm rfl tb3 (ev1 rfl) rfl rfl) ?_
  refine zak rfl rfl rfl (zag [0, 1] [] [] rfl (ev1 rfl) (ec (ev1 rfl) (ec (ev1 rfl) en)) rfl rfl (lplace_d o k l o.y2 hn hl) rfl rfl rfl rfl rfl rfl) (by simp only [upd, zaa, zab]; exact rfl) ?_
  refine zae ?_
  refine kend [0, 1] (res_none rfl) rfl rfl ?_ ⟨rfl, rfl, trivial⟩
  rfl
set_option maxRecDepth 4000 in
set_option maxHeartbeats 1000000 in
theorem lsize_d (o : OpM) (k : Nat) (l : List Int) (hn : isSz o.sz) (hl : l.length ≤ 40000) : DFun Tryz.prog 72 [.loc 0 0] [.mix 72 (opD o ++ [.farr 1 k]), fmB k (l)] (.tup []) [.mix 72 (opD o ++ [.farr 1 (k + 1)]), fmB (k + 1) (l ++ layW 2 o.sz)] := by
  refine zaj (N := 10) 2 (by kernel_rfl) Tryz.func72 rfl rfl rfl (by simp only [fr0, Nat.zero_add, Nat.reduceAdd]; exact rfl) rfl fun s0 hs0 => ?_
  obtain ⟨hn1, hn2⟩ := hn
  have e2 : ((256 ^ 2 : Nat) : Int) = 65536 := by decide
  rw [e2] at hn2
  refine zac ?_
  refine za rfl rfl rfl (zad (.inl rfl) (ev1 rfl)) ?_
  refine za rfl rfl rfl (zad (.inl rfl) (ev1 rfl)) ?_
  refine za rfl rfl rfl (op_nc rfl (ev1 rfl) (fun s v h => by cases h; exact ⟨_, rfl⟩)) ?_
  refine za rfl rfl rfl (zal rfl fo72_0 (ev1 rfl)) ?_
  refine za rfl rfl rfl (zal rfl fo47_6 (ev1 rfl)) ?_
  refine za rfl rfl rfl (op_ldm rfl tb3 (ev1 rfl) rfl rfl) ?_
  refine za rfl rfl rfl (op_conv' ty3 kn23 rfl (ev1 rfl) (fun _ => IntWalk.u64_in _ (by omega))) ?_
  refine zak rfl rfl rfl (zag [0, 1] [] [] rfl (ev1 rfl) (ec (ev1 rfl) (ec (ev1 rfl) (ec (ev1 rfl) en))) rfl rfl (lnum_d o k (l) 2 (o.sz) (by decide) (by rw [e2]; omega) (by omega)) rfl rfl rfl rfl rfl rfl) (by simp only [upd, zaa, zab]; exact rfl) ?_
  refine zae ?_
  refine kend [0, 1] (res_none rfl) rfl rfl ?_ ⟨rfl, rfl, trivial⟩
  rfl
end Go.Proofs.YtmacjicebemgoaaGreat
