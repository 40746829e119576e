/- the bytes of rows are fed -/
import Derived.Test.YtnpfbeoibbejeaaKd
namespace Go.Proofs.Ytnpfbeoibbejeaa
set_option linter.unusedVariables false
set_option linter.unusedSimpArgs false
open Go.RowKit

set_option maxRecDepth 4000 in
set_option maxHeartbeats 1000000 in
theorem fresh_d (s : Nat) (hs : s < 2 ^ 32) : DFun Try.prog 27 [.val (.int .u32 (s : Int))] [] (.loc 0 0) [.flat 80 (regB 0 (trn s))] := by
  refine dcalls_go (N := 7) 0 (by kernel_rfl) Try.func27 rfl rfl rfl (by simp only [fr0, Nat.zero_add, Nat.reduceAdd]; exact rfl) rfl fun s0 hs0 => ?_
  refine dwp_seq ?_
  refine dwp_region ?_
  refine walk_r rfl rfl rfl (op_move (.inr rfl) (ev1 rfl)) ?_
  refine walk_nil ?_
  refine dwp_seq ?_
  have hc := cpl_n hs
  refine dwp_holes 1 (by simp only [holes, List.cons_append, List.nil_append]; exact rfl) ?_
  refine dwp_region ?_
  refine walk_r rfl rfl rfl (op_move (.inl rfl) (ev1 rfl)) ?_
  refine walk_r rfl rfl rfl (op_cpl rfl (ev1 rfl)) ?_
  refine walk_r rfl rfl rfl (op_build (ps := [(1, .tmp 4)]) rfl fl80 zr80 (vc (ev1 rfl) vn) rfl rfl) ?_
  refine walk_w rfl rfl rfl (op_boxa 0 rfl (ev1 rfl) rfl) (by simp only [upd, List.set_cons_zero, List.set_cons_succ]; exact rfl) ?_
  refine walk_r rfl rfl rfl (op_move (.inr rfl) (ev1 rfl)) ?_
  refine walk_nil ?_
  refine dwp_ret ?_
  refine kend [0] (rs1 rfl (rv_t rfl)) rfl rfl ?_ ⟨?_, trivial⟩
  rfl
  exact (by show some (Blk.flat _ _) = _; rw [hc]; rfl)

set_option maxRecDepth 4000 in
set_option maxHeartbeats 1000000 in
theorem sum_d (T : TypeId) (n b : Nat) (hb : b < 2 ^ 32) : DFun Try.prog 29 [.loc 0 0] [.flat T (regB n b)] (.val (.int .u32 (trn b : Nat))) [.flat T (regB n b)] := by
  refine dcalls_go (N := 8) 1 (by kernel_rfl) Try.func29 rfl rfl rfl (by simp only [fr0, Nat.zero_add, Nat.reduceAdd]; exact rfl) rfl fun s0 hs0 => ?_
  refine dwp_seq ?_
  refine dwp_region ?_
  refine walk_r rfl rfl rfl (op_move (.inr rfl) (ev1 rfl)) ?_
  refine walk_nil ?_
  refine dwp_seq ?_
  refine dwp_region ?_
  refine walk_r rfl rfl rfl (op_move (.inl rfl) (ev1 rfl)) ?_
  refine walk_r rfl rfl rfl (op_nc rfl (ev1 rfl) (fun s v h => by cases h; exact ⟨_, rfl⟩)) ?_
  refine walk_r rfl rfl rfl (op_fa rfl fo80_1 (ev1 rfl)) ?_
  refine walk_r rfl rfl rfl ((op_reg rfl tb27 (ev1 rfl) rfl)) ?_
  refine walk_r rfl rfl rfl (op_cpl rfl (ev1 rfl)) ?_
  refine walk_r rfl rfl rfl (op_move (.inr rfl) (ev1 rfl)) ?_
  refine walk_nil ?_
  refine dwp_ret ?_
  refine kend [0] (rs1 rfl (rv_t rfl)) rfl rfl ?_ ⟨rfl, trivial⟩
  rw [cpl_n hb]

abbrev rN (l : List Nat) : D := .slf 1 l.length (l.flatMap un8)
def isN (l : List Nat) : Prop := ∀ x ∈ l, x < 256
theorem flat_lt {ps : List (List Nat)} (h : ∀ p ∈ ps, isN p) : isN ps.flatten := fun x hx => by
  obtain ⟨p, hp, hx⟩ := List.mem_flatten.1 hx
  exact h p hp x hx
/-- the bytes ahead of the j-th of the i-th row -/
def upto (ps : List (List Nat)) (i j : Nat) : List Nat := (ps.take i).flatten ++ (ps.getD i []).take j
theorem upto_lt {ps : List (List Nat)} (h : ∀ p ∈ ps, isN p) (i j : Nat) : isN (upto ps i j) := fun x hx => by
  rcases List.mem_append.1 hx with hx | hx
  · obtain ⟨p, hp, hx⟩ := List.mem_flatten.1 hx
    exact h p (List.mem_of_mem_take hp) x hx
  · have hx := List.mem_of_mem_take hx
    rw [List.getD_eq_getElem?_getD] at hx
    cases e : ps[i]? with
    | none => rw [e] at hx; cases hx
    | some p => rw [e] at hx; exact h p (List.mem_of_getElem? e) x hx
theorem upto_zero (ps : List (List Nat)) (i : Nat) : upto ps i 0 = (ps.take i).flatten := by rw [upto, List.take_zero, List.append_nil]
theorem upto_succ {ps : List (List Nat)} {i j : Nat} (hi : i < ps.length) (hj : j < ps[i].length) : upto ps i (j + 1) = upto ps i j ++ [ps[i][j]] := by
  rw [upto, upto, List.append_assoc, List.getD_eq_getElem?_getD, List.getElem?_eq_getElem hi]
  show _ ++ (ps[i]).take (j + 1) = _ ++ ((ps[i]).take j ++ [ps[i][j]])
  rw [List.take_succ_eq_append_getElem hj]
theorem upto_end {ps : List (List Nat)} {i j : Nat} (hi : i < ps.length) (hj : ps[i].length ≤ j) : upto ps i j = upto ps (i + 1) 0 := by
  rw [upto_zero, upto, List.getD_eq_getElem?_getD, List.getElem?_eq_getElem hi, List.take_succ_eq_append_getElem hi, List.flatten_append]
  show _ ++ (ps[i]).take j = _
  rw [List.take_of_length_le hj]
  simp
theorem upto_all (ps : List (List Nat)) {i : Nat} (hi : ps.length ≤ i) : upto ps i 0 = ps.flatten := by rw [upto_zero, List.take_of_length_le hi]
theorem fed_one (r : Nat) (l : List Nat) (x : Nat) : fed r (l ++ [x]) = Zs 8 (fed r l ^^^ x) := by rw [fed_app]; rfl

set_option maxRecDepth 4000 in
set_option maxHeartbeats 1000000 in
theorem told_d (ps : List (List Nat)) : DFun Try.prog 42 [.slm 1 ps.length (ps.flatMap fun p => [rN p])] [] (.fn (.func 45) [] [.loc 0 0]) [.mix 22 [.slm 1 ps.length (ps.flatMap fun p => [rN p])]] := by
  refine dcalls_go (N := 4) 0 (by kernel_rfl) Try.func42 rfl rfl rfl (by simp only [fr0, Nat.zero_add, Nat.reduceAdd]; exact rfl) rfl fun s0 hs0 => ?_
  refine dwp_lenm (t := 0) rfl fun hl0 hL0 => ?_
  refine dwp_seq ?_
  refine dwp_holes 1 (by simp only [holes, List.cons_append, List.nil_append]; exact rfl) ?_
  refine dwp_region ?_
  refine walk_w rfl rfl rfl (op_boxm 0 rfl (ev1 rfl) (fun s v h => by cases h <;> rfl) rfl) (by simp only [upd, List.set_cons_zero, List.set_cons_succ]; exact rfl) ?_
  refine walk_r rfl rfl rfl (op_move (.inr rfl) (ev1 rfl)) ?_
  refine walk_nil ?_
  refine dwp_seq ?_
  refine dwp_region ?_
  refine walk_r rfl rfl rfl (op_mkf rfl en (ec (ev1 rfl) en)) ?_
  refine walk_r rfl rfl rfl (op_move (.inr rfl) (ev1 rfl)) ?_
  refine walk_nil ?_
  refine dwp_ret ?_
  refine kend [0] (rs1 rfl (rv_t rfl)) rfl rfl ?_ ⟨rfl, trivial⟩
  rfl

noncomputable def faA : Code := rfA (pth [1, 1, 0] (bodyOf Try.f28))
noncomputable def faB : Code := rfB (pth [1, 1, 0] (bodyOf Try.f28))

set_option maxRecDepth 4000 in
set_option maxHeartbeats 1000000 in
theorem faRound (n bits b : Nat) (hbits : bits < 2 ^ 32) (hb : b < 256) : DRound Try.prog 0 [.val (.int .u8 (b : Int))] [.lp 14 [(4, .loc 1 0)] #[10] faA faB .ready none, .mix 81 [.fn (.func 41) [.loc 2 0] []], .flat 80 (regB n bits)] true [.lp 14 [(4, .loc 1 0)] #[10] faA faB .ready none, .mix 81 [.fn (.func 41) [.loc 2 0] []], .flat 80 (regB (n + 1) (Zs 8 (bits ^^^ b)))] := by
  refine dround_go 3 rfl rfl (by simp) rfl rfl fun s0 hs0 => ?_
  refine dwp_region ?_
  refine walk_r rfl rfl rfl (op_move (.inr rfl) (ev1 rfl)) ?_
  refine walk_nil ?_
  refine ⟨rfl, ?_⟩
  simp only [List.set_cons_zero, List.set_cons_succ]
  refine dwp_block ?_
  refine dwp_region ?_
  refine walk_r rfl rfl rfl (op_ldm rfl tb81 (ev1 rfl) rfl rfl) ?_
  refine walk_r rfl rfl rfl (op_move (.inl rfl) (ev1 rfl)) ?_
  refine walk_w rfl rfl rfl (dop_call [2] [] [] rfl (ev1 rfl) (ec (ev1 rfl) en) rfl rfl (feed_d _ n bits b hbits hb) rfl rfl rfl rfl rfl rfl) (by simp only [upd, List.set_cons_zero, List.set_cons_succ]; exact rfl) ?_
  refine walk_nil ?_
  refine ⟨by first | rfl | assumption | simp_all, rfl, [0, 1, 2], rfl, ⟨rfl, rfl, rfl, trivial⟩⟩

set_option maxRecDepth 4000 in
set_option maxHeartbeats 1000000 in
theorem told_feed (ps : List (List Nat)) (hps : ∀ p ∈ ps, isN p) (hl : ps.length ≤ 1000) (hpl : ∀ p ∈ ps, p.length ≤ 1000000) (n bits : Nat) (hbits : bits < 2 ^ 32) : DFun Try.prog 45 [.yld 0, .loc 3 0] [.lp 14 [(4, .loc 1 0)] #[10] faA faB .ready none, .mix 81 [.fn (.func 41) [.loc 2 0] []], .flat 80 (regB n bits), .mix 22 [.slm 1 ps.length (ps.flatMap fun p => [rN p])]] (.tup []) [.lp 14 [(4, .loc 1 0)] #[10] faA faB .ready none, .mix 81 [.fn (.func 41) [.loc 2 0] []], .flat 80 (regB (n + ps.flatten.length) (fed bits ps.flatten)), .mix 22 [.slm 1 ps.length (ps.flatMap fun p => [rN p])]] := by
  refine dcalls_go (N := 25) 4 (by kernel_rfl) Try.func45 rfl rfl rfl (by simp only [fr0, Nat.zero_add, Nat.reduceAdd]; exact rfl) rfl fun s0 hs0 => ?_
  refine dwp_seq ?_
  refine dwp_region ?_
  refine walk_r rfl rfl rfl (op_ldm rfl tb22 (ev1 rfl) rfl rfl) ?_
  refine walk_r rfl rfl rfl (op_lenm rfl sl22 (ev1 rfl)) ?_
  refine walk_r rfl rfl rfl (op_move (.inl rfl) (ev1 rfl)) ?_
  refine walk_nil ?_
  refine dwp_block ?_
  refine dwp_loopS ⟨hs0, rfl⟩ (α := Nat) (fun i => [(9, .val (.int .i64 (i : Int)))]) [(0, _), (7, _), (8, _)] (fun i => [(2, .flat 80 (regB (n + (upto ps i 0).length) (fed bits (upto ps i 0))))]) [_, _, .hole, _] (fun i => i ≤ ps.length) (fun i => ps.length - i) 0 [0, 1, 2, 3] (by simp) rfl ⟨rfl, rfl, rfl, trivial⟩ ⟨rfl, trivial⟩ ⟨rfl, rfl, by rw [upto_zero]; rfl, rfl, trivial⟩ ?_
  intro i hx
  simp only [upd, List.set_cons_zero, List.set_cons_succ, List.cons_append, List.nil_append]
  have hi := hx
  refine dwp_seq ?_
  refine dwp_region ?_
  refine walk_r rfl rfl rfl (op_lss rfl (ev1 rfl) (ev1 rfl)) ?_
  refine walk_nil ?_
  refine dwp_seq ?_
  refine dwp_cond rfl (fun c1 => ?_) (fun c1 => ?_)
  · try simp only [decide_eq_true_eq, decide_eq_false_iff_not, beq_iff_eq, bne_iff_ne, beq_eq_false_iff_ne, bne_eq_false_iff_eq, Bool.not_eq_true', Bool.not_eq_false', Bool.and_eq_true, Bool.or_eq_true, Bool.or_eq_false_iff, ne_eq, Decidable.not_not, Int.not_lt, Int.not_le] at c1
    refine dwp_skip ?_
    refine dwp_seq ?_
    refine dwp_block ?_
    refine dwp_seq ?_
    refine dwp_region ?_
    refine walk_r rfl rfl rfl (op_ixm (i) rfl sl22 (ev1 rfl) (ev1 rfl) (fun _ => rfl) (flat1_at (by omega))) ?_
    refine walk_r rfl rfl rfl (op_lddm rfl tb25 (ev1 rfl) rfl) ?_
    refine walk_r rfl rfl rfl (op_move (.inr rfl) (ev1 rfl)) ?_
    refine walk_nil ?_
    refine dwp_seq ?_
    refine dwp_region ?_
    refine walk_r rfl rfl rfl (op_move (.inl rfl) (ev1 rfl)) ?_
    refine walk_r rfl rfl rfl (op_len rfl sl25 (ev1 rfl)) ?_
    refine walk_r rfl rfl rfl (op_move (.inl rfl) (ev1 rfl)) ?_
    refine walk_nil ?_
    refine dwp_block ?_
    refine dwp_loopS ⟨hs0, rfl⟩ (α := Nat) (fun j => [(15, .val (.int .i64 (j : Int)))]) [(0, _), (7, _), (8, _), (9, _), (13, _), (14, _)] (fun j => [(2, .flat 80 (regB (n + (upto ps i j).length) (fed bits (upto ps i j))))]) [_, _, .hole, _] (fun j => j ≤ ps[i].length) (fun j => ps[i].length - j) 0 [0, 1, 2, 3] (by simp) rfl ⟨rfl, rfl, rfl, rfl, rfl, rfl, trivial⟩ ⟨rfl, trivial⟩ ⟨rfl, rfl, rfl, rfl, trivial⟩ ?_
    intro j hx
    simp only [upd, List.set_cons_zero, List.set_cons_succ, List.cons_append, List.nil_append]
    have hj := hx
    have hpi := hpl ps[i] (List.getElem_mem _)
    have hul := upto_lt hps i j
    have hfl := fed_lt (upto ps i j) hbits hul
    refine dwp_seq ?_
    refine dwp_region ?_
    refine walk_r rfl rfl rfl (op_lss rfl (ev1 rfl) (ev1 rfl)) ?_
    refine walk_nil ?_
    refine dwp_seq ?_
    refine dwp_cond rfl (fun c2 => ?_) (fun c2 => ?_)
    · try simp only [decide_eq_true_eq, decide_eq_false_iff_not, beq_iff_eq, bne_iff_ne, beq_eq_false_iff_ne, bne_eq_false_iff_eq, Bool.not_eq_true', Bool.not_eq_false', Bool.and_eq_true, Bool.or_eq_true, Bool.or_eq_false_iff, ne_eq, Decidable.not_not, Int.not_lt, Int.not_le] at c2
      refine dwp_skip ?_
      refine dwp_seq ?_
      refine dwp_block ?_
      refine dwp_seq ?_
      refine dwp_region ?_
      refine walk_r rfl rfl rfl (op_ixsr (j := j) rfl sl25 (ev1 rfl) (ev1 rfl) (fun _ => rfl) (by decide) (by omega) (by omega)) ?_
      refine walk_r rfl rfl rfl (op_ldod rfl tb5 (ev1 rfl) rfl) ?_
      refine walk_r rfl rfl rfl (op_move (.inr rfl) (ev1 rfl)) ?_
      refine walk_nil ?_
      refine dwp_seq ?_
      refine dwp_region ?_
      refine walk_r rfl rfl rfl (op_move (.inl rfl) (ev1 rfl)) ?_
      refine walk_r rfl rfl rfl (op_move (.inl rfl) (ev1 rfl)) ?_
      refine walk_w rfl rfl rfl (op_y (i := 0) [0, 1, 2] [] [] rfl (ev1 rfl) (ec (ev1 rfl) en) rfl rfl rfl (faRound _ _ ps[i][j] hfl (hps ps[i] (List.getElem_mem _) _ (List.getElem_mem _))) rfl rfl rfl rfl rfl) (by simp only [upd, List.set_cons_zero, List.set_cons_succ]; exact rfl) ?_
      refine walk_r rfl rfl rfl (op_not rfl (ev1 rfl)) ?_
      refine walk_nil ?_
      refine dwp_if_f rfl (rfl) ?_
      refine dwp_skip ?_
      refine dwp_region ?_
      refine walk_r rfl rfl rfl (op_add' rfl (ev1 rfl) (ev1 rfl) (fun _ => IntWalk.i64_in _ (by omega))) ?_
      refine walk_r rfl rfl rfl (op_move (.inl rfl) (ev1 rfl)) ?_
      refine walk_nil ?_
      refine ⟨j + 1, [0, 1, 2, 3], by omega, by simp only []; omega, rfl, ⟨rfl, rfl, rfl, rfl, rfl, rfl, rfl, trivial⟩, ⟨rfl, rfl, by rw [upto_succ (by omega) (by omega), fed_one, List.length_append]; rfl, rfl, trivial⟩⟩
    · try simp only [decide_eq_true_eq, decide_eq_false_iff_not, beq_iff_eq, bne_iff_ne, beq_eq_false_iff_ne, bne_eq_false_iff_eq, Bool.not_eq_true', Bool.not_eq_false', Bool.and_eq_true, Bool.or_eq_true, Bool.or_eq_false_iff, ne_eq, Decidable.not_not, Int.not_lt, Int.not_le] at c2
      refine dwp_exit ?_
      refine dwp_region ?_
      refine walk_r rfl rfl rfl (op_add' rfl (ev1 rfl) (ev1 rfl) (fun _ => IntWalk.i64_in _ (by omega))) ?_
      refine walk_r rfl rfl rfl (op_move (.inl rfl) (ev1 rfl)) ?_
      refine walk_nil ?_
      rw [upto_end (show i < ps.length by omega) (show ps[i].length ≤ j by omega)]
      refine ⟨i + 1, [0, 1, 2, 3], by omega, by simp only []; omega, rfl, ⟨rfl, rfl, rfl, rfl, trivial⟩, ⟨rfl, rfl, rfl, rfl, trivial⟩⟩
  · try simp only [decide_eq_true_eq, decide_eq_false_iff_not, beq_iff_eq, bne_iff_ne, beq_eq_false_iff_ne, bne_eq_false_iff_eq, Bool.not_eq_true', Bool.not_eq_false', Bool.and_eq_true, Bool.or_eq_true, Bool.or_eq_false_iff, ne_eq, Decidable.not_not, Int.not_lt, Int.not_le] at c1
    refine dwp_exit ?_
    rw [upto_all ps (show ps.length ≤ i by omega)]
    refine kend [0, 1, 2, 3] (res_none rfl) rfl rfl ?_ ⟨rfl, rfl, rfl, rfl, trivial⟩
    rfl

set_option maxRecDepth 4000 in
set_option maxHeartbeats 1000000 in
theorem feedall_d (ps : List (List Nat)) (hps : ∀ p ∈ ps, isN p) (hl : ps.length ≤ 1000) (hpl : ∀ p ∈ ps, p.length ≤ 1000000) (n bits : Nat) (hbits : bits < 2 ^ 32) : DFun Try.prog 28 [.loc 0 0, .slm 1 ps.length (ps.flatMap fun p => [rN p])] [.flat 80 (regB n bits)] (.tup []) [.flat 80 (regB (n + ps.flatten.length) (fed bits ps.flatten))] := by
  refine dcalls_go (N := 14) 1 (by kernel_rfl) Try.func28 rfl rfl rfl (by simp only [fr0, Nat.zero_add, Nat.reduceAdd]; exact rfl) rfl fun s0 hs0 => ?_
  refine dwp_lenm (t := 1) rfl fun hl1 hL1 => ?_
  refine dwp_seq ?_
  refine dwp_holes 1 (by simp only [holes, List.cons_append, List.nil_append]; exact rfl) ?_
  refine dwp_region ?_
  refine walk_r rfl rfl rfl (op_move (.inl rfl) (ev1 rfl)) ?_
  refine walk_r rfl rfl rfl (op_mkf rfl (ec (ev1 rfl) en) en) ?_
  refine walk_w rfl rfl rfl (op_alloc 1 rfl zr81 rfl) (by simp only [upd, List.set_cons_zero, List.set_cons_succ]; exact rfl) ?_
  refine walk_s rfl rfl (op_stfm rfl tb81 (ev1 rfl) (ev1 rfl) (fun s v h => by cases h <;> exact ⟨rfl, rfl⟩) rfl (by decide)) (by simp only [upd, List.set_cons_zero, List.set_cons_succ]; exact rfl) ?_
  refine walk_nil ?_
  refine dwp_seq ?_
  refine dwp_holes 1 (by simp only [holes, List.cons_append, List.nil_append]; exact rfl) ?_
  refine dwp_region ?_
  refine walk_r rfl rfl rfl (op_move (.inl rfl) (ev1 rfl)) ?_
  refine walk_w rfl rfl rfl (dop_call [] [] [2] rfl (ev1 rfl) (ec (ev1 rfl) en) rfl rfl (told_d ps) rfl rfl rfl rfl rfl rfl) (by simp only [upd, List.set_cons_zero, List.set_cons_succ]; exact rfl) ?_
  refine walk_nil ?_
  refine dwp_block ?_
  refine dwp_hole ?_
  simp only [List.cons_append, List.nil_append]
  refine dwp_rf (FL := [(4, _)]) (st := .ready) (pe := none) [3, 1, 0, 2] [] [] 3 rfl rfl (ev1 rfl) rfl (subF_lk ⟨rfl, trivial⟩) rfl rfl rfl (told_feed ps hps hl hpl n bits hbits) rfl rfl rfl rfl rfl rfl rfl (by simp) (fun e => ?_) (fun c e => ?_)
  · simp only [upd, List.set_cons_zero, List.set_cons_succ]
    refine kend [0] (res_none rfl) rfl rfl ?_ ⟨rfl, trivial⟩
    rfl
  · cases e

theorem sum_lt {l : List Nat} (h : isN l) {s : Nat} (hs : s < 2 ^ 32) : fed (trn s) l < 2 ^ 32 := fed_lt l (trn_lt hs) h
theorem more_lt {l : List Nat} (h : isN l) {s : Nat} (hs : s < 2 ^ 32) : moreC s l < 2 ^ 32 := trn_lt (sum_lt h hs)

set_option maxRecDepth 4000 in
set_option maxHeartbeats 1000000 in
theorem sum_c (ps : List (List Nat)) (hps : ∀ p ∈ ps, isN p) (hl : ps.length ≤ 1000) (hpl : ∀ p ∈ ps, p.length ≤ 1000000) : DFun Try.prog 11 [.slm 1 ps.length (ps.flatMap fun p => [rN p])] [] (.val (.int .u32 (moreC 0 ps.flatten : Nat))) [] := by
  refine dcalls_go (N := 10) 0 (by kernel_rfl) Try.func11 rfl rfl rfl (by simp only [fr0, Nat.zero_add, Nat.reduceAdd]; exact rfl) rfl fun s0 hs0 => ?_
  refine dwp_lenm (t := 0) rfl fun hl0 hL0 => ?_
  refine dwp_seq ?_
  refine dwp_region ?_
  refine walk_r rfl rfl rfl (op_move (.inr rfl) (ev1 rfl)) ?_
  refine walk_nil ?_
  refine dwp_seq ?_
  refine dwp_holes 1 (by simp only [holes, List.cons_append, List.nil_append]; exact rfl) ?_
  refine dwp_region ?_
  refine walk_w rfl rfl rfl (dop_call [] [] [0] rfl (ev1 rfl) (ec (ev1 rfl) en) rfl rfl (fresh_d 0 (by decide)) rfl rfl rfl rfl rfl rfl) (by simp only [upd, List.set_cons_zero, List.set_cons_succ]; exact rfl) ?_
  refine walk_r rfl rfl rfl (op_move (.inr rfl) (ev1 rfl)) ?_
  refine walk_nil ?_
  refine dwp_seq ?_
  refine dwp_region ?_
  refine walk_r rfl rfl rfl (op_move (.inl rfl) (ev1 rfl)) ?_
  refine walk_r rfl rfl rfl (op_move (.inl rfl) (ev1 rfl)) ?_
  refine walk_w rfl rfl rfl (dop_call [0] [] [] rfl (ev1 rfl) (ec (ev1 rfl) (ec (ev1 rfl) en)) rfl rfl (feedall_d ps hps hl hpl 0 (trn 0) (by decide)) rfl rfl rfl rfl rfl rfl) (by simp only [upd, List.set_cons_zero, List.set_cons_succ]; exact rfl) ?_
  refine walk_nil ?_
  refine dwp_seq ?_
  refine dwp_region ?_
  refine walk_r rfl rfl rfl (op_move (.inl rfl) (ev1 rfl)) ?_
  refine walk_w rfl rfl rfl (dop_call [0] [] [] rfl (ev1 rfl) (ec (ev1 rfl) en) rfl rfl (sum_d _ _ _ (sum_lt (flat_lt hps) (by decide))) rfl rfl rfl rfl rfl rfl) (by simp only [upd, List.set_cons_zero, List.set_cons_succ]; exact rfl) ?_
  refine walk_r rfl rfl rfl (op_move (.inr rfl) (ev1 rfl)) ?_
  refine walk_nil ?_
  refine dwp_ret ?_
  refine kend0 (rs1 rfl (rv_t rfl)) rfl ?_
  rfl

set_option maxRecDepth 4000 in
set_option maxHeartbeats 1000000 in
theorem more_c (s : Nat) (hs : s < 2 ^ 32) (l : List Nat) (hn : isN l) (hl : l.length ≤ 1000000) : DFun Try.prog 14 [.val (.int .u32 (s : Int)), .slf 1 (l).length ((l).flatMap un8)] [] (.val (.int .u32 (moreC s l : Nat))) [] := by
  refine dcalls_go (N := 14) 0 (by kernel_rfl) Try.func14 rfl rfl rfl (by simp only [fr0, Nat.zero_add, Nat.reduceAdd]; exact rfl) rfl fun s0 hs0 => ?_
  refine dwp_len (t := 1) rfl fun hl1 hL1 => ?_
  refine dwp_seq ?_
  refine dwp_region ?_
  refine walk_r rfl rfl rfl (op_move (.inr rfl) (ev1 rfl)) ?_
  refine walk_nil ?_
  refine dwp_seq ?_
  refine dwp_holes 1 (by simp only [holes, List.cons_append, List.nil_append]; exact rfl) ?_
  refine dwp_region ?_
  refine walk_r rfl rfl rfl (op_move (.inl rfl) (ev1 rfl)) ?_
  refine walk_w rfl rfl rfl (dop_call [] [] [0] rfl (ev1 rfl) (ec (ev1 rfl) en) rfl rfl (fresh_d s hs) rfl rfl rfl rfl rfl rfl) (by simp only [upd, List.set_cons_zero, List.set_cons_succ]; exact rfl) ?_
  refine walk_r rfl rfl rfl (op_move (.inr rfl) (ev1 rfl)) ?_
  refine walk_nil ?_
  refine dwp_seq ?_
  refine dwp_region ?_
  refine walk_r rfl rfl rfl (op_move (.inl rfl) (ev1 rfl)) ?_
  refine walk_r rfl rfl rfl (op_move (.inl rfl) (ev1 rfl)) ?_
  refine walk_r rfl rfl rfl (op_bsm (ps := [(0, .tmp 9)]) rfl sl22 zr25 rfl (ec (ev1 rfl) en) rfl (by decide)) ?_
  refine walk_w rfl rfl rfl (dop_call [0] [] [] rfl (ev1 rfl) (ec (ev1 rfl) (ec (ev1 rfl) en)) rfl rfl (feedall_d [l] (by simpa using hn) (by simp) (by simpa using hl) 0 (trn s) (trn_lt hs)) rfl rfl rfl rfl rfl rfl) (by simp only [upd, List.set_cons_zero, List.set_cons_succ]; exact rfl) ?_
  refine walk_nil ?_
  refine dwp_seq ?_
  refine dwp_region ?_
  refine walk_r rfl rfl rfl (op_move (.inl rfl) (ev1 rfl)) ?_
  refine walk_w rfl rfl rfl (dop_call [0] [] [] rfl (ev1 rfl) (ec (ev1 rfl) en) rfl rfl (sum_d _ _ _ (by rw [List.flatten_singleton]; exact sum_lt hn hs)) rfl rfl rfl rfl rfl rfl) (by simp only [upd, List.set_cons_zero, List.set_cons_succ]; exact rfl) ?_
  refine walk_r rfl rfl rfl (op_move (.inr rfl) (ev1 rfl)) ?_
  refine walk_nil ?_
  refine dwp_ret ?_
  refine kend0 (rs1 rfl (rv_t rfl)) rfl ?_
  rw [List.flatten_singleton]
  rfl

end Go.Proofs.Ytnpfbeoibbejeaa
