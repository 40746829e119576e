/- bytes that are sealed -/
import Derived.Test.YtnpfbeoibbejeaaKh
namespace Go.Proofs.Ytnpfbeoibbejeaa
set_option linter.unusedVariables false
set_option linter.unusedSimpArgs false
open Go.RowKit

def sealC (l : List Nat) : List Nat := l ++ four (moreC 0 l)
theorem four_len (w : Nat) : (four w).length = 4 := rfl
theorem sealC_len (l : List Nat) : (sealC l).length = l.length + 4 := by rw [sealC, List.length_append, four_len]
theorem lay_one {A B : List Value} {z : Value} {p m r : Nat} (hp : p = A.length) (hm : B.length = m) : setL (A ++ List.replicate (m + r) z) p B = A ++ B ++ List.replicate r z := by
  subst hp hm
  rw [setL_eq _ _ _ (by simp), List.take_left, List.drop_append]
  congr 1
  rw [List.drop_of_length_le (by omega), List.nil_append, List.drop_replicate]
  congr 1
  omega
theorem laid_n (l m : List Nat) {z : Value} {N p0 p1 k1 k2 : Nat} (hN : N = l.length + m.length) (h0 : p0 = 0) (h1 : l.length ≤ k1) (h2 : p1 = l.length) (h3 : m.length ≤ k2) : setL (setL (List.replicate N z) p0 ((l.flatMap un8).take k1)) p1 ((m.flatMap un8).take k2) = (l ++ m).flatMap un8 := by
  subst hN
  rw [List.take_of_length_le (by rw [fln]; omega), List.take_of_length_le (by rw [fln]; omega)]
  have e1 := lay_one (A := []) (B := l.flatMap un8) (z := z) (p := p0) (m := l.length) (r := m.length) h0 (fln _)
  rw [List.nil_append, List.nil_append] at e1
  rw [e1]
  have e2 := lay_one (A := l.flatMap un8) (B := m.flatMap un8) (z := z) (p := p1) (m := m.length) (r := 0) (by rw [fln]; exact h2) (fln _)
  rw [Nat.add_zero] at e2
  rw [e2, List.flatMap_append]
  simp
theorem laid_1 (l : List Nat) {z : Value} {N k : Nat} (hN : N = l.length) (h1 : l.length ≤ k) : setL (List.replicate N z) 0 ((l.flatMap un8).take k) = l.flatMap un8 := by
  subst hN
  rw [List.take_of_length_le (by rw [fln]; omega)]
  exact setL_all (by rw [List.length_replicate, fln])
theorem sum1_c (l : List Nat) (hn : isN l) (hl : l.length ≤ 1000000) : DFun Try.prog 11 [.slm 1 1 [rN l]] [] (.val (.int .u32 (moreC 0 l : Nat))) [] := by
  have h := sum_c [l] (by simpa using hn) (by simp) (by simpa using hl)
  rw [List.flatten_singleton] at h
  exact h

set_option maxRecDepth 4000 in
set_option maxHeartbeats 1000000 in
theorem seal_o (l : List Nat) (hn : isN l) (hl : l.length ≤ 1000000) : DFun Try.prog 18 [.slf 1 (l).length ((l).flatMap un8)] [] (.arr 0) [.arr 5 1 (sealC l).length (((sealC l)).flatMap un8)] := by
  refine dcalls_go (N := 21) 0 (by kernel_rfl) Try.func18 rfl rfl rfl (by simp only [fr0, Nat.zero_add, Nat.reduceAdd]; exact rfl) rfl fun s0 hs0 => ?_
  refine dwp_len (t := 0) rfl fun hl0 hL0 => ?_
  refine dwp_seq ?_
  refine dwp_region ?_
  refine walk_r rfl rfl rfl (op_move (.inr rfl) (ev1 rfl)) ?_
  refine walk_nil ?_
  refine dwp_seq ?_
  have hml := more_lt hn (show 0 < 2 ^ 32 by decide)
  refine dwp_holes 1 (by simp only [holes, List.cons_append, List.nil_append]; exact rfl) ?_
  refine dwp_region ?_
  refine walk_r rfl rfl rfl (op_move (.inl rfl) (ev1 rfl)) ?_
  refine walk_r rfl rfl rfl (op_bsm (ps := [(0, .tmp 5)]) rfl sl22 zr25 rfl (ec (ev1 rfl) en) rfl (by decide)) ?_
  refine walk_r rfl rfl rfl (dop_call [] [] [] rfl (ev1 rfl) (ec (ev1 rfl) en) rfl rfl (sum1_c l hn hl) rfl rfl rfl rfl rfl rfl) ?_
  refine walk_r rfl rfl rfl (dop_call [] [] [] rfl (ev1 rfl) (ec (ev1 rfl) en) rfl rfl (low_d (moreC 0 l) hml) rfl rfl rfl rfl rfl rfl) ?_
  refine walk_w rfl rfl rfl (op_alloc 0 rfl zr45 rfl) (by simp only [upd, List.set_cons_zero, List.set_cons_succ]; exact rfl) ?_
  refine walk_s rfl rfl (op_stwa rfl tb45 (ev1 rfl) (ev1 rfl) rfl rfl rfl rfl) (by simp only [upd, List.set_cons_zero, List.set_cons_succ]; exact rfl) ?_
  refine walk_nil ?_
  refine dwp_seq ?_
  refine dwp_holes 1 (by simp only [holes, List.cons_append, List.nil_append]; exact rfl) ?_
  refine dwp_region ?_
  refine walk_r rfl rfl rfl (op_move (.inl rfl) (ev1 rfl)) ?_
  refine walk_r rfl rfl rfl (op_len rfl sl25 (ev1 rfl)) ?_
  refine walk_r rfl rfl rfl (op_add' rfl (ev1 rfl) (ev1 rfl) (fun _ => IntWalk.i64_in _ (by omega))) ?_
  refine walk_w rfl rfl rfl (op_mks 1 (l.length + 4) (.int .u8 0) rfl sl25 zr5 (ev1 rfl) (ev1 rfl) (fun _ => by omega) (fun _ => by omega) rfl (fun _ => by omega)) (by simp only [upd, List.set_cons_zero, List.set_cons_succ]; exact rfl) ?_
  refine walk_r rfl rfl rfl (op_move (.inr rfl) (ev1 rfl)) ?_
  refine walk_nil ?_
  refine dwp_seq ?_
  refine dwp_view ⟨hs0, rfl⟩ [1] [0] [(0, _), (3, _), (4, _)] [_] rfl ⟨rfl, rfl, rfl, trivial⟩ ⟨rfl, trivial⟩ ?_
  refine dwp_draw [([], []), ([], []), ([], []), ([0], [0]), ([0], []), ([], []), ([0], [0])] mixed (by kernel_rfl) ?_
  refine lex_r rfl rfl (op_move (.inl rfl) (ev1 rfl)) ?_
  refine lex_r rfl rfl (op_move (.inl rfl) (ev1 rfl)) ?_
  refine lex_r rfl rfl (op_move (.inl rfl) (ev1 rfl)) ?_
  refine lex_w rfl rfl (op_cpa rfl sl25 (ev1 rfl) (ev1 rfl) src_slf rfl (fun _ => flat_oc (fun _ => rfl) _)) rfl (by simp only [upd, List.set_cons_zero, List.set_cons_succ]; exact rfl) ?_
  refine lex_r rfl rfl (op_sla rfl sl25 (ev1 rfl) rfl (bd_some (ev1 rfl)) bd_none (fun _ => by omega)) ?_
  refine lex_r rfl rfl (op_slad (p := 0) (q := 4) rfl ar45 (ev1 rfl) bd_none bd_none (fun _ => rfl) (fun _ => rfl) (fun _ => by decide) (rfl) (by decide) (fun _ => rfl)) ?_
  refine lex_w rfl rfl (op_cpy rfl sl25 (ev1 rfl) (ev1 rfl) src_slf rfl (fun _ => flat_oc (fun _ => rfl) _)) rfl (by simp only [upd, List.set_cons_zero, List.set_cons_succ]; exact rfl) ?_
  refine lex_nil ?_
  refine dwp_seq ?_
  refine dwp_region ?_
  refine walk_r rfl rfl rfl (op_move (.inl rfl) (ev1 rfl)) ?_
  refine walk_r rfl rfl rfl (op_move (.inr rfl) (ev1 rfl)) ?_
  refine walk_nil ?_
  refine dwp_ret ?_
  refine kend [0] (rs1 rfl (rv_t rfl)) rfl rfl ?_ ⟨?_, trivial⟩
  rfl
  exact arr_eq (by rw [sealC_len]) (laid_n l (four (moreC 0 l)) rfl rfl (by omega) (by omega) (by have e : (List.take (4 - 0) (List.drop 0 (four (moreC 0 l)))).length = 4 := rfl; rw [e, four_len]; omega))

theorem op_off {P : Program} {pc : Bool} {o : Oper} {F : Fr} {M : List Blk} (d : D) (h : ¬ pc = true) : DOp P pc o F M [] d [] := fun hp => absurd hp h
/-- the address of a row of as many elements as an array has -/
theorem op_s2a {P : Program} {pc : Bool} {o : Oper} {F : Fr} {M : List Blk} {T : TypeId} {x : Operand} {n sz : Nat} {L : List Value} (hn0 : 0 < n) (ho : o.op = .sliceToArrayPointer T x) (hT : arE P T = some (n, 1)) (hx : Ev pc F x (.slf 1 sz L)) (hs : pc = true → n ≤ sz) (hL : pc = true → 0 < L.length) : DOp P pc o F M [] (.dpf L) [] := by
  intro hp a s hok hops _
  obtain ⟨e, i, e1, e2, e3⟩ := arE_spec hT
  have hs := hs hp
  have hL := hL hp
  have hr := ev_at hp hx (by simp [ho, Op.operands]) hops
  generalize hv : a.eval x = vx at hr
  cases hr with
  | @slf _ _ cap ad _ hl hn hc ha hh =>
    rcases hh with rfl | ⟨b, q, rfl, hI, hcl⟩
    · simp at hL
    · refine dg_val hok (v := .pointer (some ⟨b, q, none⟩)) ?_ (.dpf hI hcl)
      unfold execOp
      simp only [ho, hv]
      refine run_v ?_
      unfold Instr.arrayAt
      simp [run_underlying e1, Sem.run_bind, show ¬ sz < n by omega]
theorem eqA_row {α : Type} {f : List Value → List Value → Option Bool} {en : α → List Value} {sz : Nat} [DecidableEq α] (hen : ∀ a, (en a).length = sz) (hf : ∀ a b, f (en a) (en b) = some (decide (a = b))) :
    ∀ (l r : List α), l.length = r.length → eqA f sz l.length (l.flatMap en) (r.flatMap en) = some (decide (l = r))
  | [], [], _ => by simp [eqA]
  | a :: l, b :: r, h => by
    have e1 : ((a :: l).flatMap en).take sz = en a := by rw [List.flatMap_cons, ← hen a, List.take_left]
    have e2 : ((b :: r).flatMap en).take sz = en b := by rw [List.flatMap_cons, ← hen b, List.take_left]
    have e3 : ((a :: l).flatMap en).drop sz = l.flatMap en := by rw [List.flatMap_cons, ← hen a, List.drop_left]
    have e4 : ((b :: r).flatMap en).drop sz = r.flatMap en := by rw [List.flatMap_cons, ← hen b, List.drop_left]
    rw [List.length_cons, eqA, e1, e2, e3, e4, hf, eqA_row hen hf l r (by simpa using h)]
    simp only [Option.some.injEq]
    rw [Bool.eq_iff_iff]
    simp
  | [], _ :: _, h => by simp at h
  | _ :: _, [], h => by simp at h
set_option maxRecDepth 100000 in
theorem eq4 {a b : List Nat} (ha : a.length = 4) (hb : b.length = 4) : eqT Try.prog 9 45 (a.flatMap un8) (b.flatMap un8) = some (decide (a = b)) := by
  have h : ∀ a b : Nat, eqT Try.prog 8 5 (un8 a) (un8 b) = some (decide (a = b)) := fun a b => by
    have h1 : eqT Try.prog 8 5 (un8 a) (un8 b) = some ((a : Int) == (b : Int)) := by kernel_rfl
    rw [h1]
    congr 1
    rw [Bool.eq_iff_iff]
    simp
    omega
  have h2 := eqA_row (en := un8) un8_len h a b (by omega)
  rw [ha] at h2
  rw [← h2]
  have e1 : Try.prog.underlying 45 = some (.array 4 5) := by kernel_rfl
  have e2 : ∃ i, Try.prog.info? 5 = some i ∧ i.size = 1 := ⟨_, rfl, by kernel_rfl⟩
  obtain ⟨i, e3, e4⟩ := e2
  unfold eqT
  simp only [e1, e3, e4]

set_option maxRecDepth 4000 in
set_option maxHeartbeats 1000000 in
theorem open_few (l : List Nat) (h : l.length < 4) : DFun Try.prog 20 [.slf 1 (l).length ((l).flatMap un8)] [] (.tup [.val (.slice none 0 0), .val (.int .i64 120)]) [] := by
  refine dcalls_go (N := 34) 0 (by kernel_rfl) Try.func20 rfl rfl rfl (by simp only [fr0, Nat.zero_add, Nat.reduceAdd]; exact rfl) rfl fun s0 hs0 => ?_
  refine dwp_len (t := 0) rfl fun hl0 hL0 => ?_
  refine dwp_seq ?_
  refine dwp_region ?_
  refine walk_r rfl rfl rfl (op_move (.inr rfl) (ev1 rfl)) ?_
  refine walk_r rfl rfl rfl (op_move (.inr rfl) (ev1 rfl)) ?_
  refine walk_nil ?_
  refine dwp_seq ?_
  refine dwp_region ?_
  refine walk_r rfl rfl rfl (op_move (.inl rfl) (ev1 rfl)) ?_
  refine walk_r rfl rfl rfl (op_len rfl sl25 (ev1 rfl)) ?_
  refine walk_r rfl rfl rfl (op_sub' rfl (ev1 rfl) (ev1 rfl) (fun _ => IntWalk.i64_in _ (by omega))) ?_
  refine walk_r rfl rfl rfl (op_move (.inr rfl) (ev1 rfl)) ?_
  refine walk_nil ?_
  refine dwp_seq ?_
  refine dwp_seq ?_
  refine dwp_draw [([], []), ([], []), ([], []), ([], []), ([], []), ([], []), ([], []), ([], []), ([], []), ([], []), ([], []), ([], []), ([], []), ([], []), ([], []), ([], [])] mixed (by kernel_rfl) ?_
  refine lex_r rfl rfl (op_move (.inl rfl) (ev1 rfl)) ?_
  refine lex_r rfl rfl (op_lss rfl (ev1 rfl) (ev1 rfl)) ?_
  refine lex_r rfl rfl (op_move (.inl rfl) (ev1 rfl)) ?_
  refine lex_gr (gd_f rfl rfl rfl) rfl rfl (op_move (.inl rfl) (ev1 rfl)) ?_
  refine lex_gr (gd_f rfl rfl rfl) rfl rfl (op_move (.inl rfl) (ev1 rfl)) ?_
  refine lex_gr (gd_f rfl rfl rfl) rfl rfl (op_off (.val (.slice none 0 0)) (by simp; omega)) ?_
  refine lex_gr (gd_f rfl rfl rfl) rfl rfl (op_off (.val (.slice none 0 0)) (by simp; omega)) ?_
  refine lex_gr (gd_f rfl rfl rfl) rfl rfl (op_off (.val (.slice none 0 0)) (by simp; omega)) ?_
  refine lex_gr (gd_f rfl rfl rfl) rfl rfl (op_off (.val (.slice none 0 0)) (by simp; omega)) ?_
  refine lex_gr (gd_f rfl rfl rfl) rfl rfl (op_move (.inl rfl) (ev1 rfl)) ?_
  refine lex_gr (gd_f rfl rfl rfl) rfl rfl (op_move (.inl rfl) (ev1 rfl)) ?_
  refine lex_gr (gd_f rfl rfl rfl) rfl rfl (op_off (.val (.slice none 0 0)) (by simp; omega)) ?_
  refine lex_gr (gd_f rfl rfl rfl) rfl rfl (op_off (.val (.slice none 0 0)) (by simp; omega)) ?_
  refine lex_gr (gd_f rfl rfl rfl) rfl rfl (op_off (.val (.slice none 0 0)) (by simp; omega)) ?_
  refine lex_gr (gd_f rfl rfl rfl) rfl rfl (op_off (.val (.bool false)) (by simp; omega)) ?_
  refine lex_r rfl rfl (op_or rfl (ev1 rfl) (ev3 rfl id)) ?_
  refine lex_nil ?_
  refine dwp_if_t rfl (by simp; omega) ?_
  refine dwp_seq ?_
  refine dwp_region ?_
  refine walk_r rfl rfl rfl (op_move (.inr rfl) (ev1 rfl)) ?_
  refine walk_r rfl rfl rfl (op_move (.inr rfl) (ev1 rfl)) ?_
  refine walk_nil ?_
  refine dwp_ret ?_
  refine kend0 (rs2 rfl (rv_t rfl) (rv_t rfl)) rfl ?_
  rfl

set_option maxRecDepth 4000 in
set_option maxHeartbeats 1000000 in
theorem open_no (l : List Nat) (hn : isN l) (hl : l.length ≤ 1000000) (h : 4 ≤ l.length) (hx : ¬ four (moreC 0 (l.take (l.length - 4))) = l.drop (l.length - 4)) : DFun Try.prog 20 [.slf 1 (l).length ((l).flatMap un8)] [] (.tup [.val (.slice none 0 0), .val (.int .i64 120)]) [] := by
  refine dcalls_go (N := 34) 0 (by kernel_rfl) Try.func20 rfl rfl rfl (by simp only [fr0, Nat.zero_add, Nat.reduceAdd]; exact rfl) rfl fun s0 hs0 => ?_
  refine dwp_len (t := 0) rfl fun hl0 hL0 => ?_
  refine dwp_seq ?_
  refine dwp_region ?_
  refine walk_r rfl rfl rfl (op_move (.inr rfl) (ev1 rfl)) ?_
  refine walk_r rfl rfl rfl (op_move (.inr rfl) (ev1 rfl)) ?_
  refine walk_nil ?_
  refine dwp_seq ?_
  refine dwp_region ?_
  refine walk_r rfl rfl rfl (op_move (.inl rfl) (ev1 rfl)) ?_
  refine walk_r rfl rfl rfl (op_len rfl sl25 (ev1 rfl)) ?_
  refine walk_r rfl rfl rfl (op_sub' rfl (ev1 rfl) (ev1 rfl) (fun _ => IntWalk.i64_in _ (by omega))) ?_
  refine walk_r rfl rfl rfl (op_move (.inr rfl) (ev1 rfl)) ?_
  refine walk_nil ?_
  refine dwp_seq ?_
  refine dwp_seq ?_
  have hbn : isN (l.take (l.length - 4)) := fun x hx => hn x (List.mem_of_mem_take hx)
  have hml := more_lt hbn (show 0 < 2 ^ 32 by decide)
  have hdl : (l.drop (l.length - 4)).length = 4 := by rw [List.length_drop]; omega
  refine dwp_draw [([], []), ([], []), ([], []), ([], []), ([], []), ([], []), ([], []), ([], []), ([], []), ([], []), ([], []), ([], []), ([], []), ([], []), ([], []), ([], [])] mixed (by kernel_rfl) ?_
  refine lex_r rfl rfl (op_move (.inl rfl) (ev1 rfl)) ?_
  refine lex_r rfl rfl (op_lss rfl (ev1 rfl) (ev1 rfl)) ?_
  refine lex_r rfl rfl (op_move (.inl rfl) (ev1 rfl)) ?_
  refine lex_gr (gd_f rfl rfl rfl) rfl rfl (op_move (.inl rfl) (ev1 rfl)) ?_
  refine lex_gr (gd_f rfl rfl rfl) rfl rfl (op_move (.inl rfl) (ev1 rfl)) ?_
  refine lex_gr (gd_f rfl rfl rfl) rfl rfl (op_sltk (j := (l.length - 4)) rfl sl25 (ev2 rfl) (bd_some (ev2 rfl)) (fun _ => by omega) (fun _ => by omega) (fun _ => rfl)) ?_
  refine lex_gr (gd_f rfl rfl rfl) rfl rfl (op_bsm (ps := [(0, .tmp 14)]) rfl sl22 zr25 rfl (ec (ev2 rfl) en) rfl (by decide)) ?_
  refine lex_gr (gd_f rfl rfl rfl) rfl rfl (dop_call [] [] [] rfl (ev1 rfl) (ec (ev2 rfl) en) rfl rfl (sum1_c (l.take (l.length - 4)) hbn (by rw [List.length_take]; omega)) rfl rfl rfl rfl rfl rfl) ?_
  refine lex_gr (gd_f rfl rfl rfl) rfl rfl (dop_call [] [] [] rfl (ev1 rfl) (ec (ev2 rfl) en) rfl rfl (low_d _ hml) rfl rfl rfl rfl rfl rfl) ?_
  refine lex_gr (gd_f rfl rfl rfl) rfl rfl (op_move (.inl rfl) (ev1 rfl)) ?_
  refine lex_gr (gd_f rfl rfl rfl) rfl rfl (op_move (.inl rfl) (ev1 rfl)) ?_
  refine lex_gr (gd_f rfl rfl rfl) rfl rfl (op_sldr (i := (l.length - 4)) rfl sl25 (ev2 rfl) (bd_some (ev2 rfl)) (fun _ => by omega) (fun _ => by omega) (fun _ => rfl)) ?_
  refine lex_gr (gd_f rfl rfl rfl) rfl rfl (op_s2a (by decide) rfl ar45 (ev2 rfl) (fun _ => by omega) (fun _ => by rw [fln]; omega)) ?_
  refine lex_gr (gd_f rfl rfl rfl) rfl rfl (op_ldwd rfl tb45 (ev2 rfl) (by rw [fln]; omega)) ?_
  refine lex_gr (gd_f rfl rfl rfl) rfl rfl (op_ner (eq4 rfl hdl) rfl gd45 tb45 (ev2 rfl) (ev2 rfl)) ?_
  refine lex_r rfl rfl (op_or rfl (ev1 rfl) (ev3 rfl id)) ?_
  refine lex_nil ?_
  refine dwp_if_t rfl (by rw [decide_eq_false hx]; simp) ?_
  refine dwp_seq ?_
  refine dwp_region ?_
  refine walk_r rfl rfl rfl (op_move (.inr rfl) (ev1 rfl)) ?_
  refine walk_r rfl rfl rfl (op_move (.inr rfl) (ev1 rfl)) ?_
  refine walk_nil ?_
  refine dwp_ret ?_
  refine kend0 (rs2 rfl (rv_t rfl) (rv_t rfl)) rfl ?_
  rfl

set_option maxRecDepth 4000 in
set_option maxHeartbeats 1000000 in
theorem open_o (l : List Nat) (hn : isN l) (hl : l.length ≤ 1000000) (h : 4 ≤ l.length) (hx : four (moreC 0 (l.take (l.length - 4))) = l.drop (l.length - 4)) : DFun Try.prog 20 [.slf 1 (l).length ((l).flatMap un8)] [] (.tup [.arr 0, .val (.int .i64 0)]) [.arr 5 1 (l.take (l.length - 4)).length (((l.take (l.length - 4))).flatMap un8)] := by
  refine dcalls_go (N := 34) 0 (by kernel_rfl) Try.func20 rfl rfl rfl (by simp only [fr0, Nat.zero_add, Nat.reduceAdd]; exact rfl) rfl fun s0 hs0 => ?_
  refine dwp_len (t := 0) rfl fun hl0 hL0 => ?_
  refine dwp_seq ?_
  refine dwp_region ?_
  refine walk_r rfl rfl rfl (op_move (.inr rfl) (ev1 rfl)) ?_
  refine walk_r rfl rfl rfl (op_move (.inr rfl) (ev1 rfl)) ?_
  refine walk_nil ?_
  refine dwp_seq ?_
  refine dwp_region ?_
  refine walk_r rfl rfl rfl (op_move (.inl rfl) (ev1 rfl)) ?_
  refine walk_r rfl rfl rfl (op_len rfl sl25 (ev1 rfl)) ?_
  refine walk_r rfl rfl rfl (op_sub' rfl (ev1 rfl) (ev1 rfl) (fun _ => IntWalk.i64_in _ (by omega))) ?_
  refine walk_r rfl rfl rfl (op_move (.inr rfl) (ev1 rfl)) ?_
  refine walk_nil ?_
  refine dwp_seq ?_
  refine dwp_seq ?_
  have hbn : isN (l.take (l.length - 4)) := fun x hx => hn x (List.mem_of_mem_take hx)
  have hml := more_lt hbn (show 0 < 2 ^ 32 by decide)
  have hdl : (l.drop (l.length - 4)).length = 4 := by rw [List.length_drop]; omega
  refine dwp_draw [([], []), ([], []), ([], []), ([], []), ([], []), ([], []), ([], []), ([], []), ([], []), ([], []), ([], []), ([], []), ([], []), ([], []), ([], []), ([], [])] mixed (by kernel_rfl) ?_
  refine lex_r rfl rfl (op_move (.inl rfl) (ev1 rfl)) ?_
  refine lex_r rfl rfl (op_lss rfl (ev1 rfl) (ev1 rfl)) ?_
  refine lex_r rfl rfl (op_move (.inl rfl) (ev1 rfl)) ?_
  refine lex_gr (gd_f rfl rfl rfl) rfl rfl (op_move (.inl rfl) (ev1 rfl)) ?_
  refine lex_gr (gd_f rfl rfl rfl) rfl rfl (op_move (.inl rfl) (ev1 rfl)) ?_
  refine lex_gr (gd_f rfl rfl rfl) rfl rfl (op_sltk (j := (l.length - 4)) rfl sl25 (ev2 rfl) (bd_some (ev2 rfl)) (fun _ => by omega) (fun _ => by omega) (fun _ => rfl)) ?_
  refine lex_gr (gd_f rfl rfl rfl) rfl rfl (op_bsm (ps := [(0, .tmp 14)]) rfl sl22 zr25 rfl (ec (ev2 rfl) en) rfl (by decide)) ?_
  refine lex_gr (gd_f rfl rfl rfl) rfl rfl (dop_call [] [] [] rfl (ev1 rfl) (ec (ev2 rfl) en) rfl rfl (sum1_c (l.take (l.length - 4)) hbn (by rw [List.length_take]; omega)) rfl rfl rfl rfl rfl rfl) ?_
  refine lex_gr (gd_f rfl rfl rfl) rfl rfl (dop_call [] [] [] rfl (ev1 rfl) (ec (ev2 rfl) en) rfl rfl (low_d _ hml) rfl rfl rfl rfl rfl rfl) ?_
  refine lex_gr (gd_f rfl rfl rfl) rfl rfl (op_move (.inl rfl) (ev1 rfl)) ?_
  refine lex_gr (gd_f rfl rfl rfl) rfl rfl (op_move (.inl rfl) (ev1 rfl)) ?_
  refine lex_gr (gd_f rfl rfl rfl) rfl rfl (op_sldr (i := (l.length - 4)) rfl sl25 (ev2 rfl) (bd_some (ev2 rfl)) (fun _ => by omega) (fun _ => by omega) (fun _ => rfl)) ?_
  refine lex_gr (gd_f rfl rfl rfl) rfl rfl (op_s2a (by decide) rfl ar45 (ev2 rfl) (fun _ => by omega) (fun _ => by rw [fln]; omega)) ?_
  refine lex_gr (gd_f rfl rfl rfl) rfl rfl (op_ldwd rfl tb45 (ev2 rfl) (by rw [fln]; omega)) ?_
  refine lex_gr (gd_f rfl rfl rfl) rfl rfl (op_ner (eq4 rfl hdl) rfl gd45 tb45 (ev2 rfl) (ev2 rfl)) ?_
  refine lex_r rfl rfl (op_or rfl (ev1 rfl) (ev3 rfl id)) ?_
  refine lex_nil ?_
  refine dwp_if_f rfl (by rw [decide_eq_true hx]; simp; omega) ?_
  refine dwp_skip ?_
  refine dwp_seq ?_
  refine dwp_holes 1 (by simp only [holes, List.cons_append, List.nil_append]; exact rfl) ?_
  refine dwp_region ?_
  refine walk_r rfl rfl rfl (op_move (.inl rfl) (ev1 rfl)) ?_
  refine walk_w rfl rfl rfl (op_mks 0 ((l.length - 4)) (.int .u8 0) rfl sl25 zr5 (ev1 rfl) (ev1 rfl) (fun _ => by omega) (fun _ => by omega) rfl (fun _ => by omega)) (by simp only [upd, List.set_cons_zero, List.set_cons_succ]; exact rfl) ?_
  refine walk_r rfl rfl rfl (op_move (.inr rfl) (ev1 rfl)) ?_
  refine walk_nil ?_
  refine dwp_seq ?_
  refine dwp_region ?_
  refine walk_r rfl rfl rfl (op_move (.inl rfl) (ev1 rfl)) ?_
  refine walk_r rfl rfl rfl (op_move (.inl rfl) (ev1 rfl)) ?_
  refine walk_r rfl rfl rfl (op_move (.inl rfl) (ev1 rfl)) ?_
  refine walk_r rfl rfl rfl (op_move (.inl rfl) (ev1 rfl)) ?_
  refine walk_r rfl rfl rfl (op_sl3f (j := l.length - 4) rfl sl25 (ev1 rfl) (ev1 rfl) (ev1 rfl) (fun hp => by first | omega | (simp at hp; omega)) (fun hp => by first | omega | (simp at hp; omega)) (fun hp => by first | omega | (simp at hp; omega)) (fun _ => rfl)) ?_
  refine walk_w rfl rfl rfl (op_cpa rfl sl25 (ev1 rfl) (ev1 rfl) src_slf rfl (fun _ => flat_oc (fun _ => rfl) _)) (by simp only [upd, List.set_cons_zero, List.set_cons_succ]; exact rfl) ?_
  refine walk_nil ?_
  refine dwp_seq ?_
  refine dwp_region ?_
  refine walk_r rfl rfl rfl (op_move (.inl rfl) (ev1 rfl)) ?_
  refine walk_r rfl rfl rfl (op_move (.inr rfl) (ev1 rfl)) ?_
  refine walk_r rfl rfl rfl (op_move (.inr rfl) (ev1 rfl)) ?_
  refine walk_nil ?_
  refine dwp_ret ?_
  refine kend [0] (rs2 rfl (rv_t rfl) (rv_t rfl)) rfl rfl ?_ ⟨?_, trivial⟩
  rfl
  exact arr_eq (by rw [List.length_take]; omega) (laid_1 _ (by rw [List.length_take]; omega) (by rw [List.length_take]; omega))

end Go.Proofs.Ytnpfbeoibbejeaa
