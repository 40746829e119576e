/- which operations may be, kind by kind; logs: which may be; Rows of structs with addresses, made by make, and copied into; A struct whose fields are rows, stored into a part of a variable; operations copied; logs that are the same; vectors of logs; where something begins to hold; logs that change: folded; logs that change: inserted. No condition. -/
import Derived.Test.YtbcnaacgillhcaaGreatQ3
import Derived.Test.YtbcnaacgillhcaaGreatRows
namespace Go.Proofs.YtbcnaacgillhcaaGreat
set_option linter.unusedVariables false
set_option linter.unusedSimpArgs false
open Go.RowKit
theorem av122 : arV Tryz.prog 122 = some (8, 4) := by kernel_rfl
theorem fo115_0 : fdO Tryz.prog 115 0 = some 0 := by kernel_rfl
theorem fo121_1 : fdO Tryz.prog 121 1 = some 1 := by kernel_rfl
theorem fo121_2 : fdO Tryz.prog 121 2 = some 2 := by kernel_rfl
theorem fo44_1 : fdO Tryz.prog 44 1 = some 3 := by kernel_rfl
theorem tb118 : tyB Tryz.prog 118 = some (false, 1) := by kernel_rfl
theorem tb121 : tyB Tryz.prog 121 = some (true, 4) := by kernel_rfl
theorem tb91 : tyB Tryz.prog 91 = some (false, 1) := by kernel_rfl
theorem errOr_z (b : Bool) {n : Int} (hn : n ≠ 0) : (errOr b n = 0) = (b = true) := by
  cases b
  · simp [errOr, hn]
  · simp [errOr]
def fnFit (j : Nat) : FuncId := match j with
  | 0 => 68
  | 1 => 72
  | 2 => 75
  | 3 => 78
  | 4 => 81
  | 5 => 84
  | 6 => 87
  | _ => 92
def fnBlk (j : Nat) : FuncId := match j with
  | 0 => 70
  | 1 => 73
  | 2 => 76
  | 3 => 79
  | 4 => 82
  | 5 => 85
  | 6 => 89
  | _ => 93
def fnApp (j : Nat) : FuncId := match j with
  | 0 => 71
  | 1 => 74
  | 2 => 77
  | 3 => 80
  | 4 => 83
  | 5 => 86
  | 6 => 90
  | _ => 94
def fldN (j : Nat) : D := match j with
  | 0 => .val (.string ⟨#[88]⟩)
  | 1 => .val (.string ⟨#[89]⟩)
  | 2 => .val (.string ⟨#[88, 50]⟩)
  | 3 => .val (.string ⟨#[89, 50]⟩)
  | 4 => .val (.string ⟨#[83, 105, 122, 101]⟩)
  | 5 => .val (.string ⟨#[67, 111, 108, 111, 114]⟩)
  | 6 => .val (.string ⟨#[83, 116, 97, 109, 112]⟩)
  | _ => .val (.string ⟨#[84, 97, 114, 103, 101, 116]⟩)
def fldAt (j : Nat) : List D := [fldN j, .fn (.func (fnFit j)) [] [], .fn (.func (fnBlk j)) [] [], .fn (.func (fnApp j)) [] []]
theorem lt8 {j : Nat} (h : j < 8) : j = 0 ∨ j = 1 ∨ j = 2 ∨ j = 3 ∨ j = 4 ∨ j = 5 ∨ j = 6 ∨ j = 7 := by omega
theorem fld_at {j : Nat} (h : j < 8) : ((fldL).drop (j * 4)).take 4 = fldAt j := by
  rcases lt8 h with rfl | rfl | rfl | rfl | rfl | rfl | rfl | rfl <;> rfl
theorem fld_oc {j : Nat} (h : j < 8) : (fldAt j).all D.oc = true := by
  rcases lt8 h with rfl | rfl | rfl | rfl | rfl | rfl | rfl | rfl <;> rfl
def usN (K : Nat) : Nat := match K with
  | 1 => 63 | 2 => 63 | 3 => 47 | 4 => 47 | 5 => 51 | 6 => 67 | _ => 128
def msN (K : Nat) : Nat := match K with
  | 1 => 15 | 2 => 15 | 5 => 1020 | _ => 0
def useB (K j : Nat) : Bool := (usN K).testBit j
theorem useB_1 {K j : Nat} (hK : 1 ≤ K ∧ K ≤ 8) (hj : j < 8) : (andZ .i64 ((usN K : Int) / 2 ^ j) 1 == 1) = useB K j := by
  have hk : K = 1 ∨ K = 2 ∨ K = 3 ∨ K = 4 ∨ K = 5 ∨ K = 6 ∨ K = 7 ∨ K = 8 := by omega
  rcases hk with rfl | rfl | rfl | rfl | rfl | rfl | rfl | rfl <;> rcases lt8 hj with rfl | rfl | rfl | rfl | rfl | rfl | rfl | rfl <;> rfl
theorem useB_0 {K j : Nat} (hK : 1 ≤ K ∧ K ≤ 8) (hj : j < 8) : (andZ .i64 ((usN K : Int) / 2 ^ j) 1 == 0) = !useB K j := by
  have hk : K = 1 ∨ K = 2 ∨ K = 3 ∨ K = 4 ∨ K = 5 ∨ K = 6 ∨ K = 7 ∨ K = 8 := by omega
  rcases hk with rfl | rfl | rfl | rfl | rfl | rfl | rfl | rfl <;> rcases lt8 hj with rfl | rfl | rfl | rfl | rfl | rfl | rfl | rfl <;> rfl
def fitB (m : Int) (j : Nat) (o : OpM) : Bool := match j with
  | 0 => drB o.x
  | 1 => drB o.y
  | 2 => drB o.x2
  | 3 => drB o.y2
  | 4 => (decide (0 ≤ o.sz) && decide (o.sz ≤ m))
  | 5 => true
  | 6 => (errOr (stB o.sw o.sh o.px) 190 == 0)
  | _ => ((errOr (mayR o.tg) 210 == 0) && lessR o.tg o.id)
def blkB (j : Nat) (o : OpM) : Bool := match j with
  | 0 => (o.x == 0)
  | 1 => (o.y == 0)
  | 2 => (o.x2 == 0)
  | 3 => (o.y2 == 0)
  | 4 => (o.sz == 0)
  | 5 => decide (o.co = zC4)
  | 6 => (((o.sw == 0) && (o.sh == 0)) && decide (o.px = []))
  | _ => eqI o.tg zI3
theorem fit_gen {j : Nat} (h : j < 8) (u m : Int) (a b : D) (o : OpM) : DFun Tryz.prog (fnFit j) [.agg [iD u, iD m, a, b], .dpm (opD o)] [] (.val (.bool (fitB m j o))) [] := by
  rcases lt8 h with rfl | rfl | rfl | rfl | rfl | rfl | rfl | rfl
  · exact fit0_d u m a b o
  · exact fit1_d u m a b o
  · exact fit2_d u m a b o
  · exact fit3_d u m a b o
  · exact fit4_d u m a b o
  · exact fit5_d u m a b o
  · exact fit6_d u m a b o
  · exact fit7_d u m a b o
theorem blk_gen {j : Nat} (h : j < 8) (o : OpM) : DFun Tryz.prog (fnBlk j) [.dpm (opD o)] [] (.val (.bool (blkB j o))) [] := by
  rcases lt8 h with rfl | rfl | rfl | rfl | rfl | rfl | rfl | rfl
  · exact blk0_d o
  · exact blk1_d o
  · exact blk2_d o
  · exact blk3_d o
  · exact blk4_d o
  · exact blk5_d o
  · exact blk6_d o
  · exact blk7_d o
def okAt (K : Nat) (o : OpM) (j : Nat) : Bool := if useB K j = true then fitB (msN K) j o else blkB j o
theorem okAt_bad {K j : Nat} {o : OpM} (h : ((useB K j && !fitB (msN K) j o) || (!useB K j && !blkB j o)) = true) : okAt K o j = false := by
  unfold okAt
  cases h1 : useB K j <;> rw [h1] at h <;> simpa using h
theorem okAt_good {K j : Nat} {o : OpM} (h : ((useB K j && !fitB (msN K) j o) || (!useB K j && !blkB j o)) = false) : okAt K o j = true := by
  unfold okAt
  cases h1 : useB K j <;> rw [h1] at h <;> simpa using h
theorem opB_at {K : Nat} {o : OpM} (hK : 1 ≤ K ∧ K ≤ 8) (hk : o.kd = K) : opB o = true ↔ mayR o.id = true ∧ ∀ j, j < 8 → okAt K o j = true := by
  have all8 : (∀ j, j < 8 → okAt K o j = true) ↔ okAt K o 0 = true ∧ okAt K o 1 = true ∧ okAt K o 2 = true ∧ okAt K o 3 = true ∧ okAt K o 4 = true ∧ okAt K o 5 = true ∧ okAt K o 6 = true ∧ okAt K o 7 = true := by
    constructor
    · intro h
      exact ⟨h 0 (by omega), h 1 (by omega), h 2 (by omega), h 3 (by omega), h 4 (by omega), h 5 (by omega), h 6 (by omega), h 7 (by omega)⟩
    · rintro ⟨h0, h1, h2, h3, h4, h5, h6, h7⟩ j hj
      rcases lt8 hj with rfl | rfl | rfl | rfl | rfl | rfl | rfl | rfl <;> assumption
  rw [all8]
  have hk8 : K = 1 ∨ K = 2 ∨ K = 3 ∨ K = 4 ∨ K = 5 ∨ K = 6 ∨ K = 7 ∨ K = 8 := by omega
  unfold opB
  rcases hk8 with rfl | rfl | rfl | rfl | rfl | rfl | rfl | rfl <;> rw [hk] <;> simp [okAt, useB, usN, msN, fitB, blkB, mostK, errz, errOr_z, eqI_dec, Nat.testBit] <;> (try (constructor <;> intro h <;> simp_all))
def pfN (K : Nat) : FuncId := match K with
  | 1 => 95
  | 2 => 95
  | 3 => 97
  | 4 => 99
  | 5 => 100
  | _ => 102
def rfN (K : Nat) : FuncId := match K with
  | 1 => 96
  | 2 => 96
  | 3 => 98
  | 4 => 98
  | 5 => 101
  | _ => 103
theorem kindOf_lo {K : Nat} (h : 1 ≤ K ∧ K ≤ 6) : DFun Tryz.prog 60 [.val (.int .i64 (K : Int))] [] (.tup [.agg [iD (usN K), iD (msN K), .fn (.func (pfN K)) [] [], .fn (.func (rfN K)) [] []], .val (.bool true)]) [] := by
  have : K = 1 ∨ K = 2 ∨ K = 3 ∨ K = 4 ∨ K = 5 ∨ K = 6 := by omega
  rcases this with rfl | rfl | rfl | rfl | rfl | rfl
  · exact kindOf_1
  · exact kindOf_2
  · exact kindOf_3
  · exact kindOf_4
  · exact kindOf_5
  · exact kindOf_6
theorem kindOf_hi {K : Nat} (h : 7 ≤ K ∧ K ≤ 8) : DFun Tryz.prog 60 [.val (.int .i64 (K : Int))] [] (.tup [.agg [iD (usN K), iD (msN K), .val .nilFunc, .val .nilFunc], .val (.bool true)]) [] := by
  have : K = 7 ∨ K = 8 := by omega
  rcases this with rfl | rfl
  · exact kindOf_7
  · exact kindOf_8
set_option maxRecDepth 4000 in
set_option maxHeartbeats 1000000 in
theorem opc_lo (o : OpM) (K : Nat) (hK : 1 ≤ K ∧ K ≤ 6) (hk : o.kd = K) : DFun Tryz.prog 46 [.agg (opD o)] [] (.val (.int .i64 (errOr (opB o) 220))) [] := by
  refine dcalls_go (N := 54) 0 (by kernel_rfl) Tryz.func46 rfl rfl rfl (by simp only [fr0, Nat.zero_add, Nat.reduceAdd]; exact rfl) rfl fun s0 hs0 => ?_
  refine zaf ?_
  have hK8 : 1 ≤ K ∧ K ≤ 8 := by omega
  refine zah 1 (by simp only [holes, List.cons_append, List.nil_append]; exact rfl) ?_
  refine zac ?_
  refine walk_w rfl rfl rfl (op_boxam 0 rfl (ev1 rfl) rfl) (by simp only [upd, za, zaa]; exact rfl) ?_
  refine zab rfl rfl rfl (zad (.inr rfl) (ev1 rfl)) ?_
  refine zae ?_
  refine zaf ?_
  refine zah 1 (by simp only [holes, List.cons_append, List.nil_append]; exact rfl) ?_
  refine zac ?_
  refine zab rfl rfl rfl (op_fa rfl fo44_1 (ev1 rfl)) ?_
  refine zab rfl rfl rfl ((op_ldm rfl tb3 (ev1 rfl) rfl rfl).cast (d' := .val (.int .i64 (K : Int))) (by rw [hk])) ?_
  refine zab rfl rfl rfl (zai [] [] [] rfl (ev1 rfl) (ec (ev1 rfl) en) rfl rfl (kindOf_lo hK) rfl rfl rfl rfl rfl rfl) ?_
  refine zab rfl rfl rfl (zad (.inl rfl) (ev1 rfl)) ?_
  refine zab rfl rfl rfl (op_ext rfl (ev1 rfl) rfl) ?_
  refine zab rfl rfl rfl (op_ext rfl (ev1 rfl) rfl) ?_
  refine walk_w rfl rfl rfl (op_alloc 1 rfl zr115 rfl) (by simp only [upd, za, zaa]; exact rfl) ?_
  refine walk_s rfl rfl (op_stam rfl tb115 (ev1 rfl) (ev1 rfl) rfl rfl rfl rfl) (by simp only [upd, za, zaa]; exact rfl) ?_
  refine zab rfl rfl rfl (zad (.inr rfl) (ev1 rfl)) ?_
  refine zae ?_
  refine zaf ?_
  refine zaf ?_
  refine zac ?_
  refine zab rfl rfl rfl (zad (.inl rfl) (ev1 rfl)) ?_
  refine zab rfl rfl rfl ((op_not rfl (ev1 rfl)).cast (d' := .val (.bool false)) (by kernel_rfl)) ?_
  refine zab rfl rfl rfl (zad (.inl rfl) (ev1 rfl)) ?_
  refine walk_k (gd_f (b := false) rfl rfl rfl) rfl rfl rfl (op_fa rfl fo44_0 (ev1 rfl)) (by simp only [upd, za, zaa]; exact rfl) ?_
  refine walk_k (gd_f (b := false) rfl rfl rfl) rfl rfl rfl (op_ldmv (R := [_, _, _]) rfl tb37 (ev2 rfl) rfl rfl rfl) (by simp only [upd, za, zaa]; exact rfl) ?_
  refine walk_k (gd_f (b := false) rfl rfl rfl) rfl rfl rfl (zai [] [] [] rfl (ev1 rfl) (ec (ev2 rfl) en) rfl rfl (idCheck_d o.id) rfl rfl rfl rfl rfl rfl) (by simp only [upd, za, zaa]; exact rfl) ?_
  refine walk_k (gd_f (b := false) rfl rfl rfl) rfl rfl rfl (op_neq rfl (ev2 rfl) (ev1 rfl)) (by simp only [upd, za, zaa]; exact rfl) ?_
  refine zab rfl rfl rfl (op_or rfl (ev1 rfl) (ev3 rfl (fun _ => rfl))) ?_
  refine zae ?_
  refine dwp_cond rfl (fun ci => ?_) (fun ci => ?_)
  · have hi : mayR o.id = false := by
      cases h : mayR o.id
      · rfl
      · rw [h] at ci; simp [errOr] at ci
    refine zaf ?_
    refine zac ?_
    refine zab rfl rfl rfl (zad (.inr rfl) (ev1 rfl)) ?_
    refine zae ?_
    refine dwp_ret ?_
    refine kend0 (rs1 rfl (rv_t rfl)) rfl ?_
    have hb : opB o = false := by
      cases h : opB o
      · rfl
      · rw [((opB_at hK8 hk).1 h).1] at hi
        cases hi
    rw [hb]
    rfl
  · have hi : mayR o.id = true := by
      cases h : mayR o.id
      · rw [h] at ci; simp [errOr] at ci
      · rfl
    refine dwp_skip ?_
    refine zaf ?_
    refine zaf ?_
    refine zac ?_
    refine zab rfl rfl rfl (zai [] [] [] rfl (ev1 rfl) en rfl rfl (fields_d) rfl rfl rfl rfl rfl rfl) ?_
    refine zab rfl rfl rfl (zad (.inl rfl) (ev1 rfl)) ?_
    refine zae ?_
    refine dwp_block ?_
    refine dwp_loopS ⟨hs0, rfl⟩ (α := Nat) (fun j => [(22, .val (.int .i64 (j : Int)))]) [(1, _), (3, _), (21, _)] (fun j => []) [_, _] (fun j => j ≤ 8 ∧ ∀ i, i < j → okAt K o i = true) (fun j => 8 - j) 0 [0, 1] (⟨by omega, fun i h => by omega⟩) rfl ⟨rfl, rfl, rfl, trivial⟩ ⟨rfl, trivial⟩ ⟨rfl, rfl, trivial⟩ ?_
    intro j hx
    simp only [upd, za, zaa, List.cons_append, List.nil_append]
    obtain ⟨hj, he⟩ := hx
    refine zaf ?_
    refine zac ?_
    refine zab rfl rfl rfl (op_lss rfl (ev1 rfl) (ev1 rfl)) ?_
    refine zae ?_
    refine zaf ?_
    refine dwp_cond rfl (fun c2 => ?_) (fun c2 => ?_)
    · try simp only [decide_eq_true_eq, decide_eq_false_iff_not, beq_iff_eq, bne_iff_ne, beq_eq_false_iff_ne, bne_eq_false_iff_eq, Bool.not_eq_true', Bool.not_eq_false', Bool.and_eq_true, Bool.or_eq_true, Bool.or_eq_false_iff, ne_eq, Decidable.not_not, Int.not_lt, Int.not_le] at c2
      refine dwp_skip ?_
      refine zaf ?_
      refine dwp_block ?_
      refine zaf ?_
      refine zah 1 (by simp only [holes, List.cons_append, List.nil_append]; exact rfl) ?_
      refine zac ?_
      refine zab rfl rfl rfl (zad (.inl rfl) (ev1 rfl)) ?_
      refine zab rfl rfl rfl ((op_ixwr j rfl av122 (ev1 rfl) (ev1 rfl) (fun _ => rfl) (fun _ => by omega) (by show j * 4 + 4 ≤ 32; omega)).cast (d' := .agg (fldAt j)) (by exact congrArg D.agg (fld_at (j := j) (by omega)))) ?_
      refine walk_w rfl rfl rfl (op_alloc 2 rfl zr121 rfl) (by simp only [upd, za, zaa]; exact rfl) ?_
      refine zab rfl rfl rfl (zad (.inr rfl) (ev1 rfl)) ?_
      refine walk_s rfl rfl (op_stam rfl tb121 (ev1 rfl) (ev1 rfl) rfl rfl rfl (fld_oc (by omega))) (by simp only [upd, za, zaa]; exact rfl) ?_
      refine zae ?_
      refine zaf ?_
      refine zac ?_
      refine zab rfl rfl rfl (op_fa rfl fo115_0 (ev1 rfl)) ?_
      refine zab rfl rfl rfl (op_ldm rfl tb3 (ev1 rfl) rfl rfl) ?_
      refine zab rfl rfl rfl (zad (.inl rfl) (ev1 rfl)) ?_
      refine zab rfl rfl rfl (op_shr (j) rfl (ev1 rfl) (ev1 rfl) (fun _ => ⟨rfl, by simp [IntKind.bits]; omega⟩)) ?_
      refine zab rfl rfl rfl (op_iand rfl (ev1 rfl) (ev1 rfl)) ?_
      refine zab rfl rfl rfl ((op_eql rfl (ev1 rfl) (ev1 rfl)).cast (d' := .val (.bool (useB K j))) (by rw [useB_1 hK8 (by omega)])) ?_
      refine zab rfl rfl rfl (zad (.inl rfl) (ev1 rfl)) ?_
      refine zag (gd_t rfl rfl rfl) rfl rfl rfl (op_fa rfl fo121_1 (ev1 rfl)) ?_
      refine zag (gd_t rfl rfl rfl) rfl rfl rfl (op_ldm rfl tb118 (ev2 rfl) rfl rfl) ?_
      refine zag (gd_t rfl rfl rfl) rfl rfl rfl (op_ldmw rfl tb115 (ev1 rfl) rfl rfl) ?_
      refine zag (gd_t rfl rfl rfl) rfl rfl rfl (zai [] [0] [] rfl (ev2 rfl) (ec (ev2 rfl) (ec (ev1 rfl) en)) rfl rfl (fit_gen (j := j) (by omega) (usN K) (msN K) _ _ o) rfl rfl rfl rfl rfl rfl) ?_
      refine zag (gd_t rfl rfl rfl) rfl rfl rfl (op_not rfl (ev2 rfl)) ?_
      refine zab rfl rfl rfl (op_and rfl (ev1 rfl) (ev3 rfl id)) ?_
      refine zab rfl rfl rfl (zad (.inl rfl) (ev1 rfl)) ?_
      refine zag (gd_f rfl rfl rfl) rfl rfl rfl (op_fa rfl fo115_0 (ev1 rfl)) ?_
      refine zag (gd_f rfl rfl rfl) rfl rfl rfl (op_ldm rfl tb3 (ev2 rfl) rfl rfl) ?_
      refine zag (gd_f rfl rfl rfl) rfl rfl rfl (zad (.inl rfl) (ev1 rfl)) ?_
      refine zag (gd_f rfl rfl rfl) rfl rfl rfl (op_shr (j) rfl (ev2 rfl) (ev2 rfl) (fun _ => ⟨rfl, by simp [IntKind.bits]; omega⟩)) ?_
      refine zag (gd_f rfl rfl rfl) rfl rfl rfl (op_iand rfl (ev2 rfl) (ev1 rfl)) ?_
      refine zag (gd_f rfl rfl rfl) rfl rfl rfl ((op_eql rfl (ev2 rfl) (ev1 rfl)).cast (d' := .val (.bool (!useB K j))) (by rw [useB_0 hK8 (by omega)])) ?_
      refine zag (gd_f rfl rfl rfl) rfl rfl rfl (zad (.inl rfl) (ev2 rfl)) ?_
      refine zag (gd_tt rfl rfl rfl) rfl rfl rfl (op_fa rfl fo121_2 (ev1 rfl)) ?_
      refine zag (gd_tt rfl rfl rfl) rfl rfl rfl (op_ldm rfl tb91 (ev2 rfl) rfl rfl) ?_
      refine zag (gd_tt rfl rfl rfl) rfl rfl rfl (zai [] [0] [] rfl (ev2 rfl) (ec (ev1 rfl) en) rfl rfl (blk_gen (j := j) (by omega) o) rfl rfl rfl rfl rfl rfl) ?_
      refine zag (gd_tt rfl rfl rfl) rfl rfl rfl (op_not rfl (ev2 rfl)) ?_
      refine zag (gd_f rfl rfl rfl) rfl rfl rfl (op_and rfl (ev2 rfl) (ev2 rfl)) ?_
      refine zab rfl rfl rfl (op_or rfl (ev1 rfl) (ev3 rfl id)) ?_
      refine zae ?_
      refine dwp_cond rfl (fun hc => ?_) (fun hc => ?_)
      · have hbad : okAt K o j = false := okAt_bad hc
        refine zaf ?_
        refine zac ?_
        refine zab rfl rfl rfl (zad (.inr rfl) (ev1 rfl)) ?_
        refine zae ?_
        refine dwp_ret ?_
        refine kend0 (rs1 rfl (rv_t rfl)) rfl ?_
        have hb : opB o = false := by
          cases h : opB o
          · rfl
          · rw [((opB_at hK8 hk).1 h).2 j (by omega)] at hbad
            cases hbad
        rw [hb]
        rfl
      · have hgood : okAt K o j = true := okAt_good hc
        refine dwp_skip ?_
        refine zac ?_
        refine zab rfl rfl rfl (op_add' rfl (ev1 rfl) (ev1 rfl) (fun _ => IntWalk.i64_in _ (by omega))) ?_
        refine zab rfl rfl rfl (zad (.inl rfl) (ev1 rfl)) ?_
        refine zae ?_
        refine ⟨j + 1, [0, 1], ⟨by omega, fun i h => (Nat.lt_succ_iff_lt_or_eq.1 h).elim (he i) fun e => e ▸ hgood⟩, by simp only []; omega, rfl, ⟨rfl, rfl, rfl, rfl, trivial⟩, ⟨rfl, rfl, trivial⟩⟩
    · try simp only [decide_eq_true_eq, decide_eq_false_iff_not, beq_iff_eq, bne_iff_ne, beq_eq_false_iff_ne, bne_eq_false_iff_eq, Bool.not_eq_true', Bool.not_eq_false', Bool.and_eq_true, Bool.or_eq_true, Bool.or_eq_false_iff, ne_eq, Decidable.not_not, Int.not_lt, Int.not_le] at c2
      refine dwp_exit ?_
      refine zaf ?_
      refine zac ?_
      refine zab rfl rfl rfl (zad (.inr rfl) (ev1 rfl)) ?_
      refine zae ?_
      refine dwp_ret ?_
      refine kend0 (rs1 rfl (rv_t rfl)) rfl ?_
      rw [(opB_at hK8 hk).2 ⟨hi, fun i h => he i (by omega)⟩]
      rfl
set_option maxRecDepth 4000 in
set_option maxHeartbeats 1000000 in
theorem opc_hi (o : OpM) (K : Nat) (hK : 7 ≤ K ∧ K ≤ 8) (hk : o.kd = K) : DFun Tryz.prog 46 [.agg (opD o)] [] (.val (.int .i64 (errOr (opB o) 220))) [] := by
  refine dcalls_go (N := 54) 0 (by kernel_rfl) Tryz.func46 rfl rfl rfl (by simp only [fr0, Nat.zero_add, Nat.reduceAdd]; exact rfl) rfl fun s0 hs0 => ?_
  refine zaf ?_
  have hK8 : 1 ≤ K ∧ K ≤ 8 := by omega
  refine zah 1 (by simp only [holes, List.cons_append, List.nil_append]; exact rfl) ?_
  refine zac ?_
  refine walk_w rfl rfl rfl (op_boxam 0 rfl (ev1 rfl) rfl) (by simp only [upd, za, zaa]; exact rfl) ?_
  refine zab rfl rfl rfl (zad (.inr rfl) (ev1 rfl)) ?_
  refine zae ?_
  refine zaf ?_
  refine zah 1 (by simp only [holes, List.cons_append, List.nil_append]; exact rfl) ?_
  refine zac ?_
  refine zab rfl rfl rfl (op_fa rfl fo44_1 (ev1 rfl)) ?_
  refine zab rfl rfl rfl ((op_ldm rfl tb3 (ev1 rfl) rfl rfl).cast (d' := .val (.int .i64 (K : Int))) (by rw [hk])) ?_
  refine zab rfl rfl rfl (zai [] [] [] rfl (ev1 rfl) (ec (ev1 rfl) en) rfl rfl (kindOf_hi hK) rfl rfl rfl rfl rfl rfl) ?_
  refine zab rfl rfl rfl (zad (.inl rfl) (ev1 rfl)) ?_
  refine zab rfl rfl rfl (op_ext rfl (ev1 rfl) rfl) ?_
  refine zab rfl rfl rfl (op_ext rfl (ev1 rfl) rfl) ?_
  refine walk_w rfl rfl rfl (op_alloc 1 rfl zr115 rfl) (by simp only [upd, za, zaa]; exact rfl) ?_
  refine walk_s rfl rfl (op_stam rfl tb115 (ev1 rfl) (ev1 rfl) rfl rfl rfl rfl) (by simp only [upd, za, zaa]; exact rfl) ?_
  refine zab rfl rfl rfl (zad (.inr rfl) (ev1 rfl)) ?_
  refine zae ?_
  refine zaf ?_
  refine zaf ?_
  refine zac ?_
  refine zab rfl rfl rfl (zad (.inl rfl) (ev1 rfl)) ?_
  refine zab rfl rfl rfl ((op_not rfl (ev1 rfl)).cast (d' := .val (.bool false)) (by kernel_rfl)) ?_
  refine zab rfl rfl rfl (zad (.inl rfl) (ev1 rfl)) ?_
  refine walk_k (gd_f (b := false) rfl rfl rfl) rfl rfl rfl (op_fa rfl fo44_0 (ev1 rfl)) (by simp only [upd, za, zaa]; exact rfl) ?_
  refine walk_k (gd_f (b := false) rfl rfl rfl) rfl rfl rfl (op_ldmv (R := [_, _, _]) rfl tb37 (ev2 rfl) rfl rfl rfl) (by simp only [upd, za, zaa]; exact rfl) ?_
  refine walk_k (gd_f (b := false) rfl rfl rfl) rfl rfl rfl (zai [] [] [] rfl (ev1 rfl) (ec (ev2 rfl) en) rfl rfl (idCheck_d o.id) rfl rfl rfl rfl rfl rfl) (by simp only [upd, za, zaa]; exact rfl) ?_
  refine walk_k (gd_f (b := false) rfl rfl rfl) rfl rfl rfl (op_neq rfl (ev2 rfl) (ev1 rfl)) (by simp only [upd, za, zaa]; exact rfl) ?_
  refine zab rfl rfl rfl (op_or rfl (ev1 rfl) (ev3 rfl (fun _ => rfl))) ?_
  refine zae ?_
  refine dwp_cond rfl (fun ci => ?_) (fun ci => ?_)
  · have hi : mayR o.id = false := by
      cases h : mayR o.id
      · rfl
      · rw [h] at ci; simp [errOr] at ci
    refine zaf ?_
    refine zac ?_
    refine zab rfl rfl rfl (zad (.inr rfl) (ev1 rfl)) ?_
    refine zae ?_
    refine dwp_ret ?_
    refine kend0 (rs1 rfl (rv_t rfl)) rfl ?_
    have hb : opB o = false := by
      cases h : opB o
      · rfl
      · rw [((opB_at hK8 hk).1 h).1] at hi
        cases hi
    rw [hb]
    rfl
  · have hi : mayR o.id = true := by
      cases h : mayR o.id
      · rw [h] at ci; simp [errOr] at ci
      · rfl
    refine dwp_skip ?_
    refine zaf ?_
    refine zaf ?_
    refine zac ?_
    refine zab rfl rfl rfl (zai [] [] [] rfl (ev1 rfl) en rfl rfl (fields_d) rfl rfl rfl rfl rfl rfl) ?_
    refine zab rfl rfl rfl (zad (.inl rfl) (ev1 rfl)) ?_
    refine zae ?_
    refine dwp_block ?_
    refine dwp_loopS ⟨hs0, rfl⟩ (α := Nat) (fun j => [(22, .val (.int .i64 (j : Int)))]) [(1, _), (3, _), (21, _)] (fun j => []) [_, _] (fun j => j ≤ 8 ∧ ∀ i, i < j → okAt K o i = true) (fun j => 8 - j) 0 [0, 1] (⟨by omega, fun i h => by omega⟩) rfl ⟨rfl, rfl, rfl, trivial⟩ ⟨rfl, trivial⟩ ⟨rfl, rfl, trivial⟩ ?_
    intro j hx
    simp only [upd, za, zaa, List.cons_append, List.nil_append]
    obtain ⟨hj, he⟩ := hx
    refine zaf ?_
    refine zac ?_
    refine zab rfl rfl rfl (op_lss rfl (ev1 rfl) (ev1 rfl)) ?_
    refine zae ?_
    refine zaf ?_
    refine dwp_cond rfl (fun c2 => ?_) (fun c2 => ?_)
    · try simp only [decide_eq_true_eq, decide_eq_false_iff_not, beq_iff_eq, bne_iff_ne, beq_eq_false_iff_ne, bne_eq_false_iff_eq, Bool.not_eq_true', Bool.not_eq_false', Bool.and_eq_true, Bool.or_eq_true, Bool.or_eq_false_iff, ne_eq, Decidable.not_not, Int.not_lt, Int.not_le] at c2
      refine dwp_skip ?_
      refine zaf ?_
      refine dwp_block ?_
      refine zaf ?_
      refine zah 1 (by simp only [holes, List.cons_append, List.nil_append]; exact rfl) ?_
      refine zac ?_
      refine zab rfl rfl rfl (zad (.inl rfl) (ev1 rfl)) ?_
      refine zab rfl rfl rfl ((op_ixwr j rfl av122 (ev1 rfl) (ev1 rfl) (fun _ => rfl) (fun _ => by omega) (by show j * 4 + 4 ≤ 32; omega)).cast (d' := .agg (fldAt j)) (by exact congrArg D.agg (fld_at (j := j) (by omega)))) ?_
      refine walk_w rfl rfl rfl (op_alloc 2 rfl zr121 rfl) (by simp only [upd, za, zaa]; exact rfl) ?_
      refine zab rfl rfl rfl (zad (.inr rfl) (ev1 rfl)) ?_
      refine walk_s rfl rfl (op_stam rfl tb121 (ev1 rfl) (ev1 rfl) rfl rfl rfl (fld_oc (by omega))) (by simp only [upd, za, zaa]; exact rfl) ?_
      refine zae ?_
      refine zaf ?_
      refine zac ?_
      refine zab rfl rfl rfl (op_fa rfl fo115_0 (ev1 rfl)) ?_
      refine zab rfl rfl rfl (op_ldm rfl tb3 (ev1 rfl) rfl rfl) ?_
      refine zab rfl rfl rfl (zad (.inl rfl) (ev1 rfl)) ?_
      refine zab rfl rfl rfl (op_shr (j) rfl (ev1 rfl) (ev1 rfl) (fun _ => ⟨rfl, by simp [IntKind.bits]; omega⟩)) ?_
      refine zab rfl rfl rfl (op_iand rfl (ev1 rfl) (ev1 rfl)) ?_
      refine zab rfl rfl rfl ((op_eql rfl (ev1 rfl) (ev1 rfl)).cast (d' := .val (.bool (useB K j))) (by rw [useB_1 hK8 (by omega)])) ?_
      refine zab rfl rfl rfl (zad (.inl rfl) (ev1 rfl)) ?_
      refine zag (gd_t rfl rfl rfl) rfl rfl rfl (op_fa rfl fo121_1 (ev1 rfl)) ?_
      refine zag (gd_t rfl rfl rfl) rfl rfl rfl (op_ldm rfl tb118 (ev2 rfl) rfl rfl) ?_
      refine zag (gd_t rfl rfl rfl) rfl rfl rfl (op_ldmw rfl tb115 (ev1 rfl) rfl rfl) ?_
      refine zag (gd_t rfl rfl rfl) rfl rfl rfl (zai [] [0] [] rfl (ev2 rfl) (ec (ev2 rfl) (ec (ev1 rfl) en)) rfl rfl (fit_gen (j := j) (by omega) (usN K) (msN K) _ _ o) rfl rfl rfl rfl rfl rfl) ?_
      refine zag (gd_t rfl rfl rfl) rfl rfl rfl (op_not rfl (ev2 rfl)) ?_
      refine zab rfl rfl rfl (op_and rfl (ev1 rfl) (ev3 rfl id)) ?_
      refine zab rfl rfl rfl (zad (.inl rfl) (ev1 rfl)) ?_
      refine zag (gd_f rfl rfl rfl) rfl rfl rfl (op_fa rfl fo115_0 (ev1 rfl)) ?_
      refine zag (gd_f rfl rfl rfl) rfl rfl rfl (op_ldm rfl tb3 (ev2 rfl) rfl rfl) ?_
      refine zag (gd_f rfl rfl rfl) rfl rfl rfl (zad (.inl rfl) (ev1 rfl)) ?_
      refine zag (gd_f rfl rfl rfl) rfl rfl rfl (op_shr (j) rfl (ev2 rfl) (ev2 rfl) (fun _ => ⟨rfl, by simp [IntKind.bits]; omega⟩)) ?_
      refine zag (gd_f rfl rfl rfl) rfl rfl rfl (op_iand rfl (ev2 rfl) (ev1 rfl)) ?_
      refine zag (gd_f rfl rfl rfl) rfl rfl rfl ((op_eql rfl (ev2 rfl) (ev1 rfl)).cast (d' := .val (.bool (!useB K j))) (by rw [useB_0 hK8 (by omega)])) ?_
      refine zag (gd_f rfl rfl rfl) rfl rfl rfl (zad (.inl rfl) (ev2 rfl)) ?_
      refine zag (gd_tt rfl rfl rfl) rfl rfl rfl (op_fa rfl fo121_2 (ev1 rfl)) ?_
      refine zag (gd_tt rfl rfl rfl) rfl rfl rfl (op_ldm rfl tb91 (ev2 rfl) rfl rfl) ?_
      refine zag (gd_tt rfl rfl rfl) rfl rfl rfl (zai [] [0] [] rfl (ev2 rfl) (ec (ev1 rfl) en) rfl rfl (blk_gen (j := j) (by omega) o) rfl rfl rfl rfl rfl rfl) ?_
      refine zag (gd_tt rfl rfl rfl) rfl rfl rfl (op_not rfl (ev2 rfl)) ?_
      refine zag (gd_f rfl rfl rfl) rfl rfl rfl (op_and rfl (ev2 rfl) (ev2 rfl)) ?_
      refine zab rfl rfl rfl (op_or rfl (ev1 rfl) (ev3 rfl id)) ?_
      refine zae ?_
      refine dwp_cond rfl (fun hc => ?_) (fun hc => ?_)
      · have hbad : okAt K o j = false := okAt_bad hc
        refine zaf ?_
        refine zac ?_
        refine zab rfl rfl rfl (zad (.inr rfl) (ev1 rfl)) ?_
        refine zae ?_
        refine dwp_ret ?_
        refine kend0 (rs1 rfl (rv_t rfl)) rfl ?_
        have hb : opB o = false := by
          cases h : opB o
          · rfl
          · rw [((opB_at hK8 hk).1 h).2 j (by omega)] at hbad
            cases hbad
        rw [hb]
        rfl
      · have hgood : okAt K o j = true := okAt_good hc
        refine dwp_skip ?_
        refine zac ?_
        refine zab rfl rfl rfl (op_add' rfl (ev1 rfl) (ev1 rfl) (fun _ => IntWalk.i64_in _ (by omega))) ?_
        refine zab rfl rfl rfl (zad (.inl rfl) (ev1 rfl)) ?_
        refine zae ?_
        refine ⟨j + 1, [0, 1], ⟨by omega, fun i h => (Nat.lt_succ_iff_lt_or_eq.1 h).elim (he i) fun e => e ▸ hgood⟩, by simp only []; omega, rfl, ⟨rfl, rfl, rfl, rfl, trivial⟩, ⟨rfl, rfl, trivial⟩⟩
    · try simp only [decide_eq_true_eq, decide_eq_false_iff_not, beq_iff_eq, bne_iff_ne, beq_eq_false_iff_ne, bne_eq_false_iff_eq, Bool.not_eq_true', Bool.not_eq_false', Bool.and_eq_true, Bool.or_eq_true, Bool.or_eq_false_iff, ne_eq, Decidable.not_not, Int.not_lt, Int.not_le] at c2
      refine dwp_exit ?_
      refine zaf ?_
      refine zac ?_
      refine zab rfl rfl rfl (zad (.inr rfl) (ev1 rfl)) ?_
      refine zae ?_
      refine dwp_ret ?_
      refine kend0 (rs1 rfl (rv_t rfl)) rfl ?_
      rw [(opB_at hK8 hk).2 ⟨hi, fun i h => he i (by omega)⟩]
      rfl
set_option maxRecDepth 4000 in
set_option maxHeartbeats 1000000 in
theorem opc_no (o : OpM) (hk : ¬ (1 ≤ o.kd ∧ o.kd ≤ 8)) : DFun Tryz.prog 46 [.agg (opD o)] [] (.val (.int .i64 (errOr (opB o) 220))) [] := by
  refine dcalls_go (N := 54) 0 (by kernel_rfl) Tryz.func46 rfl rfl rfl (by simp only [fr0, Nat.zero_add, Nat.reduceAdd]; exact rfl) rfl fun s0 hs0 => ?_
  refine zaf ?_
  refine zah 1 (by simp only [holes, List.cons_append, List.nil_append]; exact rfl) ?_
  refine zac ?_
  refine walk_w rfl rfl rfl (op_boxam 0 rfl (ev1 rfl) rfl) (by simp only [upd, za, zaa]; exact rfl) ?_
  refine zab rfl rfl rfl (zad (.inr rfl) (ev1 rfl)) ?_
  refine zae ?_
  refine zaf ?_
  refine zah 1 (by simp only [holes, List.cons_append, List.nil_append]; exact rfl) ?_
  refine zac ?_
  refine zab rfl rfl rfl (op_fa rfl fo44_1 (ev1 rfl)) ?_
  refine zab rfl rfl rfl (op_ldm rfl tb3 (ev1 rfl) rfl rfl) ?_
  refine zab rfl rfl rfl (zai [] [] [] rfl (ev1 rfl) (ec (ev1 rfl) en) rfl rfl (kindOf_no _ hk) rfl rfl rfl rfl rfl rfl) ?_
  refine zab rfl rfl rfl (zad (.inl rfl) (ev1 rfl)) ?_
  refine zab rfl rfl rfl (op_ext rfl (ev1 rfl) rfl) ?_
  refine zab rfl rfl rfl (op_ext rfl (ev1 rfl) rfl) ?_
  refine walk_w rfl rfl rfl (op_alloc 1 rfl zr115 rfl) (by simp only [upd, za, zaa]; exact rfl) ?_
  refine walk_s rfl rfl (op_stwa rfl tb115 (ev1 rfl) (ev1 rfl) rfl rfl rfl rfl) (by simp only [upd, za, zaa]; exact rfl) ?_
  refine zab rfl rfl rfl (zad (.inr rfl) (ev1 rfl)) ?_
  refine zae ?_
  refine zaf ?_
  refine zaf ?_
  refine zac ?_
  refine zab rfl rfl rfl (zad (.inl rfl) (ev1 rfl)) ?_
  refine zab rfl rfl rfl ((op_not rfl (ev1 rfl)).cast (d' := .val (.bool true)) (by kernel_rfl)) ?_
  refine zab rfl rfl rfl (zad (.inl rfl) (ev1 rfl)) ?_
  refine zag (gd_f (b := true) rfl rfl rfl) rfl rfl rfl (dop_never (d := .junk)) ?_
  refine zag (gd_f (b := true) rfl rfl rfl) rfl rfl rfl (dop_never (d := .junk)) ?_
  refine zag (gd_f (b := true) rfl rfl rfl) rfl rfl rfl (dop_never (d := .junk)) ?_
  refine zag (gd_f (b := true) rfl rfl rfl) rfl rfl rfl (dop_never (d := .val (.bool false))) ?_
  refine zab rfl rfl rfl ((op_or rfl (ev1 rfl) (ev3 rfl id)).cast (d' := .val (.bool true)) (by rfl)) ?_
  refine zae ?_
  refine dwp_if_t rfl (rfl) ?_
  refine zaf ?_
  refine zac ?_
  refine zab rfl rfl rfl (zad (.inr rfl) (ev1 rfl)) ?_
  refine zae ?_
  refine dwp_ret ?_
  refine kend0 (rs1 rfl (rv_t rfl)) rfl ?_
  have hb : opB o = false := by
    unfold opB
    simp
    intros
    omega
  rw [hb]
  rfl
theorem opCheck_d (o : OpM) : DFun Tryz.prog 46 [.agg (opD o)] [] (.val (.int .i64 (errOr (opB o) 220))) [] := by
  by_cases h : 1 ≤ o.kd ∧ o.kd ≤ 8
  · by_cases h6 : o.kd ≤ 6
    · exact opc_lo o o.kd.toNat (by omega) (by omega)
    · exact opc_hi o o.kd.toNat (by omega) (by omega)
  · exact opc_no o h
end Go.Proofs.YtbcnaacgillhcaaGreat
namespace Go.Proofs.YtbcnaacgillhcaaGreat
set_option linter.unusedVariables false
set_option linter.unusedSimpArgs false
open Go.RowKit
def laC (la : Nat → I3) : List Value := idc (la 0) ++ (idc (la 1) ++ (idc (la 2) ++ (idc (la 3) ++ (idc (la 4) ++ (idc (la 5) ++ (idc (la 6) ++ (idc (la 7) ++ idc (la 8))))))))
def zLa : Nat → I3 := fun _ => zI3
theorem laC_len (la : Nat → I3) : (laC la).length = 27 := rfl
theorem laC_q' (la : Nat → I3) : ∀ j, j < 9 → (laC la)[j * 3 + 2]? = some (.int .u64 (la j).q) := lt9 rfl rfl rfl rfl rfl rfl rfl rfl rfl
theorem laC_q {la : Nat → I3} {p j : Nat} (hp : p = j * 3 + 2) (hj : j < 9) : (laC la)[p]? = some (.int .u64 (la j).q) := by rw [hp]; exact laC_q' la j hj
theorem laC_set' (la : Nat → I3) (i : I3) : ∀ j, j < 9 → setL (laC la) (j * 3) (idc i) = laC (upV la j i) := lt9 (by kernel_rfl) (by kernel_rfl) (by kernel_rfl) (by kernel_rfl) (by kernel_rfl) (by kernel_rfl) (by kernel_rfl) (by kernel_rfl) (by kernel_rfl)
theorem laC_set {la : Nat → I3} {i : I3} {p j : Nat} (hp : p = j * 3) (hj : j < 9) : setL (laC la) p (idc i) = laC (upV la j i) := by rw [hp]; exact laC_set' la i j hj
theorem laC_congr {a b : Nat → I3} (h : ∀ i, i < 9 → a i = b i) : laC a = laC b := by
  unfold laC
  rw [h 0 (by omega), h 1 (by omega), h 2 (by omega), h 3 (by omega), h 4 (by omega), h 5 (by omega), h 6 (by omega), h 7 (by omega), h 8 (by omega)]
/-- a log -/
structure LogM where
  fo : Nat
  bs : Vec
  ops : List OpM
def logL (fo : Nat) (bs : Vec) (d : D) : List D := [.val (.int .u64 fo), .val (.int .u64 (bs 0)), .val (.int .u64 (bs 1)), .val (.int .u64 (bs 2)), .val (.int .u64 (bs 3)), .val (.int .u64 (bs 4)), .val (.int .u64 (bs 5)), .val (.int .u64 (bs 6)), .val (.int .u64 (bs 7)), .val (.int .u64 (bs 8)), d]
abbrev opsD (l : List OpM) : D := .slm 19 l.length (l.flatMap opD)
def logD (l : LogM) : List D := logL l.fo l.bs (opsD l.ops)
def la0 (fo : Nat) (bs : Vec) : Nat → I3 := fun i => ⟨fo, i, bs i⟩
def stepE (fo : Nat) (s : (Nat → I3) × I3) (o : OpM) : Option ((Nat → I3) × I3) :=
  if (opB o && lessR s.2 o.id && decide ((fo : Int) < o.id.t) && decide (o.id.q = (s.1 o.id.s.toNat).q + 1)) = true then some (upV s.1 o.id.s.toNat o.id, o.id) else none
def endE (fo : Nat) : (Nat → I3) × I3 → List OpM → Option ((Nat → I3) × I3)
  | s, [] => some s
  | s, o :: l => (stepE fo s o).bind fun s' => endE fo s' l
def endR (l : LogM) : (Nat → I3) × Int := if (decide (l.fo ≤ LAST) && vB l.bs) = true then (match endE l.fo (la0 l.fo l.bs, zI3) l.ops with | some s => (s.1, 0) | none => (zLa, 240)) else (zLa, 240)
def logB (l : LogM) : Bool := decide (l.fo ≤ LAST) && vB l.bs && (endE l.fo (la0 l.fo l.bs, zI3) l.ops).isSome
theorem endE_drop {fo : Nat} {s : (Nat → I3) × I3} {l : List OpM} {k : Nat} (h : k < l.length) : endE fo s (l.drop k) = (stepE fo s l[k]).bind fun s' => endE fo s' (l.drop (k + 1)) := by
  rw [List.drop_eq_getElem_cons h]
  rfl
theorem stepE_no {fo : Nat} {s : (Nat → I3) × I3} {o : OpM} (h : (opB o && lessR s.2 o.id && decide ((fo : Int) < o.id.t)) = false) : stepE fo s o = none := by
  unfold stepE
  rw [h, Bool.false_and, if_neg (by decide)]
theorem stepE_gap {fo : Nat} {s : (Nat → I3) × I3} {o : OpM} (h : ¬ o.id.q = (s.1 o.id.s.toNat).q + 1) : stepE fo s o = none := by
  unfold stepE
  rw [decide_eq_false h, Bool.and_false, if_neg (by decide)]
theorem stepE_yes {fo : Nat} {s : (Nat → I3) × I3} {o : OpM} (h : (opB o && lessR s.2 o.id && decide ((fo : Int) < o.id.t)) = true) (h2 : o.id.q = (s.1 o.id.s.toNat).q + 1) : stepE fo s o = some (upV s.1 o.id.s.toNat o.id, o.id) := by
  unfold stepE
  rw [h, decide_eq_true h2]; rfl
theorem opB_id {o : OpM} (h : opB o = true) : mayR o.id = true := by
  unfold opB at h
  simp only [Bool.and_eq_true] at h
  exact h.1.1.1.1.1.1.2
theorem mayR_iff {i : I3} : mayR i = true ↔ (1 ≤ i.t ∧ i.t ≤ 4611686018427387904) ∧ (1 ≤ i.s ∧ i.s ≤ 8) ∧ (1 ≤ i.q ∧ i.q ≤ 4611686018427387904) := by
  unfold mayR isNum isSt
  simp
theorem ends1_t (l : LogM) (h : (decide ((4611686018427387904 : Int) < (l.fo : Int)) || (errOr (vB l.bs) 230 != 0)) = true) : (decide (l.fo ≤ LAST) && vB l.bs) = false := by
  rw [natover, errnz _ (by decide)] at h
  cases h1 : decide (l.fo ≤ LAST) <;> cases h2 : vB l.bs <;> simp_all
theorem ends1_f (l : LogM) (h : (decide ((4611686018427387904 : Int) < (l.fo : Int)) || (errOr (vB l.bs) 230 != 0)) = false) : (decide (l.fo ≤ LAST) && vB l.bs) = true := by
  rw [natover, errnz _ (by decide)] at h
  cases h1 : decide (l.fo ≤ LAST) <;> cases h2 : vB l.bs <;> simp_all
def laTo (fo : Nat) (bs : Vec) (k : Nat) : Nat → I3 := fun i => if i < k then ⟨fo, i, bs i⟩ else zI3
theorem laTo_0 (fo : Nat) (bs : Vec) : laTo fo bs 0 = zLa := by funext i; unfold laTo; rw [if_neg (by omega)]; rfl
theorem laTo_step (fo : Nat) (bs : Vec) (k : Nat) : upV (laTo fo bs k) k ⟨fo, k, bs k⟩ = laTo fo bs (k + 1) := by
  funext i
  unfold upV laTo
  by_cases e : i = k
  · subst e; rw [if_pos rfl, if_pos (by omega)]
  · rw [if_neg e]
    by_cases h2 : i < k
    · rw [if_pos h2, if_pos (by omega)]
    · rw [if_neg h2, if_neg (by omega)]
theorem laTo_9 (fo : Nat) (bs : Vec) : laC (laTo fo bs 9) = laC (la0 fo bs) := laC_congr fun i hi => by unfold laTo la0; rw [if_pos hi]
/-- no number is too great to go on -/
def laOk (la : Nat → I3) : Prop := ∀ i, i < 9 → 0 ≤ (la i).q ∧ (la i).q ≤ 4611686018427387904
theorem laOk_0 {fo : Nat} {bs : Vec} (h : vB bs = true) : laOk (la0 fo bs) := fun i hi => by
  have := (vB_iff.1 h).2 i hi
  exact ⟨Int.natCast_nonneg _, by show ((bs i : Nat) : Int) ≤ _; have : bs i ≤ 4611686018427387904 := this; omega⟩
theorem laOk_up {la : Nat → I3} {j : Nat} {i : I3} (h : laOk la) (hi : mayR i = true) : laOk (upV la j i) := fun k hk => by
  unfold upV
  split
  · have := mayR_iff.1 hi
    omega
  · exact h k hk
theorem ar67 : arE Tryz.prog 67 = some (9, 3) := by kernel_rfl
theorem fo27_0 : fdO Tryz.prog 27 0 = some 0 := by kernel_rfl
theorem fo27_1 : fdO Tryz.prog 27 1 = some 1 := by kernel_rfl
theorem fo27_2 : fdO Tryz.prog 27 2 = some 10 := by kernel_rfl
theorem sl25 : slE Tryz.prog 25 = some (44, 19, 144) := by kernel_rfl
theorem tb25 : tyB Tryz.prog 25 = some (false, 1) := by kernel_rfl
theorem tb27 : tyB Tryz.prog 27 = some (true, 11) := by kernel_rfl
theorem tb44 : tyB Tryz.prog 44 = some (true, 19) := by kernel_rfl
theorem tb67 : tyB Tryz.prog 67 = some (true, 27) := by kernel_rfl
theorem zr44 : zrC Tryz.prog 44 = some [.int .u64 0, .int .i64 0, .int .u64 0, .int .i64 0, .int .i64 0, .int .i64 0, .int .i64 0, .int .i64 0, .int .i64 0, .int .u8 0, .int .u8 0, .int .u8 0, .int .u8 0, .int .i64 0, .int .i64 0, .slice none 0 0, .int .u64 0, .int .i64 0, .int .u64 0] := by kernel_rfl
theorem zr67 : zrC Tryz.prog 67 = some (laC zLa) := by kernel_rfl
theorem endR_none {l : LogM} (h : endE l.fo (la0 l.fo l.bs, zI3) l.ops = none) : endR l = (zLa, 240) := by
  unfold endR
  rw [h]
  split <;> rfl
theorem endR_bad {l : LogM} (h : (decide (l.fo ≤ LAST) && vB l.bs) = false) : endR l = (zLa, 240) := by
  unfold endR
  rw [h, if_neg (by decide)]
theorem endR_some {l : LogM} {s : (Nat → I3) × I3} (hb : (decide (l.fo ≤ LAST) && vB l.bs) = true) (h : endE l.fo (la0 l.fo l.bs, zI3) l.ops = some s) : endR l = (s.1, 0) := by
  unfold endR
  rw [h, hb, if_pos rfl]
theorem endR_errno (l : LogM) : (endR l).2 = errOr (logB l) 240 := by
  unfold endR logB
  cases hb : (decide (l.fo ≤ LAST) && vB l.bs)
  · rfl
  · cases h : endE l.fo (la0 l.fo l.bs, zI3) l.ops <;> rfl
theorem st_t {o : OpM} {ah : I3} {fo : Nat} (h : (((errOr (opB o) 220 != 0) || !lessR ah o.id) || decide (o.id.t ≤ (fo : Int))) = true) : (opB o && lessR ah o.id && decide ((fo : Int) < o.id.t)) = false := by
  rw [errnz _ (by decide)] at h
  cases h1 : opB o <;> cases h2 : lessR ah o.id <;> simp_all
theorem st_f {o : OpM} {ah : I3} {fo : Nat} (h : (((errOr (opB o) 220 != 0) || !lessR ah o.id) || decide (o.id.t ≤ (fo : Int))) = false) : (opB o && lessR ah o.id && decide ((fo : Int) < o.id.t)) = true ∧ mayR o.id = true := by
  rw [errnz _ (by decide)] at h
  cases h1 : opB o <;> cases h2 : lessR ah o.id <;> simp_all
  exact opB_id h1
set_option maxRecDepth 4000 in
set_option maxHeartbeats 1000000 in
theorem ends_d (l : LogM) : DFun Tryz.prog 26 [.agg (logD l)] [] (.tup [.val (.agg (laC (endR l).1).toArray), .val (.int .i64 (endR l).2)]) [] := by
  refine dcalls_go (N := 83) 0 (by kernel_rfl) Tryz.func26 rfl rfl rfl (by simp only [fr0, Nat.zero_add, Nat.reduceAdd]; exact rfl) rfl fun s0 hs0 => ?_
  refine zaf ?_
  refine zah 2 (by simp only [holes, List.cons_append, List.nil_append]; exact rfl) ?_
  refine zac ?_
  refine walk_w rfl rfl rfl (op_boxam 0 rfl (ev1 rfl) rfl) (by simp only [upd, za, zaa]; exact rfl) ?_
  refine walk_w rfl rfl rfl (op_alloc 1 rfl zr67 rfl) (by simp only [upd, za, zaa]; exact rfl) ?_
  refine zab rfl rfl rfl (zad (.inr rfl) (ev1 rfl)) ?_
  refine zae ?_
  refine zaf ?_
  refine zaf ?_
  refine zac ?_
  refine zab rfl rfl rfl (op_fa rfl fo27_0 (ev1 rfl)) ?_
  refine zab rfl rfl rfl (op_ldm rfl tb22 (ev1 rfl) rfl rfl) ?_
  refine zab rfl rfl rfl (op_gtr rfl (ev1 rfl) (ev1 rfl)) ?_
  refine zab rfl rfl rfl (zad (.inl rfl) (ev1 rfl)) ?_
  refine zag (gd_f rfl rfl rfl) rfl rfl rfl (op_fa rfl fo27_1 (ev1 rfl)) ?_
  refine zag (gd_f rfl rfl rfl) rfl rfl rfl (op_ldmv (R := [_, _, _, _, _, _, _, _, _]) rfl tb24 (ev2 rfl) rfl rfl rfl) ?_
  refine zag (gd_f rfl rfl rfl) rfl rfl rfl (zai [] [] [] rfl (ev1 rfl) (ec (ev2 rfl) en) rfl rfl (vCheck_d l.bs) rfl rfl rfl rfl rfl rfl) ?_
  refine zag (gd_f rfl rfl rfl) rfl rfl rfl (op_neq rfl (ev2 rfl) (ev1 rfl)) ?_
  refine zab rfl rfl rfl (op_or rfl (ev1 rfl) (ev3 rfl id)) ?_
  refine zae ?_
  refine dwp_cond rfl (fun c1 => ?_) (fun c1 => ?_)
  · have hb := ends1_t l c1
    refine zaf ?_
    refine zac ?_
    refine zab rfl rfl rfl (op_build0a rfl ar67 zr67) ?_
    refine walk_s rfl rfl (op_stwa rfl tb67 (ev1 rfl) (ev1 rfl) rfl rfl rfl rfl) (by simp only [upd, za, zaa]; exact rfl) ?_
    refine zab rfl rfl rfl (zad (.inr rfl) (ev1 rfl)) ?_
    refine zae ?_
    refine dwp_ret ?_
    refine kend0 (rs2 rfl (rv_w tb67 rfl rfl (laC_len _)) (rv_t rfl)) rfl ?_
    rw [endR_bad hb]
  · have hb := ends1_f l c1
    have hv : vB l.bs = true := (Bool.and_eq_true _ _ ▸ hb).2
    refine dwp_skip ?_
    refine zaf ?_
    refine zah 1 (by simp only [holes, List.cons_append, List.nil_append]; exact rfl) ?_
    refine zac ?_
    refine walk_w rfl rfl rfl (op_alloc 2 rfl zr67 rfl) (by simp only [upd, za, zaa]; exact rfl) ?_
    refine zae ?_
    refine zaf ?_
    refine zaf ?_
    refine zac ?_
    refine zab rfl rfl rfl (op_fa rfl fo27_1 (ev1 rfl)) ?_
    refine zab rfl rfl rfl (op_ldmv (R := [_, _, _, _, _, _, _, _, _]) rfl tb24 (ev1 rfl) rfl rfl rfl) ?_
    refine zab rfl rfl rfl (zad (.inl rfl) (ev1 rfl)) ?_
    refine zae ?_
    refine dwp_block ?_
    refine dwp_loopS ⟨hs0, rfl⟩ (α := Nat) (fun k => [(22, .val (.int .i64 (k : Int)))]) [(1, _), (2, _), (4, _), (21, _)] (fun k => [(2, .flat 67 (laC (laTo l.fo l.bs k)))]) [_, _, .hole] (fun k => k ≤ 9) (fun k => 9 - k) 0 [0, 1, 2] (by omega) rfl ⟨rfl, rfl, rfl, rfl, trivial⟩ ⟨rfl, trivial⟩ ⟨rfl, rfl, by rw [laTo_0]; rfl, trivial⟩ ?_
    intro k hx
    simp only [upd, za, zaa, List.cons_append, List.nil_append]
    have hk := hx
    refine zaf ?_
    refine zac ?_
    refine zab rfl rfl rfl (op_lss rfl (ev1 rfl) (ev1 rfl)) ?_
    refine zae ?_
    refine zaf ?_
    refine dwp_cond rfl (fun c2 => ?_) (fun c2 => ?_)
    · try simp only [decide_eq_true_eq, decide_eq_false_iff_not, beq_iff_eq, bne_iff_ne, beq_eq_false_iff_ne, bne_eq_false_iff_eq, Bool.not_eq_true', Bool.not_eq_false', Bool.and_eq_true, Bool.or_eq_true, Bool.or_eq_false_iff, ne_eq, Decidable.not_not, Int.not_lt, Int.not_le] at c2
      refine dwp_skip ?_
      refine zaf ?_
      refine dwp_block ?_
      refine zaf ?_
      refine zac ?_
      refine zab rfl rfl rfl (zad (.inl rfl) (ev1 rfl)) ?_
      refine zab rfl rfl rfl (op_ixu (k) rfl aw24 (ev1 rfl) (ev1 rfl) (fun _ => rfl) (by omega) (c9_at l.bs _ (by omega))) ?_
      refine zab rfl rfl rfl (zad (.inr rfl) (ev1 rfl)) ?_
      refine zab rfl rfl rfl (zad (.inr rfl) (ev1 rfl)) ?_
      refine zae ?_
      refine zac ?_
      refine zab rfl rfl rfl (zad (.inl rfl) (ev1 rfl)) ?_
      refine zab rfl rfl rfl (op_fa rfl fo27_0 (ev1 rfl)) ?_
      refine zab rfl rfl rfl (op_ldm rfl tb22 (ev1 rfl) rfl rfl) ?_
      refine zab rfl rfl rfl (zad (.inl rfl) (ev1 rfl)) ?_
      refine zab rfl rfl rfl (zad (.inl rfl) (ev1 rfl)) ?_
      refine zab rfl rfl rfl (op_build (ps := [(0, .tmp 28), (1, .tmp 29), (2, .tmp 30)]) rfl fl37 zr37 (vc (ev1 rfl) (vc (ev1 rfl) (vc (ev1 rfl) vn))) rfl rfl) ?_
      refine zab rfl rfl rfl (op_ixl rfl ar67 (ev1 rfl) (ev1 rfl) (fun _ => by omega)) ?_
      refine walk_s rfl rfl (op_st (C := idc ⟨l.fo, k, l.bs k⟩) rfl tb37 (ev1 rfl) (ev1 rfl) rfl rfl rfl rfl (by simp only [laC_len]; show _ + 3 ≤ _; omega) (laC_set (j := k) (by simp) (by omega))) (by simp only [upd, za, zaa]; exact rfl) ?_
      refine zae ?_
      refine zac ?_
      refine zab rfl rfl rfl (op_add' rfl (ev1 rfl) (ev1 rfl) (fun _ => IntWalk.i64_in _ (by omega))) ?_
      refine zab rfl rfl rfl (zad (.inl rfl) (ev1 rfl)) ?_
      refine zae ?_
      refine ⟨k + 1, [0, 1, 2], by omega, by simp only []; omega, rfl, ⟨rfl, rfl, rfl, rfl, rfl, trivial⟩, ⟨rfl, rfl, by rw [← laTo_step]; rfl, trivial⟩⟩
    · try simp only [decide_eq_true_eq, decide_eq_false_iff_not, beq_iff_eq, bne_iff_ne, beq_eq_false_iff_ne, bne_eq_false_iff_eq, Bool.not_eq_true', Bool.not_eq_false', Bool.and_eq_true, Bool.or_eq_true, Bool.or_eq_false_iff, ne_eq, Decidable.not_not, Int.not_lt, Int.not_le] at c2
      refine dwp_exit ?_
      refine zaf ?_
      have hk9 : k = 9 := by omega
      subst hk9
      rw [laTo_9]
      refine zah 1 (by simp only [holes, List.cons_append, List.nil_append]; exact rfl) ?_
      refine zac ?_
      refine zab rfl rfl rfl (op_build0 rfl fl37 zr37) ?_
      refine walk_w rfl rfl rfl (op_alloc 3 rfl zr37 rfl) (by simp only [upd, za, zaa]; exact rfl) ?_
      refine walk_s rfl rfl (op_stwa rfl tb37 (ev1 rfl) (ev1 rfl) rfl rfl rfl rfl) (by simp only [upd, za, zaa]; exact rfl) ?_
      refine zae ?_
      refine zaf ?_
      refine zaf ?_
      refine zac ?_
      refine zab rfl rfl rfl (op_fa rfl fo27_2 (ev1 rfl)) ?_
      refine zab rfl rfl rfl (op_ldm rfl tb25 (ev1 rfl) rfl rfl) ?_
      refine zab rfl rfl rfl (op_lenm rfl sl25 (ev1 rfl)) ?_
      refine zab rfl rfl rfl (zad (.inl rfl) (ev1 rfl)) ?_
      refine zae ?_
      refine dwp_block ?_
      refine dwp_loopS ⟨hs0, rfl⟩ (α := Nat × (Nat → I3) × I3) (fun x => [(38, .val (.int .i64 (x.1 : Int)))]) [(1, _), (2, _), (4, _), (7, _), (36, _), (37, _)] (fun x => [(2, .flat 67 (laC x.2.1)), (3, .flat 37 (idc x.2.2))]) [_, _, .hole, .hole] (fun x => x.1 ≤ l.ops.length ∧ endE l.fo (la0 l.fo l.bs, zI3) l.ops = endE l.fo x.2 (l.ops.drop x.1) ∧ laOk x.2.1) (fun x => l.ops.length - x.1) (0, la0 l.fo l.bs, zI3) [0, 1, 2, 3] (⟨by simp, by simp, laOk_0 hv⟩) rfl ⟨rfl, rfl, rfl, rfl, rfl, rfl, trivial⟩ ⟨rfl, trivial⟩ ⟨rfl, rfl, rfl, rfl, trivial⟩ ?_
      intro x hx
      simp only [upd, za, zaa, List.cons_append, List.nil_append]
      obtain ⟨j, la, ah⟩ := x
      obtain ⟨hj, he, hok⟩ := hx
      dsimp only at hj he hok ⊢
      refine zaf ?_
      refine dwp_lenm (t := 36) rfl fun hl36 hL36 => ?_
      refine zac ?_
      refine zab rfl rfl rfl (op_lss rfl (ev1 rfl) (ev1 rfl)) ?_
      refine zae ?_
      refine zaf ?_
      refine dwp_cond rfl (fun c3 => ?_) (fun c3 => ?_)
      · try simp only [decide_eq_true_eq, decide_eq_false_iff_not, beq_iff_eq, bne_iff_ne, beq_eq_false_iff_ne, bne_eq_false_iff_eq, Bool.not_eq_true', Bool.not_eq_false', Bool.and_eq_true, Bool.or_eq_true, Bool.or_eq_false_iff, ne_eq, Decidable.not_not, Int.not_lt, Int.not_le] at c3
        refine dwp_skip ?_
        refine zaf ?_
        refine dwp_block ?_
        refine zaf ?_
        refine zah 1 (by simp only [holes, List.cons_append, List.nil_append]; exact rfl) ?_
        refine zac ?_
        refine zab rfl rfl rfl (op_ixmr (j) (by decide) rfl sl25 (ev1 rfl) (ev1 rfl) (fun _ => rfl) (by omega) (fun _ => rfl)) ?_
        refine zab rfl rfl rfl (op_lddr rfl tb44 (ev1 rfl) rfl rfl) ?_
        refine walk_w rfl rfl rfl (op_alloc 4 rfl zr44 rfl) (by simp only [upd, za, zaa]; exact rfl) ?_
        refine walk_s rfl rfl (op_stam rfl tb44 (ev1 rfl) (ev1 rfl) rfl rfl rfl rfl) (by simp only [upd, za, zaa]; exact rfl) ?_
        refine zae ?_
        refine zaf ?_
        refine zaf ?_
        refine zac ?_
        refine zab rfl rfl rfl (op_ldmw rfl tb44 (ev1 rfl) rfl rfl) ?_
        refine zab rfl rfl rfl (zai [] [] [] rfl (ev1 rfl) (ec (ev1 rfl) en) rfl rfl (opCheck_d _) rfl rfl rfl rfl rfl rfl) ?_
        refine zab rfl rfl rfl (op_neq rfl (ev1 rfl) (ev1 rfl)) ?_
        refine zab rfl rfl rfl (zad (.inl rfl) (ev1 rfl)) ?_
        refine zag (gd_f rfl rfl rfl) rfl rfl rfl (op_ldw rfl tb37 (ev1 rfl) rfl rfl) ?_
        refine zag (gd_f rfl rfl rfl) rfl rfl rfl (op_fa rfl fo44_0 (ev1 rfl)) ?_
        refine zag (gd_f rfl rfl rfl) rfl rfl rfl (op_ldmv (R := [_, _, _]) rfl tb37 (ev2 rfl) rfl rfl rfl) ?_
        refine zag (gd_f rfl rfl rfl) rfl rfl rfl (zai [] [] [] rfl (ev1 rfl) (ec (ev2 rfl) (ec (ev2 rfl) en)) rfl rfl (idLess_d _ _) rfl rfl rfl rfl rfl rfl) ?_
        refine zag (gd_f rfl rfl rfl) rfl rfl rfl (op_not rfl (ev2 rfl)) ?_
        refine zab rfl rfl rfl (op_or rfl (ev1 rfl) (ev3 rfl id)) ?_
        refine zab rfl rfl rfl (zad (.inl rfl) (ev1 rfl)) ?_
        refine zag (gd_f rfl rfl rfl) rfl rfl rfl (op_fa rfl fo44_0 (ev1 rfl)) ?_
        refine zag (gd_f rfl rfl rfl) rfl rfl rfl (op_fa rfl fo37_0 (ev2 rfl)) ?_
        refine zag (gd_f rfl rfl rfl) rfl rfl rfl (op_ldm rfl tb22 (ev2 rfl) rfl rfl) ?_
        refine zag (gd_f rfl rfl rfl) rfl rfl rfl (op_fa rfl fo27_0 (ev1 rfl)) ?_
        refine zag (gd_f rfl rfl rfl) rfl rfl rfl (op_ldm rfl tb22 (ev2 rfl) rfl rfl) ?_
        refine zag (gd_f rfl rfl rfl) rfl rfl rfl (op_leq rfl (ev2 rfl) (ev2 rfl)) ?_
        refine zab rfl rfl rfl (op_or rfl (ev1 rfl) (ev3 rfl id)) ?_
        refine zae ?_
        refine dwp_cond rfl (fun c2 => ?_) (fun c2 => ?_)
        · have hst := st_t c2
          refine zaf ?_
          refine zac ?_
          refine zab rfl rfl rfl (op_build0a rfl ar67 zr67) ?_
          refine walk_s rfl rfl (op_stwa rfl tb67 (ev1 rfl) (ev1 rfl) rfl rfl rfl rfl) (by simp only [upd, za, zaa]; exact rfl) ?_
          refine zab rfl rfl rfl (zad (.inr rfl) (ev1 rfl)) ?_
          refine zae ?_
          refine dwp_ret ?_
          refine kend0 (rs2 rfl (rv_w tb67 rfl rfl (laC_len _)) (rv_t rfl)) rfl ?_
          rw [endR_none (by rw [he, endE_drop (by omega), stepE_no (s := (la, ah)) hst]; rfl)]
        · obtain ⟨hst, hid⟩ := st_f c2
          have hs8 := mayR_iff.1 hid
          have hq0 := hok (l.ops[j]).id.s.toNat (by omega)
          refine dwp_skip ?_
          refine zaf ?_
          refine zaf ?_
          refine dwp_draw [([], []), ([], []), ([4], []), ([], []), ([], []), ([4], []), ([], []), ([], []), ([2], []), ([], []), ([], [])] mixed (by kernel_rfl) ?_
          refine lex_r rfl rfl (op_fa rfl fo44_0 (ev1 rfl)) ?_
          refine lex_r rfl rfl (op_fa rfl fo37_2 (ev1 rfl)) ?_
          refine lex_r rfl rfl (op_ldm rfl tb22 (ev1 rfl) rfl rfl) ?_
          refine lex_r rfl rfl (op_fa rfl fo44_0 (ev1 rfl)) ?_
          refine lex_r rfl rfl (op_fa rfl fo37_1 (ev1 rfl)) ?_
          refine lex_r rfl rfl (op_ldm rfl tb3 (ev1 rfl) rfl rfl) ?_
          refine lex_r rfl rfl (op_ixl rfl ar67 (ev1 rfl) (ev1 rfl) (fun _ => by omega)) ?_
          refine lex_r rfl rfl (op_fa rfl fo37_2 (ev1 rfl)) ?_
          refine lex_r rfl rfl (op_ldo rfl tb22 (ev1 rfl) rfl (laC_q (j := (l.ops[j]).id.s.toNat) (by omega) (by omega))) ?_
          refine lex_r rfl rfl (op_add' rfl (ev1 rfl) (ev1 rfl) (fun _ => IntWalk.u64_in _ (by omega))) ?_
          refine lex_r rfl rfl (op_neq rfl (ev1 rfl) (ev1 rfl)) ?_
          refine lex_nil ?_
          refine dwp_cond rfl (fun c3 => ?_) (fun c3 => ?_)
          · try simp only [decide_eq_true_eq, decide_eq_false_iff_not, beq_iff_eq, bne_iff_ne, beq_eq_false_iff_ne, bne_eq_false_iff_eq, Bool.not_eq_true', Bool.not_eq_false', Bool.and_eq_true, Bool.or_eq_true, Bool.or_eq_false_iff, ne_eq, Decidable.not_not, Int.not_lt, Int.not_le] at c3
            have hq : ¬ (l.ops[j]).id.q = (la (l.ops[j]).id.s.toNat).q + 1 := c3
            refine zaf ?_
            refine zac ?_
            refine zab rfl rfl rfl (op_build0a rfl ar67 zr67) ?_
            refine walk_s rfl rfl (op_stwa rfl tb67 (ev1 rfl) (ev1 rfl) rfl rfl rfl rfl) (by simp only [upd, za, zaa]; exact rfl) ?_
            refine zab rfl rfl rfl (zad (.inr rfl) (ev1 rfl)) ?_
            refine zae ?_
            refine dwp_ret ?_
            refine kend0 (rs2 rfl (rv_w tb67 rfl rfl (laC_len _)) (rv_t rfl)) rfl ?_
            rw [endR_none (by rw [he, endE_drop (by omega), stepE_gap (s := (la, ah)) hq]; rfl)]
          · try simp only [decide_eq_true_eq, decide_eq_false_iff_not, beq_iff_eq, bne_iff_ne, beq_eq_false_iff_ne, bne_eq_false_iff_eq, Bool.not_eq_true', Bool.not_eq_false', Bool.and_eq_true, Bool.or_eq_true, Bool.or_eq_false_iff, ne_eq, Decidable.not_not, Int.not_lt, Int.not_le] at c3
            have hq : (l.ops[j]).id.q = (la (l.ops[j]).id.s.toNat).q + 1 := c3
            refine dwp_skip ?_
            refine dwp_draw [([], []), ([], []), ([4], []), ([], []), ([4], []), ([], []), ([4], []), ([3], [3]), ([], []), ([2], [2])] mixed (by kernel_rfl) ?_
            refine lex_r rfl rfl (op_fa rfl fo44_0 (ev1 rfl)) ?_
            refine lex_r rfl rfl (op_fa rfl fo37_1 (ev1 rfl)) ?_
            refine lex_r rfl rfl (op_ldm rfl tb3 (ev1 rfl) rfl rfl) ?_
            refine lex_r rfl rfl (op_fa rfl fo44_0 (ev1 rfl)) ?_
            refine lex_r rfl rfl (op_ldmv (R := [_, _, _]) rfl tb37 (ev1 rfl) rfl rfl rfl) ?_
            refine lex_r rfl rfl (op_fa rfl fo44_0 (ev1 rfl)) ?_
            refine lex_r rfl rfl (op_ldmv (R := [_, _, _]) rfl tb37 (ev1 rfl) rfl rfl rfl) ?_
            refine lex_s rfl rfl (op_stwa rfl tb37 (ev1 rfl) (ev1 rfl) rfl rfl rfl rfl) rfl (by simp only [upd, za, zaa]; exact rfl) ?_
            refine lex_r rfl rfl (op_ixl rfl ar67 (ev1 rfl) (ev1 rfl) (fun _ => by omega)) ?_
            refine lex_s rfl rfl (op_st (C := idc (l.ops[j]).id) rfl tb37 (ev1 rfl) (ev1 rfl) rfl rfl rfl rfl (by simp only [laC_len]; show _ + 3 ≤ _; omega) (laC_set (j := (l.ops[j]).id.s.toNat) (by omega) (by omega))) rfl (by simp only [upd, za, zaa]; exact rfl) ?_
            refine lex_nil ?_
            refine zac ?_
            refine zab rfl rfl rfl (op_add' rfl (ev1 rfl) (ev1 rfl) (fun _ => IntWalk.i64_in _ (by omega))) ?_
            refine zab rfl rfl rfl (zad (.inl rfl) (ev1 rfl)) ?_
            refine zae ?_
            refine ⟨(j + 1, upV la (l.ops[j]).id.s.toNat (l.ops[j]).id, (l.ops[j]).id), [0, 1, 2, 3], ⟨by omega, by rw [he, endE_drop (by omega), stepE_yes (s := (la, ah)) hst hq]; rfl, laOk_up hok hid⟩, by simp only []; omega, rfl, ⟨rfl, rfl, rfl, rfl, rfl, rfl, rfl, trivial⟩, ⟨rfl, rfl, rfl, rfl, trivial⟩⟩
      · try simp only [decide_eq_true_eq, decide_eq_false_iff_not, beq_iff_eq, bne_iff_ne, beq_eq_false_iff_ne, bne_eq_false_iff_eq, Bool.not_eq_true', Bool.not_eq_false', Bool.and_eq_true, Bool.or_eq_true, Bool.or_eq_false_iff, ne_eq, Decidable.not_not, Int.not_lt, Int.not_le] at c3
        refine dwp_exit ?_
        refine zaf ?_
        refine zac ?_
        refine zab rfl rfl rfl (op_ldw rfl tb67 (ev1 rfl) rfl (laC_len _)) ?_
        refine walk_s rfl rfl (op_stwa rfl tb67 (ev1 rfl) (ev1 rfl) rfl rfl rfl rfl) (by simp only [upd, za, zaa]; exact rfl) ?_
        refine zab rfl rfl rfl (zad (.inr rfl) (ev1 rfl)) ?_
        refine zae ?_
        refine dwp_ret ?_
        refine kend0 (rs2 rfl (rv_w tb67 rfl rfl (laC_len _)) (rv_t rfl)) rfl ?_
        rw [endR_some (s := (la, ah)) hb (by rw [he, List.drop_of_length_le (by omega)]; rfl)]
set_option maxRecDepth 4000 in
set_option maxHeartbeats 1000000 in
theorem lCheck_d (l : LogM) : DFun Tryz.prog 9 [.agg (logD l)] [] (.val (.int .i64 (errOr (logB l) 240))) [] := by
  refine dcalls_go (N := 11) 0 (by kernel_rfl) Tryz.func9 rfl rfl rfl (by simp only [fr0, Nat.zero_add, Nat.reduceAdd]; exact rfl) rfl fun s0 hs0 => ?_
  refine zaf ?_
  refine zah 1 (by simp only [holes, List.cons_append, List.nil_append]; exact rfl) ?_
  refine zac ?_
  refine walk_w rfl rfl rfl (op_boxam 0 rfl (ev1 rfl) rfl) (by simp only [upd, za, zaa]; exact rfl) ?_
  refine zab rfl rfl rfl (zad (.inr rfl) (ev1 rfl)) ?_
  refine zae ?_
  refine zaf ?_
  refine zah 1 (by simp only [holes, List.cons_append, List.nil_append]; exact rfl) ?_
  refine zac ?_
  refine zab rfl rfl rfl (op_ldmw rfl tb27 (ev1 rfl) rfl rfl) ?_
  refine zab rfl rfl rfl (zai [] [] [] rfl (ev1 rfl) (ec (ev1 rfl) en) rfl rfl (ends_d l) rfl rfl rfl rfl rfl rfl) ?_
  refine zab rfl rfl rfl (zad (.inl rfl) (ev1 rfl)) ?_
  refine zab rfl rfl rfl (op_ext rfl (ev1 rfl) rfl) ?_
  refine zab rfl rfl rfl (op_ext rfl (ev1 rfl) rfl) ?_
  refine walk_w rfl rfl rfl (op_alloc 1 rfl zr67 rfl) (by simp only [upd, za, zaa]; exact rfl) ?_
  refine walk_s rfl rfl (op_stwa rfl tb67 (ev1 rfl) (ev1 rfl) rfl rfl rfl rfl) (by simp only [upd, za, zaa]; exact rfl) ?_
  refine zab rfl rfl rfl (zad (.inr rfl) (ev1 rfl)) ?_
  refine zae ?_
  refine zaf ?_
  refine zac ?_
  refine zab rfl rfl rfl (zad (.inl rfl) (ev1 rfl)) ?_
  refine zab rfl rfl rfl (zad (.inr rfl) (ev1 rfl)) ?_
  refine zae ?_
  refine dwp_ret ?_
  refine kend0 (rs1 rfl (rv_t rfl)) rfl ?_
  rw [endR_errno]
end Go.Proofs.YtbcnaacgillhcaaGreat
namespace Go.Proofs.YtbcnaacgillhcaaGreat
set_option linter.unusedVariables false
set_option linter.unusedSimpArgs false
open Go.RowKit
/-- all of a row is copied, whatever an element's size -/
theorem run_copy_all {P : Program} (w : World) (dT sT ty elem : TypeId) (sz b n dCap : Nat) (a : Addr) (sCap : Nat) (cs : List Value)
    (hu : P.underlying dT = some (.slice elem)) (hs : (P.info? elem).map (·.size) = some sz) (hn : cs.length = n * sz)
    (hsrc : ∀ j v, cs[j]? = some v → w.cell? (a.add j) = some v) (hc : ∀ j, j < cs.length → (w.cell? ⟨b, j, none⟩).isSome = true) (hf : ∀ j, j < cs.length → w.frozen? ⟨b, j, none⟩ = false) (h1 : ∀ v ∈ cs, v.oneCell' = true) :
    (Builtin.copy_ #[dT, sT] ty #[.slice (some ⟨b, 0, none⟩) n dCap, .slice (some a) n sCap]).run P w = .ok (goInt n) (w.setCells b 0 cs) := by
  have hl := run_loadCells_list (P := P) w a cs hsrc
  have hst := run_storeCells_cells (P := P) b 0 cs 0 w (by simpa using hc) (by simpa using hf) h1
  cases hq : P.info? elem with
  | none => simp [hq] at hs
  | some i =>
    have hi : i.size = sz := by simpa [hq] using hs
    simp [Builtin.copy_, run_underlying hu, Builtin.lenOf, Builtin.firstCells, sizeOf, typeInfo, hq, hi, ← hn, hl, hst]
theorem run_copy_zero {P : Program} (w : World) (dT sT ty elem : TypeId) (d a : Option Addr) (dCap sCap : Nat) (hu : P.underlying dT = some (.slice elem)) (hs : ((P.info? elem).map (·.size)).isSome = true) :
    (Builtin.copy_ #[dT, sT] ty #[.slice d 0 dCap, .slice a 0 sCap]).run P w = .ok (goInt 0) w := by
  cases hq : P.info? elem with
  | none => simp [hq] at hs
  | some i =>
    have hl : ∀ (x : Addr), (loadCells x 0).run P w = .ok #[] w := fun x => by simpa using run_loadCells_list (P := P) w x [] (by simp)
    cases d <;> cases a <;> simp [Builtin.copy_, run_underlying hu, Builtin.lenOf, Builtin.firstCells, sizeOf, typeInfo, hq, storeCells, hl]
section
variable {P : Program} {pc : Bool} {o : Oper} {F : Fr} {M : List Blk} {T e : TypeId} {by' sz : Nat} {x y : Operand}
/-- make, of elements of any kind: what they hold is not told -/
theorem op_mkx (j n : Nat) {k k' : IntKind} {z z' : Int} {Z : List Value} (ho : o.op = .makeSlice T x y) (hT : slE P T = some (e, sz, by')) (hZ : zrC P e = some Z) (hx : Ev pc F x (.val (.int k z))) (hy : Ev pc F y (.val (.int k' z'))) (hz : pc = true → z = (n : Int)) (hz' : pc = true → z' = (n : Int)) (hj : M[j]? = some .hole) (hb : pc = true → by' * n ≤ 281474976710656 ∧ n ≤ 9223372036854775807) :
    DOp P pc o F M [j] (.arr j) [(j, .arx e sz n (List.replicate (n * sz) .junk))] := by
  intro hp a s hok hops hfp
  obtain ⟨e1, ti, e2, e3, e4⟩ := slE_spec hT
  obtain ⟨ti', zv, q1, q2, q3⟩ := zrC_spec hZ
  rw [e2] at q1
  obtain rfl := Option.some.inj q1
  have h1 := (ev_at hp hx (by simp [ho, Op.operands]) hops).val_eq
  have h2 := (ev_at hp hy (by simp [ho, Op.operands]) hops).val_eq
  rw [hz hp] at h1
  rw [hz' hp] at h2
  obtain ⟨b1, b2⟩ := hb hp
  have hj' : s.M[j]? = some .hole := by rw [hfp j (by simp)]; exact hj
  have hjl : j < s.β.length := by rw [hok.len]; exact (List.getElem?_eq_some_iff.1 hj').1
  have hb3 : (ti.bytes : Int) * (n : Int) ≤ 281474976710656 := by
    have h : ((ti.bytes * n : Nat) : Int) ≤ 281474976710656 := by rw [e4]; omega
    rwa [Int.natCast_mul] at h
  have hrun := run_make (P := P) s.w T e ti zv e1 e2 q2 k k' n n (by omega) (Int.le_refl _) hb3 (by omega)
  simp only [Int.toNat_natCast] at hrun
  have hrow := World.ownsRow_lit (base := 0) (e := e) (size := ti.size) s.w (madeCells zv.cells (n * ti.size)) n (Nat.zero_le _) (by unfold maxLen; omega) (size_madeCells _ _)
  refine dg_step (s' := ⟨s.β.set j (.slice (some ⟨s.w.heap.size, 0, none⟩) n n), s.I, s.M.set j (.arx e sz n (List.replicate (n * sz) .junk)), _⟩) (v := .slice (some ⟨s.w.heap.size, 0, none⟩) n n) ?_ (tr_new hok hj' _ _ _ (by simp) (fun b hb => by cases hb; rfl) (fun b h => Below.heap_alloc _ _ _ h) (fun b hb => by cases hb; simp) (by simp) rfl rfl rfl ⟨_, by rw [← e3]; exact hrow, by simp [size_madeCells, e3], fun p d v g1 g2 => ?_⟩) rfl (.arr (by simp [hjl]))
  · unfold execOp
    simp only [ho, h1, h2]
    exact run_v hrun
  · obtain rfl := List.eq_of_mem_replicate (List.mem_of_getElem? g1)
    exact .junk _
/-- make, of length 0 -/
theorem op_mk0x (j n : Nat) {k k' : IntKind} {z z' : Int} {Z : List Value} (ho : o.op = .makeSlice T x y) (hT : slE P T = some (e, sz, by')) (hZ : zrC P e = some Z) (hx : Ev pc F x (.val (.int k z))) (hy : Ev pc F y (.val (.int k' z'))) (hz : pc = true → z = 0) (hz' : pc = true → z' = (n : Int)) (hj : M[j]? = some .hole) (hb : pc = true → by' * n ≤ 281474976710656 ∧ n ≤ 9223372036854775807) :
    DOp P pc o F M [j] (.arr j) [(j, .arx e sz 0 [])] := by
  intro hp a s hok hops hfp
  obtain ⟨e1, ti, e2, e3, e4⟩ := slE_spec hT
  obtain ⟨ti', zv, q1, q2, q3⟩ := zrC_spec hZ
  rw [e2] at q1
  obtain rfl := Option.some.inj q1
  have h1 := (ev_at hp hx (by simp [ho, Op.operands]) hops).val_eq
  have h2 := (ev_at hp hy (by simp [ho, Op.operands]) hops).val_eq
  rw [hz hp] at h1
  rw [hz' hp] at h2
  obtain ⟨b1, b2⟩ := hb hp
  have hj' : s.M[j]? = some .hole := by rw [hfp j (by simp)]; exact hj
  have hjl : j < s.β.length := by rw [hok.len]; exact (List.getElem?_eq_some_iff.1 hj').1
  have hb3 : (ti.bytes : Int) * (n : Int) ≤ 281474976710656 := by
    have h : ((ti.bytes * n : Nat) : Int) ≤ 281474976710656 := by rw [e4]; omega
    rwa [Int.natCast_mul] at h
  have hrun := run_make (P := P) s.w T e ti zv e1 e2 q2 k k' 0 n (Int.le_refl _) (by omega) hb3 (by omega)
  simp only [Int.toNat_natCast, Int.toNat_zero] at hrun
  have hrow := World.ownsRow_made (base := 0) (e := e) (size := ti.size) s.w (madeCells zv.cells (n * ti.size)) n (Nat.zero_le _) (by unfold maxLen; omega) (size_madeCells _ _)
  rw [e3] at hrow hrun
  refine dg_step (s' := ⟨s.β.set j (.slice (some ⟨s.w.heap.size, 0, none⟩) 0 n), s.I, s.M.set j (.arx e sz 0 []), _⟩) (v := .slice (some ⟨s.w.heap.size, 0, none⟩) 0 n) ?_ (tr_new hok hj' _ _ _ (by simp) (fun b hb => by cases hb; rfl) (fun b h => Below.heap_alloc _ _ _ h) (fun b hb => by cases hb; simp) (by simp) rfl rfl rfl ⟨[], hrow, rfl, fun p d v g1 g2 => by simp at g1⟩) rfl (.arr (by simp [hjl]))
  unfold execOp
  simp only [ho, h1, h2]
  exact run_v hrun
/-- all of a row of one's own is written over by a row that stays -/
theorem op_cpx {T2 : TypeId} {i n : Nat} {l l2 : List D} (ho : o.op = .call { callee := .builtin .copy, args := #[x, y], argTypes := #[T, T2] }) (hT : slE P T = some (e, sz, by')) (hx : Ev pc F x (.arr i)) (hy : Ev pc F y (.slm sz n l2)) (hM : M[i]? = some (.arx e sz n l)) (h1 : l2.all D.oc2 = true) :
    DOp P pc o F M [i] (.val (.int .i64 (n : Int))) [(i, .arx e sz n l2)] := by
  intro hp a s hok hops hfp
  obtain ⟨e1, ti, e2, e3, e4⟩ := slE_spec hT
  have hr := ev_at hp hx (by simp [ho, Op.operands, Call.operands]) hops
  have hry := ev_at hp hy (by simp [ho, Op.operands, Call.operands]) hops
  have hM' : s.M[i]? = some (.arx e sz n l) := by rw [hfp i (by simp)]; exact hM
  have hs1 : (P.info? e).map (·.size) = some sz := by rw [e2]; simp [e3]
  generalize hv : a.eval x = vx at hr
  generalize hvy : a.eval y = vy at hry
  cases hry with
  | @slm _ _ cap2 a2 _ us hnl2 hl2 hn2 hc2 ha2 hvl2 hel2 hm2 =>
  cases hr with
  | @arr _ ad n' c h =>
    obtain ⟨vs, hk, q3, q4⟩ := hok.blk i _ _ hM' h
    have hlV := hk.1
    have husz : us.length = n * sz := by rw [hvl2, hl2]
    have hoc : ∀ u ∈ us, u.oneCell' = true := fun u hu => by
      obtain ⟨k, hk, rfl⟩ := List.getElem_of_mem hu
      have hk2 : k < l2.length := by omega
      exact oc2_one (hel2 k _ _ (List.getElem?_eq_getElem hk2) (List.getElem?_eq_getElem hk)) (List.all_eq_true.1 h1 _ (List.getElem_mem hk2))
    have same : n = 0 → s.M = upd s.M [(i, .arx e sz n l2)] := fun h0 => by
      have e8 : l2 = l := by
        have a1 : l2.length = 0 := by rw [hl2, h0, Nat.zero_mul]
        have a2 : l.length = 0 := by rw [← q3, hlV, h0, Nat.zero_mul]
        rw [List.eq_nil_of_length_eq_zero a1, List.eq_nil_of_length_eq_zero a2]
      subst e8
      show s.M = s.M.set i _
      have : s.M[i]'((List.getElem?_eq_some_iff.1 hM').1) = .arx e sz n l2 := (List.getElem?_eq_some_iff.1 hM').2
      rw [← this, List.set_getElem_self]
    by_cases h0 : n = 0
    · have hn' : ∃ ad', a.eval x = .slice ad' 0 c := by
        rcases hk.2 with ⟨e1, e2⟩ | ⟨g, cap, cur, e1, _⟩
        · cases e1; exact ⟨_, hv⟩
        · cases e1; rw [h0] at hv; exact ⟨_, hv⟩
      obtain ⟨ad', hv'⟩ := hn'
      have hr := run_copy_zero (P := P) s.w T T2 o.type e ad' a2 c cap2 e1 (by rw [hs1]; rfl)
      subst h0
      exact dg_step (s' := s) (v := goInt 0) (run_builtin ho (fun cs => rfl) (by simpa [hv', hvy] using hr)) (Tr.refl hok) (same rfl) (.val _)
    · rcases hk.2 with ⟨e1', e2'⟩ | ⟨g, cap, cur, e1', e2', e3', e4', e5', e6', e7'⟩
      · exact absurd e2' h0
      · cases e1'
        obtain ⟨ad2, rfl, hcells⟩ : ∃ ad, a2 = some ad ∧ ∀ (j : Nat) u, us[j]? = some u → s.w.cell? (ad.add j) = some u := by
          cases a2 with
          | none => have := ha2 rfl; omega
          | some ad =>
            refine ⟨ad, rfl, fun k u hk => ?_⟩
            rcases hm2 with e | ⟨b, q, e, hI, hcl⟩
            · rw [e] at hvl2
              rw [List.eq_nil_of_length_eq_zero hvl2] at hk
              simp at hk
            · cases e
              rw [Addr.add_mid]
              exact hcl k u hk
        have hcell := cellsAt_block e3' 0
        have hcurlen : cur.toList.length = c * sz := by simpa using e6'
        have hle := Nat.mul_le_mul_right sz e4'
        have hrun := run_copy_all (P := P) s.w T T2 o.type e sz g n c ad2 cap2 us e1 hs1 husz hcells (fun p hp' => by
            have := hcell p _ (by simpa using List.getElem?_eq_getElem (by simp at hcurlen ⊢; omega : p < cur.toList.length))
            rw [Nat.zero_add] at this
            rw [this]; rfl) (fun p hp' => by simp [World.frozen?, e3']) hoc
        have hβ : s.β.set i (.slice (some ⟨g, 0, none⟩) n c) = s.β := by
          apply List.ext_getElem?
          intro k
          by_cases e : i = k
          · subst e; rw [List.getElem?_set_self (List.getElem?_eq_some_iff.1 h).1, h]
          · rw [List.getElem?_set_ne e]
        have lift : ∀ {d : D} {v : Value}, Rep s d v → Rep ⟨s.β.set i (.slice (some ⟨g, 0, none⟩) n c), s.I, s.M.set i (.arx e sz n l2), s.w.setCells g 0 us⟩ d v := by
          intro d v hr
          refine Rep.mono' (s := s) (s' := ⟨s.β.set i (.slice (some ⟨g, 0, none⟩) n c), s.I, s.M.set i (.arx e sz n l2), s.w.setCells g 0 us⟩) (fun k x hk _ => by show (s.β.set i _)[k]? = _; rw [hβ]; exact hk) (fun _ h => h) (fun b' hI => setCells_other g _ _ s.w b' fun e => ?_) hr
          subst e
          exact (hok.lt b' (live_of hM' rfl h rfl)).2 hI
        refine dg_step (s' := ⟨s.β.set i (.slice (some ⟨g, 0, none⟩) n c), s.I, s.M.set i (.arx e sz n l2), s.w.setCells g 0 us⟩) (v := goInt n) (run_builtin ho (fun cs => rfl) (by simpa [hv, hvy] using hrun)) (tr_store hok hM' rfl h rfl _ us ?_) rfl (.val _)
        have hsl := setL_len us cur.toList 0
        refine ⟨us, ⟨husz, .inr ⟨g, c, (setL cur.toList 0 us).toArray, rfl, e2', setCells_block g us _ s.w cur.toList e (by simpa using e3'), e4', e5', by simp [hsl]; simpa using e6', ?_⟩⟩, by rw [hvl2], fun p d v g1 g2 => lift (hel2 p d v g1 g2)⟩
        rw [setL_eq us cur.toList _ (by omega), Nat.zero_add]
        show ((cur.toList.take 0 ++ us ++ cur.toList.drop us.length)).take (n * sz) = us
        rw [List.take_zero, List.nil_append]
        exact List.take_left' husz
/-- the rest of a row that stays, with no room behind it -/
theorem op_sl3dm {α : Type} {mk : α → List D} {r : List α} {T e : TypeId} {sz by' : Nat} {x lo hi mx : Operand} {k k' k'' : IntKind} {h h' h'' : Int} {i : Nat} (ho : o.op = .slice T x (some lo) (some hi) (some mx)) (hT : slE P T = some (e, sz, by')) (hx : Ev pc F x (.slm sz r.length (r.flatMap mk))) (hlo : Ev pc F lo (.val (.int k'' h''))) (hhi : Ev pc F hi (.val (.int k h))) (hmx : Ev pc F mx (.val (.int k' h')))
    (hl : pc = true → h'' = (i : Int)) (hh : pc = true → h = (r.length : Int)) (hm : pc = true → h' = (r.length : Int)) (hi : pc = true → i ≤ r.length) (hmk : ∀ a, (mk a).length = sz) : DOp P pc o F M [] (.slm sz (r.drop i).length ((r.drop i).flatMap mk)) [] := by
  intro hp a s hok hops _
  have hr := ev_at hp hx (by simp [ho, Op.operands]) hops
  have e0 := (ev_at hp hlo (by simp [ho, Op.operands]) hops).val_eq
  have e1 := (ev_at hp hhi (by simp [ho, Op.operands]) hops).val_eq
  have e2 := (ev_at hp hmx (by simp [ho, Op.operands]) hops).val_eq
  rw [hl hp] at e0
  rw [hh hp] at e1
  rw [hm hp] at e2
  have hil := hi hp
  obtain ⟨q1, ti, q2, q3, q4⟩ := slE_spec hT
  have hlen : (r.drop i).length = r.length - i := List.length_drop ..
  have hfl : (r.drop i).flatMap mk = (r.flatMap mk).drop (i * sz) := by rw [flatM_drop hmk]
  generalize hv : a.eval x = vx at hr
  cases hr with
  | @slm _ _ cap ad _ vs hnl hl hn hc ha hvl hel hL =>
    have hrun : (execOp a.eval o).run P s.w = .ok (.value (.slice (if r.length - i = 0 then ad else ad.map (·.add (i * sz))) (r.length - i) (r.length - i))) s.w := by
      unfold execOp
      simp only [ho, hv, Option.map_some, e0, e1, e2]
      refine run_v ?_
      simp [Instr.sliceAt, Instr.slice, run_underlying q1, Sem.run_bind, Instr.sliceBounds, Instr.sliceBound, asIntOf, hn, hil, sizeOf, typeInfo, q2, q3]
      congr 1
      exact propext ⟨fun h => by omega, fun h => by omega⟩
    refine dg_val hok hrun ?_
    rw [hlen, hfl]
    refine .slm (vs := vs.drop (i * sz)) (nlL_drop _ hnl) (by rw [← hfl, flatM_len' hmk, hlen]) (Nat.le_refl _) (by omega) (fun e => ?_) (by simp [hvl]) (fun p d v g1 g2 => ?_) ?_
    · split at e
      · assumption
      · rw [Option.map_eq_none_iff] at e
        have := ha e; omega
    · rw [List.getElem?_drop] at g1 g2
      exact hel _ d v g1 g2
    · rcases hL with hL | ⟨b, q, e, hI, hcl⟩
      · left; rw [hL]; simp
      · by_cases hz : r.length - i = 0
        · left
          rw [← hfl, List.eq_nil_of_length_eq_zero (hlen.trans hz)]; rfl
        · right
          refine ⟨b, q + i * sz, by rw [if_neg hz, e, Option.map_some, Addr.add_mid], hI, ?_⟩
          have h5 := cellsAt_sub hcl (i * sz) vs.length
          rwa [List.take_of_length_le (by rw [List.length_drop]; omega)] at h5
theorem op_stmq {T T' : TypeId} {x y : Operand} {i p : Nat} {rw' : Bool} {d : D} {l l' : List D} (ho : o.op = .store T x y) (hT : tyB P T = some (rw', 1)) (hx : Ev pc F x (.loc i p)) (hy : Ev pc F y d) (h1 : ∀ (s : St) v, Rep s d v → v.cells = #[v] ∧ v.oneCell' = true) (hM : M[i]? = some (.mix T' l)) (hfit : p < l.length) (h : l.set p d = l') : DOp P pc o F M [i] .junk [(i, .mix T' l')] := by
  subst h
  exact op_stm ho hT hx hy h1 hM hfit
end
end Go.Proofs.YtbcnaacgillhcaaGreat
namespace Go.Proofs.YtbcnaacgillhcaaGreat
set_option linter.unusedVariables false
set_option linter.unusedSimpArgs false
open Go.RowKit
section
variable {P : Program} {pc : Bool} {o : Oper} {F : Fr} {M : List Blk}
/-- a struct with rows, into a part of a variable -/
theorem op_stmp {T T' : TypeId} {x y : Operand} {i p k : Nat} {rw' : Bool} {ds l R : List D} (ho : o.op = .store T x y) (hT : tyB P T = some (rw', k)) (hx : Ev pc F x (.loc i p)) (hy : Ev pc F y (.agg ds)) (hM : M[i]? = some (.mix T' l)) (hk : ds.length = k) (hfit : Nat.ble (p + k) l.length = true) (h1 : ds.all D.oc = true) (hR : l.take p ++ ds ++ l.drop (p + k) = R) : DOp P pc o F M [i] .junk [(i, .mix T' R)] := by
  have hfit' := Nat.le_of_ble_eq_true hfit
  subst hR
  intro hp a s hok hops hfp
  have hr := ev_at hp hx (by simp [ho, Op.operands]) hops
  have hry := ev_at hp hy (by simp [ho, Op.operands]) hops
  have hM' : s.M[i]? = some (.mix T' l) := by rw [hfp i (by simp)]; exact hM
  generalize hv : a.eval x = vx at hr
  generalize hvy : a.eval y = vy at hry
  cases hr with
  | @loc _ _ b h =>
    cases hry with
    | @agg _ vs hvl hd =>
      obtain ⟨b', L, e1, e2, e3, e4⟩ := hok.blk i _ _ hM' h
      cases e1
      have hcell := cellsAt_block e2 0
      have hoc : ∀ u ∈ vs, u.oneCell' = true := fun u hu => by
        obtain ⟨j, hj, rfl⟩ := List.getElem_of_mem hu
        have hj2 : j < ds.length := by omega
        exact oc_one (hd j _ _ (List.getElem?_eq_getElem hj2) (List.getElem?_eq_getElem hj)) (List.all_eq_true.1 h1 _ (List.getElem_mem hj2))
      have hrun := run_store (P := P) (w := s.w) (C := vs) ho hT hv hvy rfl (by omega) (fun j hj => by
          have hp' : p + j < L.length := by omega
          have := hcell (p + j) L[p + j] (by simp [hp'])
          rw [Nat.zero_add] at this
          rw [this]; rfl) (fun j hj => by simp [World.frozen?, e2]) hoc
      have hβ : s.β.set i (.pointer (some ⟨b, 0, none⟩)) = s.β := by
        apply List.ext_getElem?
        intro k
        by_cases e : i = k
        · subst e; rw [List.getElem?_set_self (List.getElem?_eq_some_iff.1 h).1, h]
        · rw [List.getElem?_set_ne e]
      refine dg_skip (s' := ⟨s.β.set i (.pointer (some ⟨b, 0, none⟩)), s.I, s.M.set i (.mix T' (l.take p ++ ds ++ l.drop (p + k))), s.w.setCells b p vs⟩) hrun (tr_store hok hM' rfl h rfl p _ ?_) rfl
      have hlen : (l.take p ++ ds ++ l.drop (p + k)).length = l.length := by
        simp only [List.length_append, List.length_take, List.length_drop]
        omega
      refine ⟨b, setL L p vs, rfl, setCells_block b vs p s.w L T' e2, by rw [setL_len, hlen, e3], fun j e v hj hv' => ?_⟩
      have lift : ∀ {e : D} {v : Value}, Rep s e v → Rep ⟨s.β.set i (.pointer (some ⟨b, 0, none⟩)), s.I, s.M.set i (.mix T' (l.take p ++ ds ++ l.drop (p + k))), s.w.setCells b p vs⟩ e v := by
        intro e v hr
        refine Rep.mono' (s := s) (s' := ⟨s.β.set i (.pointer (some ⟨b, 0, none⟩)), s.I, s.M.set i (.mix T' (l.take p ++ ds ++ l.drop (p + k))), s.w.setCells b p vs⟩) (fun k x hk _ => by show (s.β.set i _)[k]? = _; rw [hβ]; exact hk) (fun _ h => h) (fun b' hI => setCells_other b _ p s.w b' fun e => ?_) hr
        subst e
        exact (hok.lt b' (live_of hM' rfl h rfl)).2 hI
      rw [setL_eq vs L p (by omega)] at hv'
      by_cases h1 : j < p
      · rw [List.append_assoc, List.getElem?_append_left (by simp; omega), List.getElem?_take_of_lt h1] at hj hv'
        exact lift (e4 j e v hj hv')
      · rw [List.append_assoc, List.getElem?_append_right (by simp; omega)] at hj hv'
        rw [List.length_take, Nat.min_eq_left (by omega)] at hj hv'
        by_cases h2 : j - p < k
        · rw [List.getElem?_append_left (by omega)] at hj hv'
          exact lift (hd _ e v hj hv')
        · rw [List.getElem?_append_right (by omega), List.getElem?_drop] at hj hv'
          rw [hvl, hk] at hv'
          rw [hk, show p + k + (j - p - k) = j by omega] at hj
          rw [show p + k + (j - p - k) = j by omega] at hv'
          exact lift (e4 j e v hj hv')
end
end Go.Proofs.YtbcnaacgillhcaaGreat
namespace Go.Proofs.YtbcnaacgillhcaaGreat
set_option linter.unusedVariables false
set_option linter.unusedSimpArgs false
open Go.RowKit
def sameO (a b : OpM) : Bool := eqI a.id b.id && (a.kd == b.kd) && (a.x == b.x) && (a.y == b.y) && (a.x2 == b.x2) && (a.y2 == b.y2) && (a.sz == b.sz) && decide (a.co = b.co) && eqI a.tg b.tg && (((a.sw == b.sw) && (a.sh == b.sh)) && decide (a.px = b.px))
theorem sameO_refl (a : OpM) : sameO a a = true := by
  have e : ∀ i : I3, eqI i i = true := fun i => eqI_iff.2 rfl
  unfold sameO
  simp [e]
theorem opD_oc (o : OpM) : (opD o).all D.oc2 = true := rfl
theorem ops_oc (l : List OpM) : (l.flatMap opD).all D.oc2 = true := by
  induction l with
  | nil => rfl
  | cons a l ih => rw [List.flatMap_cons, List.all_append, opD_oc, ih]; rfl
theorem ops_nl2 (l : List OpM) : D.nlL (l.flatMap opD) = true := by
  induction l with
  | nil => rfl
  | cons a l ih => exact ih
def all2 {α : Type} (f : α → α → Bool) : List α → List α → Bool
  | [], [] => true
  | a :: l, b :: r => f a b && all2 f l r
  | _, _ => false
theorem all2_refl {α : Type} {f : α → α → Bool} (h : ∀ a, f a a = true) : ∀ l, all2 f l l = true
  | [] => rfl
  | a :: l => by rw [all2, h, all2_refl h l]; rfl
theorem all2_len {α : Type} {f : α → α → Bool} : ∀ {l r : List α}, l.length ≠ r.length → all2 f l r = false
  | [], [], h => absurd rfl h
  | [], _ :: _, _ => rfl
  | _ :: _, [], _ => rfl
  | a :: l, b :: r, h => by
    rw [all2, all2_len (fun e => h (by rw [List.length_cons, List.length_cons, e])), Bool.and_false]
theorem all2_drop {α : Type} {f : α → α → Bool} {l r : List α} {k : Nat} (h : k < l.length) (h2 : k < r.length) : all2 f (l.drop k) (r.drop k) = (f l[k] r[k] && all2 f (l.drop (k + 1)) (r.drop (k + 1))) := by
  rw [List.drop_eq_getElem_cons h, List.drop_eq_getElem_cons h2, all2]
/-- the first ones of a vector -/
def veTo (v : Vec) (k : Nat) : Vec := fun i => if i < k then v i else 0
theorem veTo_0 (v : Vec) : veTo v 0 = z9 := by funext i; unfold veTo; rw [if_neg (by omega)]; rfl
theorem veTo_step (v : Vec) (k : Nat) : upV (veTo v k) k (v k) = veTo v (k + 1) := by
  funext i
  unfold upV veTo
  by_cases e : i = k
  · subst e; rw [if_pos rfl, if_pos (by omega)]
  · rw [if_neg e]
    by_cases h2 : i < k
    · rw [if_pos h2, if_pos (by omega)]
    · rw [if_neg h2, if_neg (by omega)]
theorem veTo_9 {v : Vec} {k : Nat} (h : 9 ≤ k) : c9 (veTo v k) = c9 v := by
  unfold c9 veTo
  simp only [if_pos (show 0 < k by omega), if_pos (show 1 < k by omega), if_pos (show 2 < k by omega), if_pos (show 3 < k by omega), if_pos (show 4 < k by omega), if_pos (show 5 < k by omega), if_pos (show 6 < k by omega), if_pos (show 7 < k by omega), if_pos (show 8 < k by omega)]
theorem laL_get {la : Nat → I3} {k : Nat} (h : k < 9) : ((List.range 9).map la).getD k zI3 = la k := by
  rw [List.getD, List.getElem?_map, List.getElem?_range h]; rfl
/-- what an operation's pixels are at most -/
theorem opB_px {o : OpM} (h : opB o = true) : o.px.length ≤ 64 := by
  unfold opB at h
  simp only [Bool.and_eq_true] at h
  have h6 := h.1.2
  split at h6
  · unfold stB siD at h6
    simp at h6
    have a2 : o.sw * o.sh ≤ 8 * 8 := Int.mul_le_mul h6.1.1.2 h6.1.2.2 (by omega) (by omega)
    omega
  · simp at h6
    rw [h6.2]
    exact Nat.zero_le _
theorem av67 : arV Tryz.prog 67 = some (9, 3) := by kernel_rfl
theorem fl27 : fdL Tryz.prog 27 = some [(0, 1), (1, 9), (10, 1)] := by kernel_rfl
theorem fl44 : fdL Tryz.prog 44 = some [(0, 3), (3, 1), (4, 1), (5, 1), (6, 1), (7, 1), (8, 1), (9, 4), (13, 3), (16, 3)] := by kernel_rfl
theorem zr27 : zrC Tryz.prog 27 = some [.int .u64 0, .int .u64 0, .int .u64 0, .int .u64 0, .int .u64 0, .int .u64 0, .int .u64 0, .int .u64 0, .int .u64 0, .int .u64 0, .slice none 0 0] := by kernel_rfl
set_option maxRecDepth 4000 in
set_option maxHeartbeats 1000000 in
theorem osame_d (a b : OpM) : DFun Tryz.prog 25 [.agg (opD a), .agg (opD b)] [] (.val (.bool (sameO a b))) [] := by
  refine dcalls_go (N := 73) 0 (by kernel_rfl) Tryz.func25 rfl rfl rfl (by simp only [fr0, Nat.zero_add, Nat.reduceAdd]; exact rfl) rfl fun s0 hs0 => ?_
  refine zaf ?_
  refine zah 2 (by simp only [holes, List.cons_append, List.nil_append]; exact rfl) ?_
  refine zac ?_
  refine walk_w rfl rfl rfl (op_boxam 0 rfl (ev1 rfl) rfl) (by simp only [upd, za, zaa]; exact rfl) ?_
  refine walk_w rfl rfl rfl (op_boxam 1 rfl (ev1 rfl) rfl) (by simp only [upd, za, zaa]; exact rfl) ?_
  refine zab rfl rfl rfl (zad (.inr rfl) (ev1 rfl)) ?_
  refine zae ?_
  refine zaf ?_
  refine zac ?_
  refine zab rfl rfl rfl (op_fa rfl fo44_0 (ev1 rfl)) ?_
  refine zab rfl rfl rfl (op_ldmv (R := [_, _, _]) rfl tb37 (ev1 rfl) rfl rfl rfl) ?_
  refine zab rfl rfl rfl (op_fa rfl fo44_0 (ev1 rfl)) ?_
  refine zab rfl rfl rfl (op_ldmv (R := [_, _, _]) rfl tb37 (ev1 rfl) rfl rfl rfl) ?_
  refine zab rfl rfl rfl (op_eqr eq37 rfl gd37 tb37 (ev1 rfl) (ev1 rfl)) ?_
  refine zab rfl rfl rfl (zad (.inl rfl) (ev1 rfl)) ?_
  refine zag (gd_t rfl rfl rfl) rfl rfl rfl (op_fa rfl fo44_1 (ev1 rfl)) ?_
  refine zag (gd_t rfl rfl rfl) rfl rfl rfl (op_ldm rfl tb3 (ev2 rfl) rfl rfl) ?_
  refine zag (gd_t rfl rfl rfl) rfl rfl rfl (op_fa rfl fo44_1 (ev1 rfl)) ?_
  refine zag (gd_t rfl rfl rfl) rfl rfl rfl (op_ldm rfl tb3 (ev2 rfl) rfl rfl) ?_
  refine zag (gd_t rfl rfl rfl) rfl rfl rfl (op_eql rfl (ev2 rfl) (ev2 rfl)) ?_
  refine zab rfl rfl rfl (op_and rfl (ev1 rfl) (ev3 rfl id)) ?_
  refine zab rfl rfl rfl (zad (.inl rfl) (ev1 rfl)) ?_
  refine zag (gd_t rfl rfl rfl) rfl rfl rfl (op_fa rfl fo44_2 (ev1 rfl)) ?_
  refine zag (gd_t rfl rfl rfl) rfl rfl rfl (op_ldm rfl tb3 (ev2 rfl) rfl rfl) ?_
  refine zag (gd_t rfl rfl rfl) rfl rfl rfl (op_fa rfl fo44_2 (ev1 rfl)) ?_
  refine zag (gd_t rfl rfl rfl) rfl rfl rfl (op_ldm rfl tb3 (ev2 rfl) rfl rfl) ?_
  refine zag (gd_t rfl rfl rfl) rfl rfl rfl (op_eql rfl (ev2 rfl) (ev2 rfl)) ?_
  refine zab rfl rfl rfl (op_and rfl (ev1 rfl) (ev3 rfl id)) ?_
  refine zab rfl rfl rfl (zad (.inl rfl) (ev1 rfl)) ?_
  refine zag (gd_t rfl rfl rfl) rfl rfl rfl (op_fa rfl fo44_3 (ev1 rfl)) ?_
  refine zag (gd_t rfl rfl rfl) rfl rfl rfl (op_ldm rfl tb3 (ev2 rfl) rfl rfl) ?_
  refine zag (gd_t rfl rfl rfl) rfl rfl rfl (op_fa rfl fo44_3 (ev1 rfl)) ?_
  refine zag (gd_t rfl rfl rfl) rfl rfl rfl (op_ldm rfl tb3 (ev2 rfl) rfl rfl) ?_
  refine zag (gd_t rfl rfl rfl) rfl rfl rfl (op_eql rfl (ev2 rfl) (ev2 rfl)) ?_
  refine zab rfl rfl rfl (op_and rfl (ev1 rfl) (ev3 rfl id)) ?_
  refine zab rfl rfl rfl (zad (.inl rfl) (ev1 rfl)) ?_
  refine zag (gd_t rfl rfl rfl) rfl rfl rfl (op_fa rfl fo44_4 (ev1 rfl)) ?_
  refine zag (gd_t rfl rfl rfl) rfl rfl rfl (op_ldm rfl tb3 (ev2 rfl) rfl rfl) ?_
  refine zag (gd_t rfl rfl rfl) rfl rfl rfl (op_fa rfl fo44_4 (ev1 rfl)) ?_
  refine zag (gd_t rfl rfl rfl) rfl rfl rfl (op_ldm rfl tb3 (ev2 rfl) rfl rfl) ?_
  refine zag (gd_t rfl rfl rfl) rfl rfl rfl (op_eql rfl (ev2 rfl) (ev2 rfl)) ?_
  refine zab rfl rfl rfl (op_and rfl (ev1 rfl) (ev3 rfl id)) ?_
  refine zab rfl rfl rfl (zad (.inl rfl) (ev1 rfl)) ?_
  refine zag (gd_t rfl rfl rfl) rfl rfl rfl (op_fa rfl fo44_5 (ev1 rfl)) ?_
  refine zag (gd_t rfl rfl rfl) rfl rfl rfl (op_ldm rfl tb3 (ev2 rfl) rfl rfl) ?_
  refine zag (gd_t rfl rfl rfl) rfl rfl rfl (op_fa rfl fo44_5 (ev1 rfl)) ?_
  refine zag (gd_t rfl rfl rfl) rfl rfl rfl (op_ldm rfl tb3 (ev2 rfl) rfl rfl) ?_
  refine zag (gd_t rfl rfl rfl) rfl rfl rfl (op_eql rfl (ev2 rfl) (ev2 rfl)) ?_
  refine zab rfl rfl rfl (op_and rfl (ev1 rfl) (ev3 rfl id)) ?_
  refine zab rfl rfl rfl (zad (.inl rfl) (ev1 rfl)) ?_
  refine zag (gd_t rfl rfl rfl) rfl rfl rfl (op_fa rfl fo44_6 (ev1 rfl)) ?_
  refine zag (gd_t rfl rfl rfl) rfl rfl rfl (op_ldm rfl tb3 (ev2 rfl) rfl rfl) ?_
  refine zag (gd_t rfl rfl rfl) rfl rfl rfl (op_fa rfl fo44_6 (ev1 rfl)) ?_
  refine zag (gd_t rfl rfl rfl) rfl rfl rfl (op_ldm rfl tb3 (ev2 rfl) rfl rfl) ?_
  refine zag (gd_t rfl rfl rfl) rfl rfl rfl (op_eql rfl (ev2 rfl) (ev2 rfl)) ?_
  refine zab rfl rfl rfl (op_and rfl (ev1 rfl) (ev3 rfl id)) ?_
  refine zab rfl rfl rfl (zad (.inl rfl) (ev1 rfl)) ?_
  refine zag (gd_t rfl rfl rfl) rfl rfl rfl (op_fa rfl fo44_7 (ev1 rfl)) ?_
  refine zag (gd_t rfl rfl rfl) rfl rfl rfl (op_ldmv (R := [_, _, _, _]) rfl tb39 (ev2 rfl) rfl rfl rfl) ?_
  refine zag (gd_t rfl rfl rfl) rfl rfl rfl (op_fa rfl fo44_7 (ev1 rfl)) ?_
  refine zag (gd_t rfl rfl rfl) rfl rfl rfl (op_ldmv (R := [_, _, _, _]) rfl tb39 (ev2 rfl) rfl rfl rfl) ?_
  refine zag (gd_t rfl rfl rfl) rfl rfl rfl (op_eqr eq39 rfl gd39 tb39 (ev2 rfl) (ev2 rfl)) ?_
  refine zab rfl rfl rfl (op_and rfl (ev1 rfl) (ev3 rfl id)) ?_
  refine zab rfl rfl rfl (zad (.inl rfl) (ev1 rfl)) ?_
  refine zag (gd_t rfl rfl rfl) rfl rfl rfl (op_fa rfl fo44_8 (ev1 rfl)) ?_
  refine zag (gd_t rfl rfl rfl) rfl rfl rfl (op_ldmp rfl tb42 (ev2 rfl) rfl rfl rfl) ?_
  refine zag (gd_t rfl rfl rfl) rfl rfl rfl (op_fa rfl fo44_8 (ev1 rfl)) ?_
  refine zag (gd_t rfl rfl rfl) rfl rfl rfl (op_ldmp rfl tb42 (ev2 rfl) rfl rfl rfl) ?_
  refine zag (gd_t rfl rfl rfl) rfl rfl rfl (zai [] [] [] rfl (ev1 rfl) (ec (ev2 rfl) (ec (ev2 rfl) en)) rfl rfl (stSame_d _ _ _ _ _ _) rfl rfl rfl rfl rfl rfl) ?_
  refine zab rfl rfl rfl (op_and rfl (ev1 rfl) (ev3 rfl id)) ?_
  refine zab rfl rfl rfl (zad (.inl rfl) (ev1 rfl)) ?_
  refine zag (gd_t rfl rfl rfl) rfl rfl rfl (op_fa rfl fo44_9 (ev1 rfl)) ?_
  refine zag (gd_t rfl rfl rfl) rfl rfl rfl (op_ldmv (R := [_, _, _]) rfl tb37 (ev2 rfl) rfl rfl rfl) ?_
  refine zag (gd_t rfl rfl rfl) rfl rfl rfl (op_fa rfl fo44_9 (ev1 rfl)) ?_
  refine zag (gd_t rfl rfl rfl) rfl rfl rfl (op_ldmv (R := [_, _, _]) rfl tb37 (ev2 rfl) rfl rfl rfl) ?_
  refine zag (gd_t rfl rfl rfl) rfl rfl rfl (op_eqr eq37 rfl gd37 tb37 (ev2 rfl) (ev2 rfl)) ?_
  refine zab rfl rfl rfl (op_and rfl (ev1 rfl) (ev3 rfl id)) ?_
  refine zab rfl rfl rfl (zad (.inr rfl) (ev1 rfl)) ?_
  refine zae ?_
  refine dwp_ret ?_
  refine kend0 (rs1 rfl (rv_t rfl)) rfl ?_
  rw [D.val.injEq, Value.bool.injEq]
  unfold sameO
  cases h1 : eqI a.id b.id <;> cases h2 : eqI a.tg b.tg <;> simp [Bool.and_assoc]
set_option maxRecDepth 4000 in
set_option maxHeartbeats 1000000 in
theorem equalO (l r : List OpM) : DFun Tryz.prog 24 [.slm 19 l.length (l.flatMap opD), .slm 19 r.length (r.flatMap opD), .fn (.func 25) [] []] [] (.val (.bool (all2 sameO l r))) [] := by
  refine dcalls_go (N := 32) 0 (by kernel_rfl) Tryz.func24 rfl rfl rfl (by simp only [fr0, Nat.zero_add, Nat.reduceAdd]; exact rfl) rfl fun s0 hs0 => ?_
  refine dwp_lenm (t := 0) rfl fun hl0 hL0 => ?_
  refine dwp_lenm (t := 1) rfl fun hl1 hL1 => ?_
  refine zaf ?_
  refine zac ?_
  refine zab rfl rfl rfl (zad (.inr rfl) (ev1 rfl)) ?_
  refine zae ?_
  refine zaf ?_
  refine zaf ?_
  refine zac ?_
  refine zab rfl rfl rfl (zad (.inl rfl) (ev1 rfl)) ?_
  refine zab rfl rfl rfl (op_lenm rfl sl25 (ev1 rfl)) ?_
  refine zab rfl rfl rfl (zad (.inl rfl) (ev1 rfl)) ?_
  refine zab rfl rfl rfl (op_lenm rfl sl25 (ev1 rfl)) ?_
  refine zab rfl rfl rfl (op_neq rfl (ev1 rfl) (ev1 rfl)) ?_
  refine zae ?_
  refine dwp_cond rfl (fun c1 => ?_) (fun c1 => ?_)
  · have hne : all2 sameO l r = false := all2_len (fun e => by rw [e] at c1; simp at c1)
    refine zaf ?_
    refine zac ?_
    refine zab rfl rfl rfl (zad (.inr rfl) (ev1 rfl)) ?_
    refine zae ?_
    refine dwp_ret ?_
    refine kend0 (rs1 rfl (rv_t rfl)) rfl ?_
    rw [hne]
  · have hlen : l.length = r.length := by
      have h := c1
      simp at h
      omega
    refine dwp_skip ?_
    refine zaf ?_
    refine zaf ?_
    refine zac ?_
    refine zab rfl rfl rfl (zad (.inl rfl) (ev1 rfl)) ?_
    refine zab rfl rfl rfl (op_lenm rfl sl25 (ev1 rfl)) ?_
    refine zab rfl rfl rfl (zad (.inl rfl) (ev1 rfl)) ?_
    refine zae ?_
    refine dwp_block ?_
    refine dwp_loopS ⟨hs0, rfl⟩ (α := Nat) (fun k => [(17, .val (.int .i64 (k : Int)))]) [(1, _), (2, _), (15, _), (16, _)] (fun k => []) [] (fun k => k ≤ l.length ∧ all2 sameO l r = all2 sameO (l.drop k) (r.drop k)) (fun k => l.length - k) 0 [] (⟨Nat.zero_le _, rfl⟩) rfl ⟨rfl, rfl, rfl, rfl, trivial⟩ ⟨rfl, trivial⟩ trivial ?_
    intro k hx
    simp only [upd, za, zaa, List.cons_append, List.nil_append]
    obtain ⟨hk, he⟩ := hx
    refine zaf ?_
    refine zac ?_
    refine zab rfl rfl rfl (op_lss rfl (ev1 rfl) (ev1 rfl)) ?_
    refine zae ?_
    refine zaf ?_
    refine dwp_cond rfl (fun c2 => ?_) (fun c2 => ?_)
    · try simp only [decide_eq_true_eq, decide_eq_false_iff_not, beq_iff_eq, bne_iff_ne, beq_eq_false_iff_ne, bne_eq_false_iff_eq, Bool.not_eq_true', Bool.not_eq_false', Bool.and_eq_true, Bool.or_eq_true, Bool.or_eq_false_iff, ne_eq, Decidable.not_not, Int.not_lt, Int.not_le] at c2
      refine dwp_skip ?_
      refine zaf ?_
      refine dwp_block ?_
      refine zaf ?_
      refine zah 1 (by simp only [holes, List.cons_append, List.nil_append]; exact rfl) ?_
      refine zac ?_
      refine zab rfl rfl rfl (zad (.inl rfl) (ev1 rfl)) ?_
      refine zab rfl rfl rfl (op_ixmr (k) (by decide) rfl sl25 (ev1 rfl) (ev1 rfl) (fun _ => rfl) (by omega) (fun _ => rfl)) ?_
      refine zab rfl rfl rfl (op_lddr rfl tb44 (ev1 rfl) rfl rfl) ?_
      refine walk_w rfl rfl rfl (op_alloc 0 rfl zr44 rfl) (by simp only [upd, za, zaa]; exact rfl) ?_
      refine zab rfl rfl rfl (zad (.inr rfl) (ev1 rfl)) ?_
      refine walk_s rfl rfl (op_stam rfl tb44 (ev1 rfl) (ev1 rfl) rfl rfl rfl rfl) (by simp only [upd, za, zaa]; exact rfl) ?_
      refine zae ?_
      refine zaf ?_
      refine zah 1 (by simp only [holes, List.cons_append, List.nil_append]; exact rfl) ?_
      refine zac ?_
      refine zab rfl rfl rfl (zad (.inl rfl) (ev1 rfl)) ?_
      refine zab rfl rfl rfl (zad (.inl rfl) (ev1 rfl)) ?_
      refine zab rfl rfl rfl (op_ixmr (k) (by decide) rfl sl25 (ev1 rfl) (ev1 rfl) (fun _ => rfl) (by omega) (fun _ => rfl)) ?_
      refine zab rfl rfl rfl (op_lddr rfl tb44 (ev1 rfl) rfl rfl) ?_
      refine walk_w rfl rfl rfl (op_alloc 1 rfl zr44 rfl) (by simp only [upd, za, zaa]; exact rfl) ?_
      refine walk_s rfl rfl (op_stam rfl tb44 (ev1 rfl) (ev1 rfl) rfl rfl rfl rfl) (by simp only [upd, za, zaa]; exact rfl) ?_
      refine zae ?_
      refine zaf ?_
      refine zac ?_
      refine zab rfl rfl rfl (zad (.inl rfl) (ev1 rfl)) ?_
      refine zab rfl rfl rfl (op_ldmw rfl tb44 (ev1 rfl) rfl rfl) ?_
      refine zab rfl rfl rfl (op_ldmw rfl tb44 (ev1 rfl) rfl rfl) ?_
      refine zab rfl rfl rfl (zai [] [] [] rfl (ev1 rfl) (ec (ev1 rfl) (ec (ev1 rfl) en)) rfl rfl (osame_d l[k] r[k]) rfl rfl rfl rfl rfl rfl) ?_
      refine zab rfl rfl rfl (op_not rfl (ev1 rfl)) ?_
      refine zae ?_
      refine dwp_cond rfl (fun c2 => ?_) (fun c2 => ?_)
      · have c3 : sameO l[k] r[k] = false := by simpa using c2
        refine zaf ?_
        refine zac ?_
        refine zab rfl rfl rfl (zad (.inr rfl) (ev1 rfl)) ?_
        refine zae ?_
        refine dwp_ret ?_
        refine kend0 (rs1 rfl (rv_t rfl)) rfl ?_
        rw [he, all2_drop (by omega) (by omega), c3]
        rfl
      · have c3 : sameO l[k] r[k] = true := by simpa using c2
        refine dwp_skip ?_
        refine zac ?_
        refine zab rfl rfl rfl (op_add' rfl (ev1 rfl) (ev1 rfl) (fun _ => IntWalk.i64_in _ (by omega))) ?_
        refine zab rfl rfl rfl (zad (.inl rfl) (ev1 rfl)) ?_
        refine zae ?_
        refine ⟨k + 1, [], ⟨by omega, by rw [he, all2_drop (by omega) (by omega), c3, Bool.true_and]⟩, by simp only []; omega, rfl, ⟨rfl, rfl, rfl, rfl, rfl, trivial⟩, trivial⟩
    · try simp only [decide_eq_true_eq, decide_eq_false_iff_not, beq_iff_eq, bne_iff_ne, beq_eq_false_iff_ne, bne_eq_false_iff_eq, Bool.not_eq_true', Bool.not_eq_false', Bool.and_eq_true, Bool.or_eq_true, Bool.or_eq_false_iff, ne_eq, Decidable.not_not, Int.not_lt, Int.not_le] at c2
      refine dwp_exit ?_
      refine zaf ?_
      refine zac ?_
      refine zab rfl rfl rfl (zad (.inr rfl) (ev1 rfl)) ?_
      refine zae ?_
      refine dwp_ret ?_
      refine kend0 (rs1 rfl (rv_t rfl)) rfl ?_
      rw [he, List.drop_of_length_le (by omega), List.drop_of_length_le (by omega)]
      rfl
set_option maxRecDepth 4000 in
set_option maxHeartbeats 1000000 in
theorem cloneC (l : List C4) (h : l.length ≤ 2000000) : DFun Tryz.prog 41 [.slf 4 l.length (l.flatMap c4)] [] (.arr 0) [.arr 39 4 l.length (l.flatMap c4)] := by
  refine dcalls_go (N := 8) 0 (by kernel_rfl) Tryz.func41 rfl rfl rfl (by simp only [fr0, Nat.zero_add, Nat.reduceAdd]; exact rfl) rfl fun s0 hs0 => ?_
  refine dwp_len (t := 0) rfl fun hl0 hL0 => ?_
  refine zaf ?_
  refine zac ?_
  refine zab rfl rfl rfl (zad (.inr rfl) (ev1 rfl)) ?_
  refine zae ?_
  refine zaf ?_
  refine zaf ?_
  refine zac ?_
  refine zab rfl rfl rfl (zad (.inl rfl) (ev1 rfl)) ?_
  refine walk_nil? rfl rfl rfl rfl sl40 (ev1 rfl) fun nb4 hnb4 => ?_
  refine zae ?_
  refine dwp_cond rfl (fun c1 => ?_) (fun c1 => ?_)
  · try simp only [decide_eq_true_eq, decide_eq_false_iff_not, beq_iff_eq, bne_iff_ne, beq_eq_false_iff_ne, bne_eq_false_iff_eq, Bool.not_eq_true', Bool.not_eq_false', Bool.and_eq_true, Bool.or_eq_true, Bool.or_eq_false_iff, ne_eq, Decidable.not_not, Int.not_lt, Int.not_le] at c1
    refine zaf ?_
    refine zac ?_
    refine zab rfl rfl rfl (zad (.inr rfl) (ev1 rfl)) ?_
    refine zae ?_
    refine dwp_adopt 2 39 4 rfl rfl rfl ?_
    refine dwp_ret ?_
    refine kend [0] (rs1 rfl (rv_t rfl)) rfl rfl ?_ ⟨?_, trivial⟩
    rfl
    exact (by obtain ⟨h1, h2⟩ := hnb4 c1; simp_all [MFits, vwB])
  · try simp only [decide_eq_true_eq, decide_eq_false_iff_not, beq_iff_eq, bne_iff_ne, beq_eq_false_iff_ne, bne_eq_false_iff_eq, Bool.not_eq_true', Bool.not_eq_false', Bool.and_eq_true, Bool.or_eq_true, Bool.or_eq_false_iff, ne_eq, Decidable.not_not, Int.not_lt, Int.not_le] at c1
    refine dwp_skip ?_
    refine zaf ?_
    refine zah 2 (by simp only [holes, List.cons_append, List.nil_append]; exact rfl) ?_
    refine zac ?_
    refine walk_w rfl rfl rfl (op_bsa (ps := []) 0 rfl sl40 zr39 rfl vn rfl (by decide) (by decide) rfl) (by simp only [upd, za, zaa]; exact rfl) ?_
    refine zab rfl rfl rfl (zad (.inl rfl) (ev1 rfl)) ?_
    refine walk_w rfl rfl rfl (op_app (j := 1) rfl sl40 zr39 rfl (ev1 rfl) (ev1 rfl) src_slf rfl rfl (fun _ => flat_oc (fun _ => rfl) l) (fun _ => ⟨by omega, by omega⟩)) (by simp only [upd, za, zaa]; exact rfl) ?_
    refine zab rfl rfl rfl (zad (.inr rfl) (ev1 rfl)) ?_
    refine zae ?_
    refine dwp_ret ?_
    refine kend [1] (rs1 rfl (rv_t rfl)) rfl rfl ?_ ⟨?_, trivial⟩
    rfl
    simp [vwB]
theorem cloneC_f (l : List C4) (h : l.length ≤ 2000000) : DFun Tryz.prog 41 [.slf 4 l.length (l.flatMap c4)] [] (.slf 4 l.length (l.flatMap c4)) [] := freeze (cloneC l h) rfl
set_option maxRecDepth 4000 in
set_option maxHeartbeats 1000000 in
theorem copied_d (o : OpM) (h : o.px.length ≤ 2000000) : DFun Tryz.prog 40 [.agg (opD o)] [] (.agg (opD o)) [] := by
  refine dcalls_go (N := 10) 0 (by kernel_rfl) Tryz.func40 rfl rfl rfl (by simp only [fr0, Nat.zero_add, Nat.reduceAdd]; exact rfl) rfl fun s0 hs0 => ?_
  refine zaf ?_
  refine zah 2 (by simp only [holes, List.cons_append, List.nil_append]; exact rfl) ?_
  refine zac ?_
  refine walk_w rfl rfl rfl (op_boxam 0 rfl (ev1 rfl) rfl) (by simp only [upd, za, zaa]; exact rfl) ?_
  refine walk_w rfl rfl rfl (op_alloc 1 rfl zr44 rfl) (by simp only [upd, za, zaa]; exact rfl) ?_
  refine zae ?_
  refine zaf ?_
  refine zac ?_
  refine zab rfl rfl rfl (op_fa rfl fo44_8 (ev1 rfl)) ?_
  refine zab rfl rfl rfl (op_fa rfl fo42_2 (ev1 rfl)) ?_
  refine zab rfl rfl rfl (op_ldm rfl tb40 (ev1 rfl) rfl rfl) ?_
  refine zab rfl rfl rfl (zai [] [] [] rfl (ev1 rfl) (ec (ev1 rfl) en) rfl rfl (cloneC_f _ h) rfl rfl rfl rfl rfl rfl) ?_
  refine zab rfl rfl rfl (op_fa rfl fo44_8 (ev1 rfl)) ?_
  refine zab rfl rfl rfl (op_fa rfl fo42_2 (ev1 rfl)) ?_
  refine walk_s rfl rfl (op_stm rfl tb40 (ev1 rfl) (ev1 rfl) (fun s v h => by cases h <;> exact ⟨rfl, rfl⟩) rfl (by first | decide | exact Nat.le_of_ble_eq_true rfl | simp)) (by simp only [upd, za, zaa]; exact rfl) ?_
  refine zae ?_
  refine zaf ?_
  refine zac ?_
  refine zab rfl rfl rfl (op_ldmw rfl tb44 (ev1 rfl) rfl rfl) ?_
  refine walk_s rfl rfl (op_stam rfl tb44 (ev1 rfl) (ev1 rfl) rfl rfl rfl rfl) (by simp only [upd, za, zaa]; exact rfl) ?_
  refine zae ?_
  refine dwp_ret ?_
  refine kend0 (rs1 rfl (rv_mw tb44 rfl rfl rfl)) rfl ?_
  rfl
set_option maxRecDepth 4000 in
set_option maxHeartbeats 1000000 in
theorem copies_d (l : List OpM) (hp : ∀ o ∈ l, o.px.length ≤ 2000000) (hl : l.length ≤ 1000000) : DFun Tryz.prog 42 [.slm 19 l.length (l.flatMap opD)] [] (.slm 19 l.length (l.flatMap opD)) [] := by
  refine dcalls_go (N := 26) 0 (by kernel_rfl) Tryz.func42 rfl rfl rfl (by simp only [fr0, Nat.zero_add, Nat.reduceAdd]; exact rfl) rfl fun s0 hs0 => ?_
  refine dwp_lenm (t := 0) rfl fun hl0 hL0 => ?_
  refine zaf ?_
  refine zac ?_
  refine zab rfl rfl rfl (zad (.inr rfl) (ev1 rfl)) ?_
  refine zae ?_
  refine zaf ?_
  refine zah 1 (by simp only [holes, List.cons_append, List.nil_append]; exact rfl) ?_
  refine zac ?_
  refine zab rfl rfl rfl (zad (.inl rfl) (ev1 rfl)) ?_
  refine zab rfl rfl rfl (op_lenm rfl sl25 (ev1 rfl)) ?_
  refine walk_w rfl rfl rfl (op_mkx 0 (l.length) rfl sl25 zr44 (ev1 rfl) (ev1 rfl) (fun _ => rfl) (fun _ => rfl) rfl (fun _ => ⟨by omega, by omega⟩)) (by simp only [upd, za, zaa]; exact rfl) ?_
  refine zab rfl rfl rfl (zad (.inr rfl) (ev1 rfl)) ?_
  refine zae ?_
  refine zaf ?_
  refine zac ?_
  refine zab rfl rfl rfl (zad (.inl rfl) (ev1 rfl)) ?_
  refine zab rfl rfl rfl (zad (.inl rfl) (ev1 rfl)) ?_
  refine walk_w rfl rfl rfl (op_cpx rfl sl25 (ev1 rfl) (ev1 rfl) rfl (ops_oc _)) (by simp only [upd, za, zaa]; exact rfl) ?_
  refine zae ?_
  refine zaf ?_
  refine zaf ?_
  refine zac ?_
  refine zab rfl rfl rfl (zad (.inl rfl) (ev1 rfl)) ?_
  refine zab rfl rfl rfl (op_lenx rfl sl25 (ev1 rfl) rfl) ?_
  refine zab rfl rfl rfl (zad (.inl rfl) (ev1 rfl)) ?_
  refine zae ?_
  refine dwp_block ?_
  refine dwp_loopS ⟨hs0, rfl⟩ (α := Nat) (fun k => [(13, .val (.int .i64 (k : Int)))]) [(3, _), (12, _)] (fun k => [(0, .arx 44 19 (l).length ((l).flatMap opD))]) [.hole] (fun k => k ≤ l.length) (fun k => l.length - k) 0 [0] (Nat.zero_le _) rfl ⟨rfl, rfl, trivial⟩ ⟨rfl, trivial⟩ ⟨arxr_fits rfl rfl (ops_nl2 _), trivial⟩ ?_
  intro k hx
  simp only [upd, za, zaa, List.cons_append, List.nil_append]
  have hk := hx
  refine zaf ?_
  refine zac ?_
  refine zab rfl rfl rfl (op_lss rfl (ev1 rfl) (ev1 rfl)) ?_
  refine zae ?_
  refine zaf ?_
  refine dwp_cond rfl (fun c1 => ?_) (fun c1 => ?_)
  · try simp only [decide_eq_true_eq, decide_eq_false_iff_not, beq_iff_eq, bne_iff_ne, beq_eq_false_iff_ne, bne_eq_false_iff_eq, Bool.not_eq_true', Bool.not_eq_false', Bool.and_eq_true, Bool.or_eq_true, Bool.or_eq_false_iff, ne_eq, Decidable.not_not, Int.not_lt, Int.not_le] at c1
    refine dwp_skip ?_
    refine zaf ?_
    refine dwp_block ?_
    refine zaf ?_
    refine zac ?_
    refine zab rfl rfl rfl (zad (.inl rfl) (ev1 rfl)) ?_
    refine zab rfl rfl rfl (zad (.inr rfl) (ev1 rfl)) ?_
    refine zae ?_
    refine zac ?_
    refine zab rfl rfl rfl (zad (.inl rfl) (ev1 rfl)) ?_
    refine zab rfl rfl rfl (zad (.inl rfl) (ev1 rfl)) ?_
    refine zab rfl rfl rfl (zad (.inl rfl) (ev1 rfl)) ?_
    refine zab rfl rfl rfl (zad (.inl rfl) (ev1 rfl)) ?_
    refine zab rfl rfl rfl (op_ixx (k) rfl sl25 (ev1 rfl) (ev1 rfl) rfl (fun _ => rfl) (fun _ => by omega)) ?_
    refine zab rfl rfl rfl (op_ldxr (j := k) rfl tb44 (ev1 rfl) rfl (fun _ => rfl) (by omega)) ?_
    refine zab rfl rfl rfl (zai [] [] [] rfl (ev1 rfl) (ec (ev1 rfl) en) rfl rfl (copied_d l[k] (hp _ (List.getElem_mem _))) rfl rfl rfl rfl rfl rfl) ?_
    refine zab rfl rfl rfl (op_ixx (k) rfl sl25 (ev1 rfl) (ev1 rfl) rfl (fun _ => rfl) (fun _ => by omega)) ?_
    refine walk_s rfl rfl (op_stxr (j := k) (q := l[k]) rfl tb44 (ev1 rfl) (ev1 rfl) rfl (fun _ => rfl) (by omega) rfl) (by simp only [upd, za, zaa]; exact rfl) ?_
    refine zae ?_
    refine zac ?_
    refine zab rfl rfl rfl (op_add' rfl (ev1 rfl) (ev1 rfl) (fun _ => IntWalk.i64_in _ (by omega))) ?_
    refine zab rfl rfl rfl (zad (.inl rfl) (ev1 rfl)) ?_
    refine zae ?_
    refine ⟨k + 1, [0], by omega, by simp only []; omega, rfl, ⟨rfl, rfl, rfl, trivial⟩, ⟨arxr_fits rfl (by rw [List.set_getElem_self]) (ops_nl2 _), trivial⟩⟩
  · try simp only [decide_eq_true_eq, decide_eq_false_iff_not, beq_iff_eq, bne_iff_ne, beq_eq_false_iff_ne, bne_eq_false_iff_eq, Bool.not_eq_true', Bool.not_eq_false', Bool.and_eq_true, Bool.or_eq_true, Bool.or_eq_false_iff, ne_eq, Decidable.not_not, Int.not_lt, Int.not_le] at c1
    refine dwp_exit ?_
    refine zaf ?_
    refine dwp_give 3 (ops_nl2 _) rfl rfl (by simp only [za, zaa]; exact rfl) ?_
    refine zac ?_
    refine zab rfl rfl rfl (zad (.inl rfl) (ev1 rfl)) ?_
    refine zab rfl rfl rfl (zad (.inr rfl) (ev1 rfl)) ?_
    refine zae ?_
    refine dwp_ret ?_
    refine kend0 (rs1 rfl (rv_t rfl)) rfl ?_
    rfl
set_option maxRecDepth 4000 in
set_option maxHeartbeats 1000000 in
theorem numbers_d (la : Nat → I3) (v : Vec) (h : ∀ i, i < 9 → (la i).q = (v i : Int)) : DFun Tryz.prog 27 [.val (.agg (laC la).toArray)] [] (.val (.agg (c9 v).toArray)) [] := by
  refine dcalls_go (N := 17) 0 (by kernel_rfl) Tryz.func27 rfl rfl rfl (by simp only [fr0, Nat.zero_add, Nat.reduceAdd]; exact rfl) rfl fun s0 hs0 => ?_
  refine zaf ?_
  refine zah 2 (by simp only [holes, List.cons_append, List.nil_append]; exact rfl) ?_
  refine zac ?_
  refine walk_w rfl rfl rfl (op_boxa 0 rfl (ev1 rfl) rfl) (by simp only [upd, za, zaa]; exact rfl) ?_
  refine walk_w rfl rfl rfl (op_alloc 1 rfl zr24 rfl) (by simp only [upd, za, zaa]; exact rfl) ?_
  refine zae ?_
  refine zaf ?_
  refine zah 1 (by simp only [holes, List.cons_append, List.nil_append]; exact rfl) ?_
  refine zac ?_
  refine walk_w rfl rfl rfl (op_alloc 2 rfl zr24 rfl) (by simp only [upd, za, zaa]; exact rfl) ?_
  refine zae ?_
  refine zaf ?_
  refine zaf ?_
  refine zac ?_
  refine zab rfl rfl rfl (op_ldw rfl tb67 (ev1 rfl) rfl (laC_len _)) ?_
  refine zab rfl rfl rfl (zad (.inl rfl) (ev1 rfl)) ?_
  refine zae ?_
  refine dwp_block ?_
  refine dwp_loopS ⟨hs0, rfl⟩ (α := Nat) (fun k => [(7, .val (.int .i64 (k : Int)))]) [(2, _), (3, _), (6, _)] (fun k => [(2, .flat 24 (c9 (veTo v k)))]) [_, _, .hole] (fun k => k ≤ 9) (fun k => 9 - k) 0 [0, 1, 2] (by omega) rfl ⟨rfl, rfl, rfl, trivial⟩ ⟨rfl, trivial⟩ ⟨rfl, rfl, by rw [veTo_0]; rfl, trivial⟩ ?_
  intro k hx
  simp only [upd, za, zaa, List.cons_append, List.nil_append]
  have hk := hx
  refine zaf ?_
  refine zac ?_
  refine zab rfl rfl rfl (op_lss rfl (ev1 rfl) (ev1 rfl)) ?_
  refine zae ?_
  refine zaf ?_
  refine dwp_cond rfl (fun c1 => ?_) (fun c1 => ?_)
  · try simp only [decide_eq_true_eq, decide_eq_false_iff_not, beq_iff_eq, bne_iff_ne, beq_eq_false_iff_ne, bne_eq_false_iff_eq, Bool.not_eq_true', Bool.not_eq_false', Bool.and_eq_true, Bool.or_eq_true, Bool.or_eq_false_iff, ne_eq, Decidable.not_not, Int.not_lt, Int.not_le] at c1
    refine dwp_skip ?_
    refine zaf ?_
    refine dwp_block ?_
    refine zaf ?_
    refine zah 1 (by simp only [holes, List.cons_append, List.nil_append]; exact rfl) ?_
    refine zac ?_
    refine zab rfl rfl rfl (zad (.inl rfl) (ev1 rfl)) ?_
    refine zab rfl rfl rfl ((op_ixv (en := idc) (l := (List.range 9).map la) (j := k) zI3 rfl av67 (ev1 rfl) (ev1 rfl) (fun _ => rfl) (fun _ => by omega) rfl (fun _ => rfl)).cast (d' := .val (.agg (idc ⟨(la k).t, (la k).s, (v k : Int)⟩).toArray)) (by rw [laL_get (by omega), ← h k (by omega)])) ?_
    refine walk_w rfl rfl rfl (op_alloc 3 rfl zr37 rfl) (by simp only [upd, za, zaa]; exact rfl) ?_
    refine zab rfl rfl rfl (zad (.inr rfl) (ev1 rfl)) ?_
    refine walk_s rfl rfl (op_stwa rfl tb37 (ev1 rfl) (ev1 rfl) rfl rfl rfl rfl) (by simp only [upd, za, zaa]; exact rfl) ?_
    refine zae ?_
    refine zac ?_
    refine zab rfl rfl rfl (zad (.inl rfl) (ev1 rfl)) ?_
    refine zab rfl rfl rfl (op_fa rfl fo37_2 (ev1 rfl)) ?_
    refine zab rfl rfl rfl (op_ldo rfl tb22 (ev1 rfl) rfl rfl) ?_
    refine zab rfl rfl rfl (op_ixl rfl ar24 (ev1 rfl) (ev1 rfl) (fun _ => by omega)) ?_
    refine walk_s rfl rfl (op_st1 rfl tb22 (ev1 rfl) (ev1 rfl) rfl (by simp [c9_len]; omega) (c9_setp (j := k) (by simp) (by omega))) (by simp only [upd, za, zaa]; exact rfl) ?_
    refine zae ?_
    refine zac ?_
    refine zab rfl rfl rfl (op_add' rfl (ev1 rfl) (ev1 rfl) (fun _ => IntWalk.i64_in _ (by omega))) ?_
    refine zab rfl rfl rfl (zad (.inl rfl) (ev1 rfl)) ?_
    refine zae ?_
    refine ⟨k + 1, [0, 1, 2], by omega, by simp only []; omega, rfl, ⟨rfl, rfl, rfl, rfl, trivial⟩, ⟨rfl, rfl, by rw [← veTo_step]; rfl, trivial⟩⟩
  · try simp only [decide_eq_true_eq, decide_eq_false_iff_not, beq_iff_eq, bne_iff_ne, beq_eq_false_iff_ne, bne_eq_false_iff_eq, Bool.not_eq_true', Bool.not_eq_false', Bool.and_eq_true, Bool.or_eq_true, Bool.or_eq_false_iff, ne_eq, Decidable.not_not, Int.not_lt, Int.not_le] at c1
    refine dwp_exit ?_
    refine zaf ?_
    refine zac ?_
    refine zab rfl rfl rfl (op_ldw rfl tb24 (ev1 rfl) rfl rfl) ?_
    refine walk_s rfl rfl (op_stwa rfl tb24 (ev1 rfl) (ev1 rfl) rfl rfl rfl rfl) (by simp only [upd, za, zaa]; exact rfl) ?_
    refine zae ?_
    refine dwp_ret ?_
    refine kend0 (rs1 rfl (rv_w tb24 rfl rfl rfl)) rfl ?_
    rw [veTo_9 (by omega)]
set_option maxRecDepth 4000 in
set_option maxHeartbeats 1000000 in
theorem new_v : DFun Tryz.prog 15 [] [] (.val (.agg #[.int .u64 0, .int .u64 0, .int .u64 0, .int .u64 0, .int .u64 0, .int .u64 0, .int .u64 0, .int .u64 0, .int .u64 0, .int .u64 0, .slice none 0 0])) [] := by
  refine dcalls_go (N := 2) 0 (by kernel_rfl) Tryz.func15 rfl rfl rfl (by simp only [fr0, Nat.zero_add, Nat.reduceAdd]; exact rfl) rfl fun s0 hs0 => ?_
  refine zaf ?_
  refine zah 1 (by simp only [holes, List.cons_append, List.nil_append]; exact rfl) ?_
  refine zac ?_
  refine walk_w rfl rfl rfl (op_alloc 0 rfl zr27 rfl) (by simp only [upd, za, zaa]; exact rfl) ?_
  refine zae ?_
  refine zaf ?_
  refine zac ?_
  refine zab rfl rfl rfl (op_build0 rfl fl27 zr27) ?_
  refine walk_s rfl rfl (op_stwa rfl tb27 (ev1 rfl) (ev1 rfl) rfl rfl rfl rfl) (by simp only [upd, za, zaa]; exact rfl) ?_
  refine zae ?_
  refine dwp_ret ?_
  refine kend0 (rs1 rfl (rv_w tb27 rfl rfl rfl)) rfl ?_
  rfl
theorem wkNew : Wk (.val (.agg #[.int .u64 0, .int .u64 0, .int .u64 0, .int .u64 0, .int .u64 0, .int .u64 0, .int .u64 0, .int .u64 0, .int .u64 0, .int .u64 0, .slice none 0 0])) (.agg (logD ⟨0, z9, []⟩)) := (Wk.vagg _).trans (Wk.agg ((WkL.cons (Wk.refl _) (WkL.cons (Wk.refl _) (WkL.cons (Wk.refl _) (WkL.cons (Wk.refl _) (WkL.cons (Wk.refl _) (WkL.cons (Wk.refl _) (WkL.cons (Wk.refl _) (WkL.cons (Wk.refl _) (WkL.cons (Wk.refl _) (WkL.cons (Wk.refl _) (WkL.cons (Wk.slm0 19) WkL.nil)))))))))))))
theorem new_d : DFun Tryz.prog 15 [] [] (.agg (logD ⟨0, z9, []⟩)) [] := new_v.wk wkNew
def mkO (t s q : Int) : OpM := ⟨⟨t, s, q⟩, 3, 0, 0, 0, 0, 0, ⟨0, 0, 0, 255⟩, 0, 0, [], zI3⟩
set_option maxRecDepth 4000 in
set_option maxHeartbeats 1000000 in
theorem mark_v (t s q : Int) : DFun Tryz.prog 16 [.val (.int .u64 t), .val (.int .i64 s), .val (.int .u64 q)] [] (.val (.agg #[.int .u64 t, .int .i64 s, .int .u64 q, .int .i64 3, .int .i64 0, .int .i64 0, .int .i64 0, .int .i64 0, .int .i64 0, .int .u8 0, .int .u8 0, .int .u8 0, .int .u8 255, .int .i64 0, .int .i64 0, .slice none 0 0, .int .u64 0, .int .i64 0, .int .u64 0])) [] := by
  refine dcalls_go (N := 13) 0 (by kernel_rfl) Tryz.func16 rfl rfl rfl (by simp only [fr0, Nat.zero_add, Nat.reduceAdd]; exact rfl) rfl fun s0 hs0 => ?_
  refine zaf ?_
  refine zah 1 (by simp only [holes, List.cons_append, List.nil_append]; exact rfl) ?_
  refine zac ?_
  refine walk_w rfl rfl rfl (op_alloc 0 rfl zr44 rfl) (by simp only [upd, za, zaa]; exact rfl) ?_
  refine zae ?_
  refine zaf ?_
  refine zac ?_
  refine zab rfl rfl rfl (zad (.inl rfl) (ev1 rfl)) ?_
  refine zab rfl rfl rfl (zad (.inl rfl) (ev1 rfl)) ?_
  refine zab rfl rfl rfl (zad (.inl rfl) (ev1 rfl)) ?_
  refine zab rfl rfl rfl (op_build (ps := [(0, .tmp 7), (1, .tmp 8), (2, .tmp 9)]) rfl fl37 zr37 (vc (ev1 rfl) (vc (ev1 rfl) (vc (ev1 rfl) vn))) rfl rfl) ?_
  refine zab rfl rfl rfl (op_build (ps := [(3, .const (.int .u8 255))]) rfl fl39 zr39 (vc (ev1 rfl) vn) rfl rfl) ?_
  refine zab rfl rfl rfl (op_build (ps := [(0, .tmp 10), (1, .const (.int .i64 3)), (7, .tmp 11)]) rfl fl44 zr44 (vc (ev1 rfl) (vc (ev1 rfl) (vc (ev1 rfl) vn))) rfl rfl) ?_
  refine walk_s rfl rfl (op_stwa rfl tb44 (ev1 rfl) (ev1 rfl) rfl rfl rfl rfl) (by simp only [upd, za, zaa]; exact rfl) ?_
  refine zae ?_
  refine dwp_ret ?_
  refine kend0 (rs1 rfl (rv_w tb44 rfl rfl rfl)) rfl ?_
  rfl
theorem wkMk (t s q : Int) : Wk (.val (.agg #[.int .u64 t, .int .i64 s, .int .u64 q, .int .i64 3, .int .i64 0, .int .i64 0, .int .i64 0, .int .i64 0, .int .i64 0, .int .u8 0, .int .u8 0, .int .u8 0, .int .u8 255, .int .i64 0, .int .i64 0, .slice none 0 0, .int .u64 0, .int .i64 0, .int .u64 0])) (.agg (opD (mkO t s q))) := (Wk.vagg _).trans (Wk.agg ((WkL.cons (Wk.refl _) (WkL.cons (Wk.refl _) (WkL.cons (Wk.refl _) (WkL.cons (Wk.refl _) (WkL.cons (Wk.refl _) (WkL.cons (Wk.refl _) (WkL.cons (Wk.refl _) (WkL.cons (Wk.refl _) (WkL.cons (Wk.refl _) (WkL.cons (Wk.refl _) (WkL.cons (Wk.refl _) (WkL.cons (Wk.refl _) (WkL.cons (Wk.refl _) (WkL.cons (Wk.refl _) (WkL.cons (Wk.refl _) (WkL.cons (Wk.slf0 4) (WkL.cons (Wk.refl _) (WkL.cons (Wk.refl _) (WkL.cons (Wk.refl _) WkL.nil)))))))))))))))))))))
theorem mark_d (t s q : Int) : DFun Tryz.prog 16 [.val (.int .u64 t), .val (.int .i64 s), .val (.int .u64 q)] [] (.agg (opD (mkO t s q))) [] := (mark_v t s q).wk (wkMk t s q)
end Go.Proofs.YtbcnaacgillhcaaGreat
namespace Go.Proofs.YtbcnaacgillhcaaGreat
set_option linter.unusedVariables false
set_option linter.unusedSimpArgs false
open Go.RowKit
theorem kn107 : knd Tryz.prog 107 = some .u64 := by kernel_rfl
theorem kn3 : knd Tryz.prog 3 = some .i64 := by kernel_rfl
theorem tb96 : tyB Tryz.prog 96 = some (false, 1) := by kernel_rfl
theorem ty107 : (tyB Tryz.prog 107).isSome = true := by kernel_rfl
theorem ty3 : (tyB Tryz.prog 3).isSome = true := by kernel_rfl
set_option maxRecDepth 4000 in
set_option maxHeartbeats 1000000 in
theorem hold_f (x : OpM) (t : Int) : DFun Tryz.prog 44 [.agg (opD x), .loc 0 0] [.flat 22 [.int .u64 t]] (.val (.bool (decide (t < (x).id.t)))) [.flat 22 [.int .u64 t]] := by
  refine dcalls_go (N := 9) 1 (by kernel_rfl) Tryz.func44 rfl rfl rfl (by simp only [fr0, Nat.zero_add, Nat.reduceAdd]; exact rfl) rfl fun s0 hs0 => ?_
  refine zaf ?_
  refine zah 1 (by simp only [holes, List.cons_append, List.nil_append]; exact rfl) ?_
  refine zac ?_
  refine walk_w rfl rfl rfl (op_boxam 1 rfl (ev1 rfl) rfl) (by simp only [upd, za, zaa]; exact rfl) ?_
  refine zab rfl rfl rfl (zad (.inr rfl) (ev1 rfl)) ?_
  refine zae ?_
  refine zaf ?_
  refine zac ?_
  refine zab rfl rfl rfl (op_fa rfl fo44_0 (ev1 rfl)) ?_
  refine zab rfl rfl rfl (op_fa rfl fo37_0 (ev1 rfl)) ?_
  refine zab rfl rfl rfl (op_ldm rfl tb22 (ev1 rfl) rfl rfl) ?_
  refine zab rfl rfl rfl (op_ldo rfl tb22 (ev1 rfl) rfl rfl) ?_
  refine zab rfl rfl rfl (op_gtr rfl (ev1 rfl) (ev1 rfl)) ?_
  refine zab rfl rfl rfl (zad (.inr rfl) (ev1 rfl)) ?_
  refine zae ?_
  refine dwp_ret ?_
  refine kend [0] (rs1 rfl (rv_t rfl)) rfl rfl ?_ ⟨rfl, trivial⟩
  rfl
set_option maxRecDepth 4000 in
set_option maxHeartbeats 1000000 in
theorem pl1_f (l : List OpM) (t : Int) (k : Nat) (hk : k < l.length) : DFun Tryz.prog 58 [.val (.int .i64 (k : Int)), .loc 0 0, .loc 1 0] [.mix 96 [.fn (.func 44) [] [.loc 2 0]], .mix 25 [.slm 19 l.length (l.flatMap opD)], .flat 22 [.int .u64 t]] (.val (.bool (decide (t < (l[k]).id.t)))) [.mix 96 [.fn (.func 44) [] [.loc 2 0]], .mix 25 [.slm 19 l.length (l.flatMap opD)], .flat 22 [.int .u64 t]] := by
  refine dcalls_go (N := 11) 3 (by kernel_rfl) Tryz.func58 rfl rfl rfl (by simp only [fr0, Nat.zero_add, Nat.reduceAdd]; exact rfl) rfl fun s0 hs0 => ?_
  refine zaf ?_
  refine zac ?_
  refine zab rfl rfl rfl (zad (.inr rfl) (ev1 rfl)) ?_
  refine zae ?_
  refine zaf ?_
  refine dwp_draw [([0], []), ([1], []), ([], []), ([], []), ([], []), ([2], [2]), ([], [])] mixed (by kernel_rfl) ?_
  refine lex_r rfl rfl (op_ldm rfl tb96 (ev1 rfl) rfl rfl) ?_
  refine lex_r rfl rfl (op_ldm rfl tb25 (ev1 rfl) rfl rfl) ?_
  refine lex_r rfl rfl (zad (.inl rfl) (ev1 rfl)) ?_
  refine lex_r rfl rfl (op_ixmr (k) (by decide) rfl sl25 (ev1 rfl) (ev1 rfl) (fun _ => rfl) (by omega) (fun _ => rfl)) ?_
  refine lex_r rfl rfl (op_lddr rfl tb44 (ev1 rfl) rfl rfl) ?_
  refine lex_w rfl rfl (zai [2] [] [] rfl (ev1 rfl) (ec (ev1 rfl) en) rfl rfl (hold_f l[k] t) rfl rfl rfl rfl rfl rfl) rfl (by simp only [upd, za, zaa]; exact rfl) ?_
  refine lex_r rfl rfl (zad (.inr rfl) (ev1 rfl)) ?_
  refine lex_nil ?_
  refine dwp_ret ?_
  refine kend [0, 1, 2] (rs1 rfl (rv_t rfl)) rfl rfl ?_ ⟨rfl, rfl, rfl, trivial⟩
  rfl
set_option maxRecDepth 4000 in
set_option maxHeartbeats 1000000 in
theorem search_f (l : List OpM) (t : Int) (p : Nat) (hl : l.length ≤ 1000000) (hp : p ≤ l.length) (hlo : ∀ k (h : k < l.length), k < p → (decide (t < (l[k]).id.t)) = false) (hhi : ∀ k (h : k < l.length), p ≤ k → (decide (t < (l[k]).id.t)) = true) : DFun Tryz.prog 57 [.val (.int .i64 (l.length : Int)), .fn (.func 58) [] [.loc 0 0, .loc 1 0]] [.mix 96 [.fn (.func 44) [] [.loc 2 0]], .mix 25 [.slm 19 l.length (l.flatMap opD)], .flat 22 [.int .u64 t]] (.val (.int .i64 (p : Int))) [.mix 96 [.fn (.func 44) [] [.loc 2 0]], .mix 25 [.slm 19 l.length (l.flatMap opD)], .flat 22 [.int .u64 t]] := by
  refine dcalls_go (N := 26) 3 (by kernel_rfl) Tryz.func57 rfl rfl rfl (by simp only [fr0, Nat.zero_add, Nat.reduceAdd]; exact rfl) rfl fun s0 hs0 => ?_
  refine zaf ?_
  refine zac ?_
  refine zab rfl rfl rfl (zad (.inr rfl) (ev1 rfl)) ?_
  refine zae ?_
  refine zaf ?_
  refine zac ?_
  refine zab rfl rfl rfl (zad (.inl rfl) (ev1 rfl)) ?_
  refine zab rfl rfl rfl (zad (.inr rfl) (ev1 rfl)) ?_
  refine zab rfl rfl rfl (zad (.inr rfl) (ev1 rfl)) ?_
  refine zae ?_
  refine zaf ?_
  refine dwp_block ?_
  refine dwp_loopS ⟨hs0, rfl⟩ (α := Nat × Nat) (fun x => [(5, .val (.int .i64 (x.1 : Int))), (6, .val (.int .i64 (x.2 : Int)))]) [(1, _)] (fun x => []) [_, _, _] (fun x => x.1 ≤ p ∧ p ≤ x.2 ∧ x.2 ≤ l.length) (fun x => x.2 - x.1) (0, l.length) [0, 1, 2] (⟨Nat.zero_le _, hp, Nat.le_refl _⟩) rfl ⟨rfl, trivial⟩ ⟨rfl, rfl, trivial⟩ ⟨rfl, rfl, rfl, trivial⟩ ?_
  intro x hx
  simp only [upd, za, zaa, List.cons_append, List.nil_append]
  obtain ⟨hx1, hx2, hx3⟩ := hx
  refine zaf ?_
  refine zaf ?_
  refine zac ?_
  refine zab rfl rfl rfl (zad (.inl rfl) (ev1 rfl)) ?_
  refine zab rfl rfl rfl (zad (.inl rfl) (ev1 rfl)) ?_
  refine zab rfl rfl rfl (op_lss rfl (ev1 rfl) (ev1 rfl)) ?_
  refine zae ?_
  refine dwp_cond rfl (fun c1 => ?_) (fun c1 => ?_)
  · try simp only [decide_eq_true_eq, decide_eq_false_iff_not, beq_iff_eq, bne_iff_ne, beq_eq_false_iff_ne, bne_eq_false_iff_eq, Bool.not_eq_true', Bool.not_eq_false', Bool.and_eq_true, Bool.or_eq_true, Bool.or_eq_false_iff, ne_eq, Decidable.not_not, Int.not_lt, Int.not_le] at c1
    refine dwp_skip ?_
    refine dwp_block ?_
    refine zaf ?_
    refine zac ?_
    refine zab rfl rfl rfl (zad (.inl rfl) (ev1 rfl)) ?_
    refine zab rfl rfl rfl (zad (.inl rfl) (ev1 rfl)) ?_
    refine zab rfl rfl rfl (op_add' rfl (ev1 rfl) (ev1 rfl) (fun _ => IntWalk.i64_in _ (by omega))) ?_
    refine zab rfl rfl rfl (op_conv' ty3 kn107 rfl (ev1 rfl) (fun _ => IntWalk.u64_in _ (by omega))) ?_
    refine zab rfl rfl rfl (op_shr (1) rfl (ev1 rfl) (ev1 rfl) (fun _ => ⟨rfl, by decide⟩)) ?_
    refine zab rfl rfl rfl ((op_conv' ty107 kn3 rfl (ev1 rfl) (fun _ => IntWalk.i64_in _ (by omega))).cast (d' := .val (.int .i64 ((((x.1 + x.2) / 2) : Nat) : Int))) (by rw [show ((x.1 : Int) + (x.2 : Int)) / 2 ^ 1 = ((((x.1 + x.2) / 2) : Nat) : Int) by omega])) ?_
    refine zab rfl rfl rfl (zad (.inr rfl) (ev1 rfl)) ?_
    refine zae ?_
    refine zaf ?_
    refine zac ?_
    refine zab rfl rfl rfl (zad (.inl rfl) (ev1 rfl)) ?_
    refine zab rfl rfl rfl (zad (.inl rfl) (ev1 rfl)) ?_
    refine walk_w rfl rfl rfl (zai [0, 1, 2] [] [] rfl (ev1 rfl) (ec (ev1 rfl) en) rfl rfl (pl1_f l t ((x.1 + x.2) / 2) (by omega)) rfl rfl rfl rfl rfl rfl) (by simp only [upd, za, zaa]; exact rfl) ?_
    refine zab rfl rfl rfl (op_not rfl (ev1 rfl)) ?_
    refine zae ?_
    refine dwp_cond rfl (fun c2 => ?_) (fun c2 => ?_)
    · have hmp : ((x.1 + x.2) / 2) + 1 ≤ p := by
        rcases Nat.lt_or_ge ((x.1 + x.2) / 2) p with h | h
        · exact h
        · have := hhi ((x.1 + x.2) / 2) (by omega) h
          rw [this] at c2
          cases c2
      refine zac ?_
      refine zab rfl rfl rfl (zad (.inl rfl) (ev1 rfl)) ?_
      refine zab rfl rfl rfl (op_add' rfl (ev1 rfl) (ev1 rfl) (fun _ => IntWalk.i64_in _ (by omega))) ?_
      refine zab rfl rfl rfl (zad (.inr rfl) (ev1 rfl)) ?_
      refine zae ?_
      refine ⟨(((x.1 + x.2) / 2) + 1, x.2), [0, 1, 2], ⟨hmp, hx2, hx3⟩, by simp only []; omega, rfl, ⟨rfl, rfl, rfl, trivial⟩, ⟨rfl, rfl, rfl, trivial⟩⟩
    · have hmp : p ≤ ((x.1 + x.2) / 2) := by
        rcases Nat.lt_or_ge ((x.1 + x.2) / 2) p with h | h
        · have := hlo ((x.1 + x.2) / 2) (by omega) h
          rw [this] at c2
          cases c2
        · exact h
      refine zac ?_
      refine zab rfl rfl rfl (zad (.inl rfl) (ev1 rfl)) ?_
      refine zab rfl rfl rfl (zad (.inr rfl) (ev1 rfl)) ?_
      refine zae ?_
      refine ⟨(x.1, ((x.1 + x.2) / 2)), [0, 1, 2], ⟨hx1, hmp, by omega⟩, by simp only []; omega, rfl, ⟨rfl, rfl, rfl, trivial⟩, ⟨rfl, rfl, rfl, trivial⟩⟩
  · try simp only [decide_eq_true_eq, decide_eq_false_iff_not, beq_iff_eq, bne_iff_ne, beq_eq_false_iff_ne, bne_eq_false_iff_eq, Bool.not_eq_true', Bool.not_eq_false', Bool.and_eq_true, Bool.or_eq_true, Bool.or_eq_false_iff, ne_eq, Decidable.not_not, Int.not_lt, Int.not_le] at c1
    refine dwp_exit ?_
    refine zaf ?_
    refine zac ?_
    refine zab rfl rfl rfl (zad (.inl rfl) (ev1 rfl)) ?_
    refine zab rfl rfl rfl (zad (.inr rfl) (ev1 rfl)) ?_
    refine zae ?_
    refine dwp_ret ?_
    refine kend [0, 1, 2] (rs1 rfl (rv_t rfl)) rfl rfl ?_ ⟨rfl, rfl, rfl, trivial⟩
    obtain rfl : x.1 = p := by omega
    rfl
set_option maxRecDepth 4000 in
set_option maxHeartbeats 1000000 in
theorem place_f (l : List OpM) (t : Int) (p : Nat) (hl : l.length ≤ 1000000) (hp : p ≤ l.length) (hlo : ∀ k (h : k < l.length), k < p → (decide (t < (l[k]).id.t)) = false) (hhi : ∀ k (h : k < l.length), p ≤ k → (decide (t < (l[k]).id.t)) = true) : DFun Tryz.prog 43 [.slm 19 l.length (l.flatMap opD), .fn (.func 44) [] [.loc 0 0]] [.flat 22 [.int .u64 t]] (.val (.int .i64 (p : Int))) [.flat 22 [.int .u64 t]] := by
  refine dcalls_go (N := 9) 1 (by kernel_rfl) Tryz.func43 rfl rfl rfl (by simp only [fr0, Nat.zero_add, Nat.reduceAdd]; exact rfl) rfl fun s0 hs0 => ?_
  refine dwp_lenm (t := 0) rfl fun hl0 hL0 => ?_
  refine zaf ?_
  refine zah 2 (by simp only [holes, List.cons_append, List.nil_append]; exact rfl) ?_
  refine zac ?_
  refine walk_w rfl rfl rfl (op_boxm 1 rfl (ev1 rfl) (fun s v h => by cases h <;> rfl) rfl) (by simp only [upd, za, zaa]; exact rfl) ?_
  refine walk_w rfl rfl rfl (op_boxm 2 rfl (ev1 rfl) (fun s v h => by cases h <;> rfl) rfl) (by simp only [upd, za, zaa]; exact rfl) ?_
  refine zab rfl rfl rfl (zad (.inr rfl) (ev1 rfl)) ?_
  refine zae ?_
  refine zaf ?_
  refine zac ?_
  refine zab rfl rfl rfl (op_ldm rfl tb25 (ev1 rfl) rfl rfl) ?_
  refine zab rfl rfl rfl (op_lenm rfl sl25 (ev1 rfl)) ?_
  refine zab rfl rfl rfl (op_mkf rfl en (ec (ev1 rfl) (ec (ev1 rfl) en))) ?_
  refine walk_w rfl rfl rfl (zai [2, 1, 0] [] [] rfl (ev1 rfl) (ec (ev1 rfl) (ec (ev1 rfl) en)) rfl rfl (search_f l t p hl hp hlo hhi) rfl rfl rfl rfl rfl rfl) (by simp only [upd, za, zaa]; exact rfl) ?_
  refine zab rfl rfl rfl (zad (.inr rfl) (ev1 rfl)) ?_
  refine zae ?_
  refine dwp_ret ?_
  refine kend [0] (rs1 rfl (rv_t rfl)) rfl rfl ?_ ⟨rfl, trivial⟩
  rfl
set_option maxRecDepth 4000 in
set_option maxHeartbeats 1000000 in
theorem hold_i (x : OpM) (o : OpM) : DFun Tryz.prog 47 [.agg (opD x), .loc 0 0] [.mix 44 (opD o)] (.val (.bool (lessR o.id (x).id))) [.mix 44 (opD o)] := by
  refine dcalls_go (N := 9) 1 (by kernel_rfl) Tryz.func47 rfl rfl rfl (by simp only [fr0, Nat.zero_add, Nat.reduceAdd]; exact rfl) rfl fun s0 hs0 => ?_
  refine zaf ?_
  refine zah 1 (by simp only [holes, List.cons_append, List.nil_append]; exact rfl) ?_
  refine zac ?_
  refine walk_w rfl rfl rfl (op_boxam 1 rfl (ev1 rfl) rfl) (by simp only [upd, za, zaa]; exact rfl) ?_
  refine zab rfl rfl rfl (zad (.inr rfl) (ev1 rfl)) ?_
  refine zae ?_
  refine zaf ?_
  refine zac ?_
  refine zab rfl rfl rfl (op_fa rfl fo44_0 (ev1 rfl)) ?_
  refine zab rfl rfl rfl (op_ldmv (R := [_, _, _]) rfl tb37 (ev1 rfl) rfl rfl rfl) ?_
  refine zab rfl rfl rfl (op_fa rfl fo44_0 (ev1 rfl)) ?_
  refine zab rfl rfl rfl (op_ldmv (R := [_, _, _]) rfl tb37 (ev1 rfl) rfl rfl rfl) ?_
  refine zab rfl rfl rfl (zai [] [] [] rfl (ev1 rfl) (ec (ev1 rfl) (ec (ev1 rfl) en)) rfl rfl (idLess_d _ _) rfl rfl rfl rfl rfl rfl) ?_
  refine zab rfl rfl rfl (zad (.inr rfl) (ev1 rfl)) ?_
  refine zae ?_
  refine dwp_ret ?_
  refine kend [0] (rs1 rfl (rv_t rfl)) rfl rfl ?_ ⟨rfl, trivial⟩
  rfl
set_option maxRecDepth 4000 in
set_option maxHeartbeats 1000000 in
theorem pl1_i (l : List OpM) (o : OpM) (k : Nat) (hk : k < l.length) : DFun Tryz.prog 58 [.val (.int .i64 (k : Int)), .loc 0 0, .loc 1 0] [.mix 96 [.fn (.func 47) [] [.loc 2 0]], .mix 25 [.slm 19 l.length (l.flatMap opD)], .mix 44 (opD o)] (.val (.bool (lessR o.id (l[k]).id))) [.mix 96 [.fn (.func 47) [] [.loc 2 0]], .mix 25 [.slm 19 l.length (l.flatMap opD)], .mix 44 (opD o)] := by
  refine dcalls_go (N := 11) 3 (by kernel_rfl) Tryz.func58 rfl rfl rfl (by simp only [fr0, Nat.zero_add, Nat.reduceAdd]; exact rfl) rfl fun s0 hs0 => ?_
  refine zaf ?_
  refine zac ?_
  refine zab rfl rfl rfl (zad (.inr rfl) (ev1 rfl)) ?_
  refine zae ?_
  refine zaf ?_
  refine dwp_draw [([0], []), ([1], []), ([], []), ([], []), ([], []), ([2], [2]), ([], [])] mixed (by kernel_rfl) ?_
  refine lex_r rfl rfl (op_ldm rfl tb96 (ev1 rfl) rfl rfl) ?_
  refine lex_r rfl rfl (op_ldm rfl tb25 (ev1 rfl) rfl rfl) ?_
  refine lex_r rfl rfl (zad (.inl rfl) (ev1 rfl)) ?_
  refine lex_r rfl rfl (op_ixmr (k) (by decide) rfl sl25 (ev1 rfl) (ev1 rfl) (fun _ => rfl) (by omega) (fun _ => rfl)) ?_
  refine lex_r rfl rfl (op_lddr rfl tb44 (ev1 rfl) rfl rfl) ?_
  refine lex_w rfl rfl (zai [2] [] [] rfl (ev1 rfl) (ec (ev1 rfl) en) rfl rfl (hold_i l[k] o) rfl rfl rfl rfl rfl rfl) rfl (by simp only [upd, za, zaa]; exact rfl) ?_
  refine lex_r rfl rfl (zad (.inr rfl) (ev1 rfl)) ?_
  refine lex_nil ?_
  refine dwp_ret ?_
  refine kend [0, 1, 2] (rs1 rfl (rv_t rfl)) rfl rfl ?_ ⟨rfl, rfl, rfl, trivial⟩
  rfl
set_option maxRecDepth 4000 in
set_option maxHeartbeats 1000000 in
theorem search_i (l : List OpM) (o : OpM) (p : Nat) (hl : l.length ≤ 1000000) (hp : p ≤ l.length) (hlo : ∀ k (h : k < l.length), k < p → (lessR o.id (l[k]).id) = false) (hhi : ∀ k (h : k < l.length), p ≤ k → (lessR o.id (l[k]).id) = true) : DFun Tryz.prog 57 [.val (.int .i64 (l.length : Int)), .fn (.func 58) [] [.loc 0 0, .loc 1 0]] [.mix 96 [.fn (.func 47) [] [.loc 2 0]], .mix 25 [.slm 19 l.length (l.flatMap opD)], .mix 44 (opD o)] (.val (.int .i64 (p : Int))) [.mix 96 [.fn (.func 47) [] [.loc 2 0]], .mix 25 [.slm 19 l.length (l.flatMap opD)], .mix 44 (opD o)] := by
  refine dcalls_go (N := 26) 3 (by kernel_rfl) Tryz.func57 rfl rfl rfl (by simp only [fr0, Nat.zero_add, Nat.reduceAdd]; exact rfl) rfl fun s0 hs0 => ?_
  refine zaf ?_
  refine zac ?_
  refine zab rfl rfl rfl (zad (.inr rfl) (ev1 rfl)) ?_
  refine zae ?_
  refine zaf ?_
  refine zac ?_
  refine zab rfl rfl rfl (zad (.inl rfl) (ev1 rfl)) ?_
  refine zab rfl rfl rfl (zad (.inr rfl) (ev1 rfl)) ?_
  refine zab rfl rfl rfl (zad (.inr rfl) (ev1 rfl)) ?_
  refine zae ?_
  refine zaf ?_
  refine dwp_block ?_
  refine dwp_loopS ⟨hs0, rfl⟩ (α := Nat × Nat) (fun x => [(5, .val (.int .i64 (x.1 : Int))), (6, .val (.int .i64 (x.2 : Int)))]) [(1, _)] (fun x => []) [_, _, _] (fun x => x.1 ≤ p ∧ p ≤ x.2 ∧ x.2 ≤ l.length) (fun x => x.2 - x.1) (0, l.length) [0, 1, 2] (⟨Nat.zero_le _, hp, Nat.le_refl _⟩) rfl ⟨rfl, trivial⟩ ⟨rfl, rfl, trivial⟩ ⟨rfl, rfl, rfl, trivial⟩ ?_
  intro x hx
  simp only [upd, za, zaa, List.cons_append, List.nil_append]
  obtain ⟨hx1, hx2, hx3⟩ := hx
  refine zaf ?_
  refine zaf ?_
  refine zac ?_
  refine zab rfl rfl rfl (zad (.inl rfl) (ev1 rfl)) ?_
  refine zab rfl rfl rfl (zad (.inl rfl) (ev1 rfl)) ?_
  refine zab rfl rfl rfl (op_lss rfl (ev1 rfl) (ev1 rfl)) ?_
  refine zae ?_
  refine dwp_cond rfl (fun c1 => ?_) (fun c1 => ?_)
  · try simp only [decide_eq_true_eq, decide_eq_false_iff_not, beq_iff_eq, bne_iff_ne, beq_eq_false_iff_ne, bne_eq_false_iff_eq, Bool.not_eq_true', Bool.not_eq_false', Bool.and_eq_true, Bool.or_eq_true, Bool.or_eq_false_iff, ne_eq, Decidable.not_not, Int.not_lt, Int.not_le] at c1
    refine dwp_skip ?_
    refine dwp_block ?_
    refine zaf ?_
    refine zac ?_
    refine zab rfl rfl rfl (zad (.inl rfl) (ev1 rfl)) ?_
    refine zab rfl rfl rfl (zad (.inl rfl) (ev1 rfl)) ?_
    refine zab rfl rfl rfl (op_add' rfl (ev1 rfl) (ev1 rfl) (fun _ => IntWalk.i64_in _ (by omega))) ?_
    refine zab rfl rfl rfl (op_conv' ty3 kn107 rfl (ev1 rfl) (fun _ => IntWalk.u64_in _ (by omega))) ?_
    refine zab rfl rfl rfl (op_shr (1) rfl (ev1 rfl) (ev1 rfl) (fun _ => ⟨rfl, by decide⟩)) ?_
    refine zab rfl rfl rfl ((op_conv' ty107 kn3 rfl (ev1 rfl) (fun _ => IntWalk.i64_in _ (by omega))).cast (d' := .val (.int .i64 ((((x.1 + x.2) / 2) : Nat) : Int))) (by rw [show ((x.1 : Int) + (x.2 : Int)) / 2 ^ 1 = ((((x.1 + x.2) / 2) : Nat) : Int) by omega])) ?_
    refine zab rfl rfl rfl (zad (.inr rfl) (ev1 rfl)) ?_
    refine zae ?_
    refine zaf ?_
    refine zac ?_
    refine zab rfl rfl rfl (zad (.inl rfl) (ev1 rfl)) ?_
    refine zab rfl rfl rfl (zad (.inl rfl) (ev1 rfl)) ?_
    refine walk_w rfl rfl rfl (zai [0, 1, 2] [] [] rfl (ev1 rfl) (ec (ev1 rfl) en) rfl rfl (pl1_i l o ((x.1 + x.2) / 2) (by omega)) rfl rfl rfl rfl rfl rfl) (by simp only [upd, za, zaa]; exact rfl) ?_
    refine zab rfl rfl rfl (op_not rfl (ev1 rfl)) ?_
    refine zae ?_
    refine dwp_cond rfl (fun c2 => ?_) (fun c2 => ?_)
    · have hmp : ((x.1 + x.2) / 2) + 1 ≤ p := by
        rcases Nat.lt_or_ge ((x.1 + x.2) / 2) p with h | h
        · exact h
        · have := hhi ((x.1 + x.2) / 2) (by omega) h
          rw [this] at c2
          cases c2
      refine zac ?_
      refine zab rfl rfl rfl (zad (.inl rfl) (ev1 rfl)) ?_
      refine zab rfl rfl rfl (op_add' rfl (ev1 rfl) (ev1 rfl) (fun _ => IntWalk.i64_in _ (by omega))) ?_
      refine zab rfl rfl rfl (zad (.inr rfl) (ev1 rfl)) ?_
      refine zae ?_
      refine ⟨(((x.1 + x.2) / 2) + 1, x.2), [0, 1, 2], ⟨hmp, hx2, hx3⟩, by simp only []; omega, rfl, ⟨rfl, rfl, rfl, trivial⟩, ⟨rfl, rfl, rfl, trivial⟩⟩
    · have hmp : p ≤ ((x.1 + x.2) / 2) := by
        rcases Nat.lt_or_ge ((x.1 + x.2) / 2) p with h | h
        · have := hlo ((x.1 + x.2) / 2) (by omega) h
          rw [this] at c2
          cases c2
        · exact h
      refine zac ?_
      refine zab rfl rfl rfl (zad (.inl rfl) (ev1 rfl)) ?_
      refine zab rfl rfl rfl (zad (.inr rfl) (ev1 rfl)) ?_
      refine zae ?_
      refine ⟨(x.1, ((x.1 + x.2) / 2)), [0, 1, 2], ⟨hx1, hmp, by omega⟩, by simp only []; omega, rfl, ⟨rfl, rfl, rfl, trivial⟩, ⟨rfl, rfl, rfl, trivial⟩⟩
  · try simp only [decide_eq_true_eq, decide_eq_false_iff_not, beq_iff_eq, bne_iff_ne, beq_eq_false_iff_ne, bne_eq_false_iff_eq, Bool.not_eq_true', Bool.not_eq_false', Bool.and_eq_true, Bool.or_eq_true, Bool.or_eq_false_iff, ne_eq, Decidable.not_not, Int.not_lt, Int.not_le] at c1
    refine dwp_exit ?_
    refine zaf ?_
    refine zac ?_
    refine zab rfl rfl rfl (zad (.inl rfl) (ev1 rfl)) ?_
    refine zab rfl rfl rfl (zad (.inr rfl) (ev1 rfl)) ?_
    refine zae ?_
    refine dwp_ret ?_
    refine kend [0, 1, 2] (rs1 rfl (rv_t rfl)) rfl rfl ?_ ⟨rfl, rfl, rfl, trivial⟩
    obtain rfl : x.1 = p := by omega
    rfl
set_option maxRecDepth 4000 in
set_option maxHeartbeats 1000000 in
theorem place_i (l : List OpM) (o : OpM) (p : Nat) (hl : l.length ≤ 1000000) (hp : p ≤ l.length) (hlo : ∀ k (h : k < l.length), k < p → (lessR o.id (l[k]).id) = false) (hhi : ∀ k (h : k < l.length), p ≤ k → (lessR o.id (l[k]).id) = true) : DFun Tryz.prog 43 [.slm 19 l.length (l.flatMap opD), .fn (.func 47) [] [.loc 0 0]] [.mix 44 (opD o)] (.val (.int .i64 (p : Int))) [.mix 44 (opD o)] := by
  refine dcalls_go (N := 9) 1 (by kernel_rfl) Tryz.func43 rfl rfl rfl (by simp only [fr0, Nat.zero_add, Nat.reduceAdd]; exact rfl) rfl fun s0 hs0 => ?_
  refine dwp_lenm (t := 0) rfl fun hl0 hL0 => ?_
  refine zaf ?_
  refine zah 2 (by simp only [holes, List.cons_append, List.nil_append]; exact rfl) ?_
  refine zac ?_
  refine walk_w rfl rfl rfl (op_boxm 1 rfl (ev1 rfl) (fun s v h => by cases h <;> rfl) rfl) (by simp only [upd, za, zaa]; exact rfl) ?_
  refine walk_w rfl rfl rfl (op_boxm 2 rfl (ev1 rfl) (fun s v h => by cases h <;> rfl) rfl) (by simp only [upd, za, zaa]; exact rfl) ?_
  refine zab rfl rfl rfl (zad (.inr rfl) (ev1 rfl)) ?_
  refine zae ?_
  refine zaf ?_
  refine zac ?_
  refine zab rfl rfl rfl (op_ldm rfl tb25 (ev1 rfl) rfl rfl) ?_
  refine zab rfl rfl rfl (op_lenm rfl sl25 (ev1 rfl)) ?_
  refine zab rfl rfl rfl (op_mkf rfl en (ec (ev1 rfl) (ec (ev1 rfl) en))) ?_
  refine walk_w rfl rfl rfl (zai [2, 1, 0] [] [] rfl (ev1 rfl) (ec (ev1 rfl) (ec (ev1 rfl) en)) rfl rfl (search_i l o p hl hp hlo hhi) rfl rfl rfl rfl rfl rfl) (by simp only [upd, za, zaa]; exact rfl) ?_
  refine zab rfl rfl rfl (zad (.inr rfl) (ev1 rfl)) ?_
  refine zae ?_
  refine dwp_ret ?_
  refine kend [0] (rs1 rfl (rv_t rfl)) rfl rfl ?_ ⟨rfl, trivial⟩
  rfl
end Go.Proofs.YtbcnaacgillhcaaGreat
namespace Go.Proofs.YtbcnaacgillhcaaGreat
set_option linter.unusedVariables false
set_option linter.unusedSimpArgs false
open Go.RowKit
theorem fl64 : fdL Tryz.prog 64 = some [(0, 1)] := by kernel_rfl
theorem fl69 : fdL Tryz.prog 69 = some [(0, 11), (11, 27)] := by kernel_rfl
theorem fo64_0 : fdO Tryz.prog 64 0 = some 0 := by kernel_rfl
theorem fo69_0 : fdO Tryz.prog 69 0 = some 0 := by kernel_rfl
theorem ni64 : niF Tryz.prog 64 = true := by kernel_rfl
theorem tb30 : tyB Tryz.prog 30 = some (false, 1) := by kernel_rfl
theorem tb64 : tyB Tryz.prog 64 = some (true, 1) := by kernel_rfl
theorem zr30 : zrC Tryz.prog 30 = some [.int .i64 0] := by kernel_rfl
theorem zr64 : zrC Tryz.prog 64 = some [.int .i64 0] := by kernel_rfl
theorem zr69 : zrC Tryz.prog 69 = some [.int .u64 0, .int .u64 0, .int .u64 0, .int .u64 0, .int .u64 0, .int .u64 0, .int .u64 0, .int .u64 0, .int .u64 0, .int .u64 0, .slice none 0 0, .int .u64 0, .int .i64 0, .int .u64 0, .int .u64 0, .int .i64 0, .int .u64 0, .int .u64 0, .int .i64 0, .int .u64 0, .int .u64 0, .int .i64 0, .int .u64 0, .int .u64 0, .int .i64 0, .int .u64 0, .int .u64 0, .int .i64 0, .int .u64 0, .int .u64 0, .int .i64 0, .int .u64 0, .int .u64 0, .int .i64 0, .int .u64 0, .int .u64 0, .int .i64 0, .int .u64 0] := by kernel_rfl
theorem zv64 : zrV Tryz.prog 64 = some (.agg #[.int .i64 0]) := by kernel_rfl
def chL (l : LogM) (la : Nat → I3) : List D := logD l ++ (laC la).map .val
theorem logB_all {l : LogM} (h : logB l = true) : (decide (l.fo ≤ LAST) && vB l.bs) = true ∧ ∃ s, endE l.fo (la0 l.fo l.bs, zI3) l.ops = some s := by
  unfold logB at h
  rw [Bool.and_eq_true] at h
  exact ⟨h.1, Option.isSome_iff_exists.1 h.2⟩
theorem stepE_inv {fo : Nat} {s s' : (Nat → I3) × I3} {o : OpM} (h : stepE fo s o = some s') : (opB o = true ∧ lessR s.2 o.id = true ∧ (fo : Int) < o.id.t ∧ o.id.q = (s.1 o.id.s.toNat).q + 1) ∧ s' = (upV s.1 o.id.s.toNat o.id, o.id) := by
  unfold stepE at h
  split at h
  · rename_i hc
    simp only [Bool.and_eq_true, decide_eq_true_eq] at hc
    exact ⟨⟨hc.1.1.1, hc.1.1.2, hc.1.2, hc.2⟩, (Option.some.inj h).symm⟩
  · cases h
theorem endE_cons {fo : Nat} {s r : (Nat → I3) × I3} {o : OpM} {l : List OpM} (h : endE fo s (o :: l) = some r) : ∃ s', stepE fo s o = some s' ∧ endE fo s' l = some r := by
  rw [endE, Option.bind_eq_some_iff] at h
  exact h
theorem endE_mem {fo : Nat} : ∀ {l : List OpM} {s r : (Nat → I3) × I3}, endE fo s l = some r → ∀ o ∈ l, opB o = true ∧ (fo : Int) < o.id.t
  | [], _, _, _, _, ho => by cases ho
  | a :: l, s, r, h, o, ho => by
    obtain ⟨s', h1, h2⟩ := endE_cons h
    rcases List.mem_cons.1 ho with rfl | ho
    · exact ⟨(stepE_inv h1).1.1, (stepE_inv h1).1.2.2.1⟩
    · exact endE_mem h2 o ho
theorem logB_px {l : LogM} (h : logB l = true) : ∀ o ∈ l.ops, o.px.length ≤ 2000000 := fun o ho => by
  obtain ⟨_, s, hs⟩ := logB_all h
  have := opB_px (endE_mem hs o ho).1
  omega
theorem lessR_iff {a b : I3} : lessR a b = true ↔ a.t < b.t ∨ (a.t = b.t ∧ (a.s < b.s ∨ (a.s = b.s ∧ a.q < b.q))) := by
  unfold lessR
  split
  · rw [decide_eq_true_eq]; omega
  · split
    · rw [decide_eq_true_eq]; omega
    · rw [decide_eq_true_eq]; omega
theorem lessR_trans {a b c : I3} (h : lessR a b = true) (k : lessR b c = true) : lessR a c = true := by
  rw [lessR_iff] at *
  omega
theorem lessR_t {a b : I3} (h : lessR a b = true) : a.t ≤ b.t := by
  rw [lessR_iff] at h
  omega
theorem endE_pw {fo : Nat} : ∀ {l : List OpM} {s r : (Nat → I3) × I3}, endE fo s l = some r → List.Pairwise (fun a b : OpM => lessR a.id b.id = true) l ∧ ∀ o ∈ l, lessR s.2 o.id = true
  | [], _, _, _ => ⟨.nil, fun o h => by cases h⟩
  | a :: l, s, r, h => by
    obtain ⟨s', h1, h2⟩ := endE_cons h
    obtain ⟨⟨_, h4, _⟩, rfl⟩ := stepE_inv h1
    obtain ⟨k1, k2⟩ := endE_pw h2
    refine ⟨.cons (fun b hb => k2 b hb) k1, fun o ho => ?_⟩
    rcases List.mem_cons.1 ho with rfl | ho
    · exact h4
    · exact lessR_trans h4 (k2 o ho)
def srt (l : List OpM) : Prop := List.Pairwise (fun a b : OpM => a.id.t ≤ b.id.t) l
theorem endE_srt {fo : Nat} {l : List OpM} {s r : (Nat → I3) × I3} (h : endE fo s l = some r) : srt l := (endE_pw h).1.imp fun h => lessR_t h
def tW (l : List OpM) (t : Nat) : List OpM := l.takeWhile fun o => decide (o.id.t ≤ (t : Int))
theorem tW_take (l : List OpM) (t : Nat) : l.take (tW l t).length = tW l t := (List.prefix_iff_eq_take.1 (List.takeWhile_prefix _)).symm
theorem tW_le (l : List OpM) (t : Nat) : (tW l t).length ≤ l.length := (List.takeWhile_prefix _).length_le
theorem tW_lo {l : List OpM} {t k : Nat} (h : k < l.length) (hk : k < (tW l t).length) : decide ((t : Int) < l[k].id.t) = false := by
  have e : (tW l t)[k] = l[k] := by
    have := (List.takeWhile_prefix (l := l) fun o : OpM => decide (o.id.t ≤ (t : Int))).getElem hk
    exact this
  have hm : (tW l t)[k] ∈ tW l t := List.getElem_mem _
  have := List.all_eq_true.1 (List.all_takeWhile (l := l) (p := fun o => decide (o.id.t ≤ (t : Int)))) _ hm
  rw [e] at this
  simp only [decide_eq_true_eq] at this
  exact decide_eq_false (by omega)
theorem tW_hi {l : List OpM} {t : Nat} (hs : srt l) {k : Nat} (h : k < l.length) (hk : (tW l t).length ≤ k) : decide ((t : Int) < l[k].id.t) = true := by
  have hq : (tW l t).length < l.length := by omega
  have h1 : ¬ (l[(tW l t).length].id.t ≤ (t : Int)) := by
    have := List.takeWhile_append_dropWhile (p := fun o : OpM => decide (o.id.t ≤ (t : Int))) (l := l)
    have hd : l.drop (tW l t).length = l.dropWhile fun o => decide (o.id.t ≤ (t : Int)) := by
      rw [show l.drop (tW l t).length = (tW l t ++ l.dropWhile fun o => decide (o.id.t ≤ (t : Int))).drop (tW l t).length by rw [show (tW l t ++ l.dropWhile fun o => decide (o.id.t ≤ (t : Int))) = l from this]]
      exact List.drop_left' rfl
    have hne : l.dropWhile (fun o => decide (o.id.t ≤ (t : Int))) ≠ [] := fun e => by
      rw [e] at hd
      have := congrArg List.length hd
      rw [List.length_drop] at this
      simp at this
      omega
    have h2 := List.head_dropWhile_not (fun o : OpM => decide (o.id.t ≤ (t : Int))) hne
    have h3 : (l.dropWhile fun o => decide (o.id.t ≤ (t : Int))).head hne = l[(tW l t).length] := by
      have : (l.drop (tW l t).length).head (by rw [hd]; exact hne) = l[(tW l t).length] := by
        rw [List.head_drop]
      rw [← this]
      congr 1
      exact hd.symm
    rw [h3] at h2
    simpa using h2
  have h4 : l[(tW l t).length].id.t ≤ l[k].id.t := by
    rcases Nat.lt_or_ge (tW l t).length k with h5 | h5
    · exact List.pairwise_iff_getElem.1 hs _ _ hq h h5
    · have : k = (tW l t).length := by omega
      subst this
      exact Int.le_refl _
  exact decide_eq_true (by omega)
def bsF (v : Vec) (l : List OpM) : Vec := l.foldl (fun v o => upV v o.id.s.toNat o.id.q.toNat) v
theorem bsF_step {v : Vec} {l : List OpM} {k : Nat} (h : k < l.length) : bsF v (l.take (k + 1)) = upV (bsF v (l.take k)) (l[k]).id.s.toNat (l[k]).id.q.toNat := by
  unfold bsF
  rw [List.take_succ_eq_append_getElem h, List.foldl_append]
  rfl
def foldM (l : LogM) (t : Nat) : LogM := ⟨t, bsF l.bs (tW l.ops t), l.ops.drop (tW l.ops t).length⟩
theorem chL_set' (fo n : Nat) (bs : Vec) (ops : List OpM) (la : Nat → I3) : ∀ j, j < 9 → (chL ⟨fo, bs, ops⟩ la).set (1 + j) (.val (.int .u64 (n : Int))) = chL ⟨fo, upV bs j n, ops⟩ la := lt9 (by kernel_rfl) (by kernel_rfl) (by kernel_rfl) (by kernel_rfl) (by kernel_rfl) (by kernel_rfl) (by kernel_rfl) (by kernel_rfl) (by kernel_rfl)
theorem chL_set {fo p j : Nat} {bs : Vec} {ops : List OpM} {la : Nat → I3} {q : Int} (hp : p = 1 + j) (hj : j < 9) (hq : 0 ≤ q) : (chL ⟨fo, bs, ops⟩ la).set p (.val (.int .u64 q)) = chL ⟨fo, upV bs j q.toNat, ops⟩ la := by
  obtain ⟨n, rfl⟩ := Int.eq_ofNat_of_zero_le hq
  rw [hp, Int.toNat_natCast]
  exact chL_set' fo n bs ops la j hj
def idOk (l : List OpM) : Prop := ∀ o ∈ l, mayR o.id = true
theorem endE_id {fo : Nat} {l : List OpM} {s r : (Nat → I3) × I3} (h : endE fo s l = some r) : idOk l := fun o ho => opB_id (endE_mem h o ho).1
set_option maxRecDepth 4000 in
set_option maxHeartbeats 1000000 in
theorem told_no : DFun Tryz.prog 21 [.val .nilIface] [] (.val (.int .i64 0)) [] := by
  refine dcalls_go (N := 13) 0 (by kernel_rfl) Tryz.func21 rfl rfl rfl (by simp only [fr0, Nat.zero_add, Nat.reduceAdd]; exact rfl) rfl fun s0 hs0 => ?_
  refine zaf ?_
  refine zac ?_
  refine zab rfl rfl rfl (zad (.inr rfl) (ev1 rfl)) ?_
  refine zae ?_
  refine zaf ?_
  refine zaf ?_
  refine zah 1 (by simp only [holes, List.cons_append, List.nil_append]; exact rfl) ?_
  refine zac ?_
  refine zab rfl rfl rfl (zad (.inl rfl) (ev1 rfl)) ?_
  refine zab rfl rfl rfl (op_tan rfl ni64 zv64 (ev1 rfl)) ?_
  refine zab rfl rfl rfl (zad (.inl rfl) (ev1 rfl)) ?_
  refine zab rfl rfl rfl (op_ext rfl (ev1 rfl) rfl) ?_
  refine zab rfl rfl rfl (op_ext rfl (ev1 rfl) rfl) ?_
  refine walk_w rfl rfl rfl (op_alloc 0 rfl zr64 rfl) (by simp only [upd, za, zaa]; exact rfl) ?_
  refine walk_s rfl rfl (op_stwa rfl tb64 (ev1 rfl) (ev1 rfl) rfl rfl rfl rfl) (by simp only [upd, za, zaa]; exact rfl) ?_
  refine zab rfl rfl rfl (zad (.inr rfl) (ev1 rfl)) ?_
  refine zae ?_
  refine zaf ?_
  refine zac ?_
  refine zab rfl rfl rfl (zad (.inl rfl) (ev1 rfl)) ?_
  refine zae ?_
  refine dwp_if_f rfl (rfl) ?_
  refine dwp_skip ?_
  refine zaf ?_
  refine zac ?_
  refine zab rfl rfl rfl (zad (.inr rfl) (ev1 rfl)) ?_
  refine zae ?_
  refine dwp_ret ?_
  refine kend0 (rs1 rfl (rv_t rfl)) rfl ?_
  rfl
set_option maxRecDepth 4000 in
set_option maxHeartbeats 1000000 in
theorem told_w (n : Int) : DFun Tryz.prog 21 [.ifc 64 (.val (.agg #[.int .i64 n]))] [] (.val (.int .i64 n)) [] := by
  refine dcalls_go (N := 13) 0 (by kernel_rfl) Tryz.func21 rfl rfl rfl (by simp only [fr0, Nat.zero_add, Nat.reduceAdd]; exact rfl) rfl fun s0 hs0 => ?_
  refine zaf ?_
  refine zac ?_
  refine zab rfl rfl rfl (zad (.inr rfl) (ev1 rfl)) ?_
  refine zae ?_
  refine zaf ?_
  refine zaf ?_
  refine zah 1 (by simp only [holes, List.cons_append, List.nil_append]; exact rfl) ?_
  refine zac ?_
  refine zab rfl rfl rfl (zad (.inl rfl) (ev1 rfl)) ?_
  refine zab rfl rfl rfl (op_tay rfl ni64 (ev1 rfl)) ?_
  refine zab rfl rfl rfl (zad (.inl rfl) (ev1 rfl)) ?_
  refine zab rfl rfl rfl (op_ext rfl (ev1 rfl) rfl) ?_
  refine zab rfl rfl rfl (op_ext rfl (ev1 rfl) rfl) ?_
  refine walk_w rfl rfl rfl (op_alloc 0 rfl zr64 rfl) (by simp only [upd, za, zaa]; exact rfl) ?_
  refine walk_s rfl rfl (op_stwa rfl tb64 (ev1 rfl) (ev1 rfl) rfl rfl rfl rfl) (by simp only [upd, za, zaa]; exact rfl) ?_
  refine zab rfl rfl rfl (zad (.inr rfl) (ev1 rfl)) ?_
  refine zae ?_
  refine zaf ?_
  refine zac ?_
  refine zab rfl rfl rfl (zad (.inl rfl) (ev1 rfl)) ?_
  refine zae ?_
  refine dwp_if_t rfl (rfl) ?_
  refine zaf ?_
  refine zac ?_
  refine zab rfl rfl rfl (op_fa rfl fo64_0 (ev1 rfl)) ?_
  refine zab rfl rfl rfl (op_ldo rfl tb30 (ev1 rfl) rfl rfl) ?_
  refine zab rfl rfl rfl (zad (.inr rfl) (ev1 rfl)) ?_
  refine zae ?_
  refine dwp_ret ?_
  refine kend0 (rs1 rfl (rv_t rfl)) rfl ?_
  rfl
set_option maxRecDepth 4000 in
set_option maxHeartbeats 1000000 in
theorem fold1_idle (e : Int) : DDef Tryz.prog 20 [.loc 0 0] [.flat 30 [.int .i64 e]] none none [.flat 30 [.int .i64 0]] := by
  refine ddef_go1 (dr := .tup []) (t := 1) (N := 3) 1 (by kernel_rfl) Tryz.func20 rfl rfl rfl (by simp only [fr0, Nat.zero_add, Nat.reduceAdd]; exact rfl) rfl rfl rfl rfl rfl fun s0 hs0 => ?_
  refine zab rfl rfl rfl (zai [] [] [] rfl (ev1 rfl) (ec (ev1 rfl) en) rfl rfl (told_no) rfl rfl rfl rfl rfl rfl) ?_
  refine walk_s rfl rfl (op_stwi rfl tb30 (ev1 rfl) (ev1 rfl) rfl) (by simp only [upd, za, zaa]; exact rfl) ?_
  refine zae ?_
  refine kend [0] (res_none rfl) rfl rfl ?_ ⟨rfl, trivial⟩
  rfl
set_option maxRecDepth 4000 in
set_option maxHeartbeats 1000000 in
theorem fold1_caught (e n : Int) : DDef Tryz.prog 20 [.loc 0 0] [.flat 30 [.int .i64 e]] (some (.ifc 64 (.val (.agg #[.int .i64 n])))) none [.flat 30 [.int .i64 n]] := by
  refine ddef_go1 (dr := .tup []) (t := 1) (N := 3) 1 (by kernel_rfl) Tryz.func20 rfl rfl rfl (by simp only [fr0, Nat.zero_add, Nat.reduceAdd]; exact rfl) rfl rfl rfl rfl rfl fun s0 hs0 => ?_
  refine zab rfl rfl rfl (zai [] [] [] rfl (ev1 rfl) (ec (ev1 rfl) en) rfl rfl (told_w n) rfl rfl rfl rfl rfl rfl) ?_
  refine walk_s rfl rfl (op_stwi rfl tb30 (ev1 rfl) (ev1 rfl) rfl) (by simp only [upd, za, zaa]; exact rfl) ?_
  refine zae ?_
  refine kend [0] (res_none rfl) rfl rfl ?_ ⟨rfl, trivial⟩
  rfl
set_option maxRecDepth 4000 in
set_option maxHeartbeats 1000000 in
theorem ins1_idle (e : Int) : DDef Tryz.prog 28 [.loc 0 0] [.flat 30 [.int .i64 e]] none none [.flat 30 [.int .i64 0]] := by
  refine ddef_go1 (dr := .tup []) (t := 1) (N := 3) 1 (by kernel_rfl) Tryz.func28 rfl rfl rfl (by simp only [fr0, Nat.zero_add, Nat.reduceAdd]; exact rfl) rfl rfl rfl rfl rfl fun s0 hs0 => ?_
  refine zab rfl rfl rfl (zai [] [] [] rfl (ev1 rfl) (ec (ev1 rfl) en) rfl rfl (told_no) rfl rfl rfl rfl rfl rfl) ?_
  refine walk_s rfl rfl (op_stwi rfl tb30 (ev1 rfl) (ev1 rfl) rfl) (by simp only [upd, za, zaa]; exact rfl) ?_
  refine zae ?_
  refine kend [0] (res_none rfl) rfl rfl ?_ ⟨rfl, trivial⟩
  rfl
set_option maxRecDepth 4000 in
set_option maxHeartbeats 1000000 in
theorem ins1_caught (e n : Int) : DDef Tryz.prog 28 [.loc 0 0] [.flat 30 [.int .i64 e]] (some (.ifc 64 (.val (.agg #[.int .i64 n])))) none [.flat 30 [.int .i64 n]] := by
  refine ddef_go1 (dr := .tup []) (t := 1) (N := 3) 1 (by kernel_rfl) Tryz.func28 rfl rfl rfl (by simp only [fr0, Nat.zero_add, Nat.reduceAdd]; exact rfl) rfl rfl rfl rfl rfl fun s0 hs0 => ?_
  refine zab rfl rfl rfl (zai [] [] [] rfl (ev1 rfl) (ec (ev1 rfl) en) rfl rfl (told_w n) rfl rfl rfl rfl rfl rfl) ?_
  refine walk_s rfl rfl (op_stwi rfl tb30 (ev1 rfl) (ev1 rfl) rfl) (by simp only [upd, za, zaa]; exact rfl) ?_
  refine zae ?_
  refine kend [0] (res_none rfl) rfl rfl ?_ ⟨rfl, trivial⟩
  rfl
set_option maxRecDepth 4000 in
set_option maxHeartbeats 1000000 in
theorem try1_idle (e : Int) : DDef Tryz.prog 55 [.loc 0 0] [.flat 30 [.int .i64 e]] none none [.flat 30 [.int .i64 0]] := by
  refine ddef_go1 (dr := .tup []) (t := 1) (N := 3) 1 (by kernel_rfl) Tryz.func55 rfl rfl rfl (by simp only [fr0, Nat.zero_add, Nat.reduceAdd]; exact rfl) rfl rfl rfl rfl rfl fun s0 hs0 => ?_
  refine zab rfl rfl rfl (zai [] [] [] rfl (ev1 rfl) (ec (ev1 rfl) en) rfl rfl (told_no) rfl rfl rfl rfl rfl rfl) ?_
  refine walk_s rfl rfl (op_stwi rfl tb30 (ev1 rfl) (ev1 rfl) rfl) (by simp only [upd, za, zaa]; exact rfl) ?_
  refine zae ?_
  refine kend [0] (res_none rfl) rfl rfl ?_ ⟨rfl, trivial⟩
  rfl
set_option maxRecDepth 4000 in
set_option maxHeartbeats 1000000 in
theorem try1_caught (e n : Int) : DDef Tryz.prog 55 [.loc 0 0] [.flat 30 [.int .i64 e]] (some (.ifc 64 (.val (.agg #[.int .i64 n])))) none [.flat 30 [.int .i64 n]] := by
  refine ddef_go1 (dr := .tup []) (t := 1) (N := 3) 1 (by kernel_rfl) Tryz.func55 rfl rfl rfl (by simp only [fr0, Nat.zero_add, Nat.reduceAdd]; exact rfl) rfl rfl rfl rfl rfl fun s0 hs0 => ?_
  refine zab rfl rfl rfl (zai [] [] [] rfl (ev1 rfl) (ec (ev1 rfl) en) rfl rfl (told_w n) rfl rfl rfl rfl rfl rfl) ?_
  refine walk_s rfl rfl (op_stwi rfl tb30 (ev1 rfl) (ev1 rfl) rfl) (by simp only [upd, za, zaa]; exact rfl) ?_
  refine zae ?_
  refine kend [0] (res_none rfl) rfl rfl ?_ ⟨rfl, trivial⟩
  rfl
set_option maxRecDepth 4000 in
set_option maxHeartbeats 1000000 in
theorem chOf_ok (l : LogM) (hb : logB l = true) (hl : l.ops.length ≤ 1000000) : DFun Tryz.prog 22 [.agg (logD l)] [] (.loc 0 0) [.mix 69 (chL l (endR l).1)] := by
  refine dcalls_go (N := 23) 0 (by kernel_rfl) Tryz.func22 rfl rfl rfl (by simp only [fr0, Nat.zero_add, Nat.reduceAdd]; exact rfl) rfl fun s0 hs0 => ?_
  refine zaf ?_
  refine zah 1 (by simp only [holes, List.cons_append, List.nil_append]; exact rfl) ?_
  refine zac ?_
  refine walk_w rfl rfl rfl (op_boxam 0 rfl (ev1 rfl) rfl) (by simp only [upd, za, zaa]; exact rfl) ?_
  refine zab rfl rfl rfl (zad (.inr rfl) (ev1 rfl)) ?_
  refine zae ?_
  refine zaf ?_
  refine zah 1 (by simp only [holes, List.cons_append, List.nil_append]; exact rfl) ?_
  refine zac ?_
  refine zab rfl rfl rfl (op_ldmw rfl tb27 (ev1 rfl) rfl rfl) ?_
  refine zab rfl rfl rfl (zai [] [] [] rfl (ev1 rfl) (ec (ev1 rfl) en) rfl rfl (ends_d l) rfl rfl rfl rfl rfl rfl) ?_
  refine zab rfl rfl rfl (zad (.inl rfl) (ev1 rfl)) ?_
  refine zab rfl rfl rfl (op_ext rfl (ev1 rfl) rfl) ?_
  refine zab rfl rfl rfl (op_ext rfl (ev1 rfl) rfl) ?_
  refine walk_w rfl rfl rfl (op_alloc 1 rfl zr67 rfl) (by simp only [upd, za, zaa]; exact rfl) ?_
  refine walk_s rfl rfl (op_stwa rfl tb67 (ev1 rfl) (ev1 rfl) rfl rfl rfl rfl) (by simp only [upd, za, zaa]; exact rfl) ?_
  refine zab rfl rfl rfl (zad (.inr rfl) (ev1 rfl)) ?_
  refine zae ?_
  refine zaf ?_
  refine zaf ?_
  refine zac ?_
  refine zab rfl rfl rfl (zad (.inl rfl) (ev1 rfl)) ?_
  refine zab rfl rfl rfl (op_neq rfl (ev1 rfl) (ev1 rfl)) ?_
  refine zae ?_
  refine dwp_if_f rfl (by rw [endR_errno, hb]; rfl) ?_
  refine dwp_skip ?_
  refine zaf ?_
  refine zac ?_
  refine zab rfl rfl rfl (op_fa rfl fo27_2 (ev1 rfl)) ?_
  refine zab rfl rfl rfl (op_ldm rfl tb25 (ev1 rfl) rfl rfl) ?_
  refine zab rfl rfl rfl (zai [] [] [] rfl (ev1 rfl) (ec (ev1 rfl) en) rfl rfl (copies_d l.ops (logB_px hb) hl) rfl rfl rfl rfl rfl rfl) ?_
  refine zab rfl rfl rfl (op_fa rfl fo27_2 (ev1 rfl)) ?_
  refine walk_s rfl rfl (op_stm rfl tb25 (ev1 rfl) (ev1 rfl) (fun s v h => by cases h <;> exact ⟨rfl, rfl⟩) rfl (by first | decide | exact Nat.le_of_ble_eq_true rfl | simp)) (by simp only [upd, za, zaa]; exact rfl) ?_
  refine zae ?_
  refine zaf ?_
  refine zah 1 (by simp only [holes, List.cons_append, List.nil_append]; exact rfl) ?_
  refine zac ?_
  refine zab rfl rfl rfl (op_ldmw rfl tb27 (ev1 rfl) rfl rfl) ?_
  refine zab rfl rfl rfl (op_ldw rfl tb67 (ev1 rfl) rfl (laC_len _)) ?_
  refine zab rfl rfl rfl ((op_bldD (ps := [(0, .tmp 19), (1, .tmp 20)]) rfl fl69 zr69 (ec (ev1 rfl) (ec (ev1 rfl) en)) rfl rfl rfl).cast (d' := .agg (chL l (endR l).1)) (by kernel_rfl)) ?_
  refine walk_w rfl rfl rfl (op_boxam 2 rfl (ev1 rfl) rfl) (by simp only [upd, za, zaa]; exact rfl) ?_
  refine zab rfl rfl rfl (zad (.inr rfl) (ev1 rfl)) ?_
  refine zae ?_
  refine dwp_ret ?_
  refine kend [2] (rs1 rfl (rv_t rfl)) rfl rfl ?_ ⟨rfl, trivial⟩
  rfl
set_option maxRecDepth 4000 in
set_option maxHeartbeats 1000000 in
theorem chOf_no1 (l : LogM) (hb : logB l = false) : DPan Tryz.prog 22 [.agg (logD l)] [] (.ifc 64 (.val (.agg #[.int .i64 (endR l).2]))) [] := by
  refine dcalls_go (N := 23) 0 (by kernel_rfl) Tryz.func22 rfl rfl rfl (by simp only [fr0, Nat.zero_add, Nat.reduceAdd]; exact rfl) rfl fun s0 hs0 => ?_
  refine zaf ?_
  refine zah 1 (by simp only [holes, List.cons_append, List.nil_append]; exact rfl) ?_
  refine zac ?_
  refine walk_w rfl rfl rfl (op_boxam 0 rfl (ev1 rfl) rfl) (by simp only [upd, za, zaa]; exact rfl) ?_
  refine zab rfl rfl rfl (zad (.inr rfl) (ev1 rfl)) ?_
  refine zae ?_
  refine zaf ?_
  refine zah 1 (by simp only [holes, List.cons_append, List.nil_append]; exact rfl) ?_
  refine zac ?_
  refine zab rfl rfl rfl (op_ldmw rfl tb27 (ev1 rfl) rfl rfl) ?_
  refine zab rfl rfl rfl (zai [] [] [] rfl (ev1 rfl) (ec (ev1 rfl) en) rfl rfl (ends_d l) rfl rfl rfl rfl rfl rfl) ?_
  refine zab rfl rfl rfl (zad (.inl rfl) (ev1 rfl)) ?_
  refine zab rfl rfl rfl (op_ext rfl (ev1 rfl) rfl) ?_
  refine zab rfl rfl rfl (op_ext rfl (ev1 rfl) rfl) ?_
  refine walk_w rfl rfl rfl (op_alloc 1 rfl zr67 rfl) (by simp only [upd, za, zaa]; exact rfl) ?_
  refine walk_s rfl rfl (op_stwa rfl tb67 (ev1 rfl) (ev1 rfl) rfl rfl rfl rfl) (by simp only [upd, za, zaa]; exact rfl) ?_
  refine zab rfl rfl rfl (zad (.inr rfl) (ev1 rfl)) ?_
  refine zae ?_
  refine zaf ?_
  refine zaf ?_
  refine zac ?_
  refine zab rfl rfl rfl (zad (.inl rfl) (ev1 rfl)) ?_
  refine zab rfl rfl rfl (op_neq rfl (ev1 rfl) (ev1 rfl)) ?_
  refine zae ?_
  refine dwp_if_t rfl (by rw [endR_errno, hb]; rfl) ?_
  refine zac ?_
  refine zab rfl rfl rfl (zad (.inl rfl) (ev1 rfl)) ?_
  refine zab rfl rfl rfl (op_build (ps := [(0, .tmp 12)]) rfl fl64 zr64 (vc (ev1 rfl) vn) rfl rfl) ?_
  refine zab rfl rfl rfl (op_mi rfl ni64 (ev1 rfl)) ?_
  refine walk_p rfl (op_pan rfl (ev1 rfl)) rfl ?_
  refine kpan0 rfl ?_
  rfl
theorem chOf_no (l : LogM) (hb : logB l = false) : DPan Tryz.prog 22 [.agg (logD l)] [] (.ifc 64 (.val (.agg #[.int .i64 240]))) [] := by
  have h := chOf_no1 l hb
  rwa [endR_errno, hb] at h
set_option maxRecDepth 4000 in
set_option maxHeartbeats 1000000 in
theorem fold_d (l : LogM) (la : Nat → I3) (t : Nat) (hs : srt l.ops) (hid : idOk l.ops) (hl : l.ops.length ≤ 1000000) : DFun Tryz.prog 23 [.loc 0 0, .val (.int .u64 (t : Int))] [.mix 69 (chL l la)] (.slm 19 (tW l.ops t).length ((tW l.ops t).flatMap opD)) [.mix 69 (chL (foldM l t) la)] := by
  refine dcalls_go (N := 71) 1 (by kernel_rfl) Tryz.func23 rfl rfl rfl (by simp only [fr0, Nat.zero_add, Nat.reduceAdd]; exact rfl) rfl fun s0 hs0 => ?_
  refine zaf ?_
  refine zah 1 (by simp only [holes, List.cons_append, List.nil_append]; exact rfl) ?_
  refine zac ?_
  refine walk_w rfl rfl rfl (op_boxi 1 rfl (ev1 rfl) rfl) (by simp only [upd, za, zaa]; exact rfl) ?_
  refine zab rfl rfl rfl (zad (.inr rfl) (ev1 rfl)) ?_
  refine zae ?_
  refine zaf ?_
  have hpl := tW_le l.ops t
  refine zac ?_
  refine zab rfl rfl rfl (zad (.inl rfl) (ev1 rfl)) ?_
  refine zab rfl rfl rfl (op_nc rfl (ev1 rfl) (fun s v h => by cases h; exact ⟨_, rfl⟩)) ?_
  refine zab rfl rfl rfl (op_fa rfl fo69_0 (ev1 rfl)) ?_
  refine zab rfl rfl rfl (op_fa rfl fo27_2 (ev1 rfl)) ?_
  refine zab rfl rfl rfl (op_ldm rfl tb25 (ev1 rfl) rfl rfl) ?_
  refine zab rfl rfl rfl (op_mkf rfl en (ec (ev1 rfl) en)) ?_
  refine walk_w rfl rfl rfl (zai [1] [] [] rfl (ev1 rfl) (ec (ev1 rfl) (ec (ev1 rfl) en)) rfl rfl (place_f l.ops t (tW l.ops t).length hl hpl (fun k h1 h2 => tW_lo h1 h2) (fun k h1 h2 => tW_hi hs h1 h2)) rfl rfl rfl rfl rfl rfl) (by simp only [upd, za, zaa]; exact rfl) ?_
  refine zab rfl rfl rfl (zad (.inr rfl) (ev1 rfl)) ?_
  refine zae ?_
  refine zaf ?_
  refine zac ?_
  refine zab rfl rfl rfl (zad (.inl rfl) (ev1 rfl)) ?_
  refine zab rfl rfl rfl (op_nc rfl (ev1 rfl) (fun s v h => by cases h; exact ⟨_, rfl⟩)) ?_
  refine zab rfl rfl rfl (op_fa rfl fo69_0 (ev1 rfl)) ?_
  refine zab rfl rfl rfl (op_fa rfl fo27_2 (ev1 rfl)) ?_
  refine zab rfl rfl rfl (op_ldm rfl tb25 (ev1 rfl) rfl rfl) ?_
  refine zab rfl rfl rfl (zad (.inl rfl) (ev1 rfl)) ?_
  refine zab rfl rfl rfl (zad (.inl rfl) (ev1 rfl)) ?_
  refine zab rfl rfl rfl ((op_sl3m (j := (tW l.ops t).length) rfl sl25 (ev1 rfl) (ev1 rfl) (ev1 rfl) (fun hp => by first | omega | (simp at hp; omega)) (fun hp => by first | omega | (simp at hp; omega)) (fun hp => by first | omega | (simp at hp; omega)) (fun _ => rfl)).cast (d' := .slm 19 (tW l.ops t).length ((tW l.ops t).flatMap opD)) (by rw [tW_take])) ?_
  refine zab rfl rfl rfl (zad (.inr rfl) (ev1 rfl)) ?_
  refine zae ?_
  refine zaf ?_
  refine dwp_draw [([], []), ([], []), ([], []), ([], []), ([], []), ([0], []), ([], []), ([], []), ([], []), ([], []), ([], []), ([0], []), ([], []), ([], []), ([], []), ([], []), ([], []), ([0], []), ([], []), ([], []), ([], []), ([], []), ([], []), ([0], [0])] mixed (by kernel_rfl) ?_
  refine lex_r rfl rfl (zad (.inl rfl) (ev1 rfl)) ?_
  refine lex_r rfl rfl (zad (.inl rfl) (ev1 rfl)) ?_
  refine lex_r rfl rfl (op_nc rfl (ev1 rfl) (fun s v h => by cases h; exact ⟨_, rfl⟩)) ?_
  refine lex_r rfl rfl (op_fa rfl fo69_0 (ev1 rfl)) ?_
  refine lex_r rfl rfl (op_fa rfl fo27_2 (ev1 rfl)) ?_
  refine lex_r rfl rfl (op_ldm rfl tb25 (ev1 rfl) rfl rfl) ?_
  refine lex_r rfl rfl (zad (.inl rfl) (ev1 rfl)) ?_
  refine lex_r rfl rfl (zad (.inl rfl) (ev1 rfl)) ?_
  refine lex_r rfl rfl (op_nc rfl (ev1 rfl) (fun s v h => by cases h; exact ⟨_, rfl⟩)) ?_
  refine lex_r rfl rfl (op_fa rfl fo69_0 (ev1 rfl)) ?_
  refine lex_r rfl rfl (op_fa rfl fo27_2 (ev1 rfl)) ?_
  refine lex_r rfl rfl (op_ldm rfl tb25 (ev1 rfl) rfl rfl) ?_
  refine lex_r rfl rfl (op_lenm rfl sl25 (ev1 rfl)) ?_
  refine lex_r rfl rfl (zad (.inl rfl) (ev1 rfl)) ?_
  refine lex_r rfl rfl (op_nc rfl (ev1 rfl) (fun s v h => by cases h; exact ⟨_, rfl⟩)) ?_
  refine lex_r rfl rfl (op_fa rfl fo69_0 (ev1 rfl)) ?_
  refine lex_r rfl rfl (op_fa rfl fo27_2 (ev1 rfl)) ?_
  refine lex_r rfl rfl (op_ldm rfl tb25 (ev1 rfl) rfl rfl) ?_
  refine lex_r rfl rfl (op_lenm rfl sl25 (ev1 rfl)) ?_
  refine lex_r rfl rfl (op_sl3dm (i := (tW l.ops t).length) rfl sl25 (ev1 rfl) (ev1 rfl) (ev1 rfl) (ev1 rfl) (fun hp => by first | omega | (simp at hp; omega)) (fun hp => by first | omega | (simp at hp; omega)) (fun hp => by first | omega | (simp at hp; omega)) (fun hp => by first | omega | (simp at hp; omega)) (fun _ => rfl)) ?_
  refine lex_r rfl rfl (op_nc rfl (ev1 rfl) (fun s v h => by cases h; exact ⟨_, rfl⟩)) ?_
  refine lex_r rfl rfl (op_fa rfl fo69_0 (ev1 rfl)) ?_
  refine lex_r rfl rfl (op_fa rfl fo27_2 (ev1 rfl)) ?_
  refine lex_s rfl rfl (op_stm rfl tb25 (ev1 rfl) (ev1 rfl) (fun s v h => by cases h <;> exact ⟨rfl, rfl⟩) rfl (by first | decide | exact Nat.le_of_ble_eq_true rfl | simp)) rfl (by simp only [upd, za, zaa]; exact rfl) ?_
  refine lex_nil ?_
  refine zaf ?_
  refine zaf ?_
  refine zac ?_
  refine zab rfl rfl rfl (zad (.inl rfl) (ev1 rfl)) ?_
  refine zab rfl rfl rfl (op_lenm rfl sl25 (ev1 rfl)) ?_
  refine zab rfl rfl rfl (zad (.inl rfl) (ev1 rfl)) ?_
  refine zae ?_
  refine dwp_block ?_
  refine dwp_loopS ⟨hs0, rfl⟩ (α := Nat) (fun k => [(49, .val (.int .i64 (k : Int)))]) [(0, _), (3, _), (6, _), (47, _), (48, _)] (fun k => [(0, .mix 69 (chL ⟨l.fo, bsF l.bs ((tW l.ops t).take k), l.ops.drop (tW l.ops t).length⟩ la))]) [.hole, _] (fun k => k ≤ (tW l.ops t).length) (fun k => (tW l.ops t).length - k) 0 [0, 1] (Nat.zero_le _) rfl ⟨rfl, rfl, rfl, rfl, rfl, trivial⟩ ⟨rfl, trivial⟩ ⟨rfl, rfl, trivial⟩ ?_
  intro k hx
  simp only [upd, za, zaa, List.cons_append, List.nil_append]
  have hk := hx
  have hmem : ∀ (h : k < (tW l.ops t).length), mayR ((tW l.ops t)[k]).id = true := fun h => hid _ ((List.takeWhile_prefix _).subset (List.getElem_mem h))
  refine zaf ?_
  refine zac ?_
  refine zab rfl rfl rfl (op_lss rfl (ev1 rfl) (ev1 rfl)) ?_
  refine zae ?_
  refine zaf ?_
  refine dwp_cond rfl (fun c1 => ?_) (fun c1 => ?_)
  · try simp only [decide_eq_true_eq, decide_eq_false_iff_not, beq_iff_eq, bne_iff_ne, beq_eq_false_iff_ne, bne_eq_false_iff_eq, Bool.not_eq_true', Bool.not_eq_false', Bool.and_eq_true, Bool.or_eq_true, Bool.or_eq_false_iff, ne_eq, Decidable.not_not, Int.not_lt, Int.not_le] at c1
    refine dwp_skip ?_
    refine zaf ?_
    refine dwp_block ?_
    refine zaf ?_
    refine zah 1 (by simp only [holes, List.cons_append, List.nil_append]; exact rfl) ?_
    refine zac ?_
    refine zab rfl rfl rfl (op_ixmr (k) (by decide) rfl sl25 (ev1 rfl) (ev1 rfl) (fun _ => rfl) (by omega) (fun _ => rfl)) ?_
    refine zab rfl rfl rfl (op_lddr rfl tb44 (ev1 rfl) rfl rfl) ?_
    refine walk_w rfl rfl rfl (op_alloc 2 rfl zr44 rfl) (by simp only [upd, za, zaa]; exact rfl) ?_
    refine walk_s rfl rfl (op_stam rfl tb44 (ev1 rfl) (ev1 rfl) rfl rfl rfl rfl) (by simp only [upd, za, zaa]; exact rfl) ?_
    refine zae ?_
    have hmk := mayR_iff.1 (hmem (by omega))
    refine dwp_draw [([], []), ([], []), ([], []), ([2], []), ([], []), ([], []), ([2], []), ([], []), ([], []), ([], []), ([], []), ([0], [0])] mixed (by kernel_rfl) ?_
    refine lex_r rfl rfl (zad (.inl rfl) (ev1 rfl)) ?_
    refine lex_r rfl rfl (op_fa rfl fo44_0 (ev1 rfl)) ?_
    refine lex_r rfl rfl (op_fa rfl fo37_1 (ev1 rfl)) ?_
    refine lex_r rfl rfl (op_ldm rfl tb3 (ev1 rfl) rfl rfl) ?_
    refine lex_r rfl rfl (op_fa rfl fo44_0 (ev1 rfl)) ?_
    refine lex_r rfl rfl (op_fa rfl fo37_2 (ev1 rfl)) ?_
    refine lex_r rfl rfl (op_ldm rfl tb22 (ev1 rfl) rfl rfl) ?_
    refine lex_r rfl rfl (op_nc rfl (ev1 rfl) (fun s v h => by cases h; exact ⟨_, rfl⟩)) ?_
    refine lex_r rfl rfl (op_fa rfl fo69_0 (ev1 rfl)) ?_
    refine lex_r rfl rfl (op_fa rfl fo27_1 (ev1 rfl)) ?_
    refine lex_r rfl rfl (op_ixl rfl ar24 (ev1 rfl) (ev1 rfl) (fun _ => by omega)) ?_
    refine lex_s rfl rfl (op_stmq rfl tb22 (ev1 rfl) (ev1 rfl) (fun s v h => by cases h <;> exact ⟨rfl, rfl⟩) rfl (by show _ < 38; omega) (chL_set (j := ((tW l.ops t)[k]).id.s.toNat) (by omega) (by omega) (by omega))) rfl (by simp only [upd, za, zaa]; exact rfl) ?_
    refine lex_nil ?_
    refine zac ?_
    refine zab rfl rfl rfl (op_add' rfl (ev1 rfl) (ev1 rfl) (fun _ => IntWalk.i64_in _ (by omega))) ?_
    refine zab rfl rfl rfl (zad (.inl rfl) (ev1 rfl)) ?_
    refine zae ?_
    refine ⟨k + 1, [0, 1], by omega, by simp only []; omega, rfl, ⟨rfl, rfl, rfl, rfl, rfl, rfl, trivial⟩, ⟨by rw [bsF_step (by omega)]; rfl, rfl, trivial⟩⟩
  · try simp only [decide_eq_true_eq, decide_eq_false_iff_not, beq_iff_eq, bne_iff_ne, beq_eq_false_iff_ne, bne_eq_false_iff_eq, Bool.not_eq_true', Bool.not_eq_false', Bool.and_eq_true, Bool.or_eq_true, Bool.or_eq_false_iff, ne_eq, Decidable.not_not, Int.not_lt, Int.not_le] at c1
    refine dwp_exit ?_
    refine zaf ?_
    obtain rfl : k = (tW l.ops t).length := by omega
    rw [List.take_length]
    refine zac ?_
    refine zab rfl rfl rfl (zad (.inl rfl) (ev1 rfl)) ?_
    refine zab rfl rfl rfl (op_ldo rfl tb22 (ev1 rfl) rfl rfl) ?_
    refine zab rfl rfl rfl (op_nc rfl (ev1 rfl) (fun s v h => by cases h; exact ⟨_, rfl⟩)) ?_
    refine zab rfl rfl rfl (op_fa rfl fo69_0 (ev1 rfl)) ?_
    refine zab rfl rfl rfl (op_fa rfl fo27_0 (ev1 rfl)) ?_
    refine walk_s rfl rfl (op_stm rfl tb22 (ev1 rfl) (ev1 rfl) (fun s v h => by cases h <;> exact ⟨rfl, rfl⟩) rfl (by first | decide | exact Nat.le_of_ble_eq_true rfl | simp)) (by simp only [upd, za, zaa]; exact rfl) ?_
    refine zae ?_
    refine zaf ?_
    refine zac ?_
    refine zab rfl rfl rfl (zad (.inl rfl) (ev1 rfl)) ?_
    refine zab rfl rfl rfl (zad (.inr rfl) (ev1 rfl)) ?_
    refine zae ?_
    refine dwp_ret ?_
    refine kend [0] (rs1 rfl (rv_t rfl)) rfl rfl ?_ ⟨rfl, trivial⟩
    rfl
set_option maxRecDepth 4000 in
set_option maxHeartbeats 1000000 in
theorem Fold_ok (l : LogM) (t : Nat) (hb : logB l = true) (h1 : l.fo ≤ t) (h2 : t ≤ 4611686018427387904) (hl : l.ops.length ≤ 1000000) : DFun Tryz.prog 6 [.agg (logD l), .val (.int .u64 (t : Int))] [] (.tup [.agg (logD (foldM l t)), .slm 19 (tW l.ops t).length ((tW l.ops t).flatMap opD), .val (.int .i64 0)]) [] := by
  refine dcalls_body (N := 29) 0 (by kernel_rfl) Tryz.func6 rfl rfl rfl (by simp only [fr0, Nat.zero_add, Nat.reduceAdd]; exact rfl) rfl fun s0 hs0 => ?_
  refine dbody_seq rfl hs0 ?_
  refine zah 3 (by simp only [holes, List.cons_append, List.nil_append]; exact rfl) ?_
  refine zac ?_
  refine walk_w rfl rfl rfl (op_boxam 0 rfl (ev1 rfl) rfl) (by simp only [upd, za, zaa]; exact rfl) ?_
  refine walk_w rfl rfl rfl (op_alloc 1 rfl zr27 rfl) (by simp only [upd, za, zaa]; exact rfl) ?_
  refine zab rfl rfl rfl (zad (.inr rfl) (ev1 rfl)) ?_
  refine walk_w rfl rfl rfl (op_alloc 2 rfl zr30 rfl) (by simp only [upd, za, zaa]; exact rfl) ?_
  refine zae ?_
  refine dbody_defer (l0 := [_]) rfl rfl rfl rfl rfl hs0 ?_
  refine zab rfl rfl rfl (op_mkf rfl en (ec (ev1 rfl) en)) ?_
  refine zae ⟨_, _, _, 3, ev1 rfl, Nat.le_trans hs0 (by decide), rfl, ?_⟩
  have hs1 : s0.M.length ≤ 3 := Nat.le_trans hs0 (by decide)
  refine dbody_end rfl hs0 ?_
  refine zaf ?_
  refine zah 1 (by simp only [holes, List.cons_append, List.nil_append]; exact rfl) ?_
  refine zac ?_
  refine zab rfl rfl rfl (op_ldmw rfl tb27 (ev1 rfl) rfl rfl) ?_
  refine walk_w rfl rfl rfl (zai [] [] [3] rfl (ev1 rfl) (ec (ev1 rfl) en) rfl rfl (chOf_ok l hb hl) rfl rfl rfl rfl rfl rfl) (by simp only [upd, za, zaa]; exact rfl) ?_
  refine zab rfl rfl rfl (zad (.inr rfl) (ev1 rfl)) ?_
  refine zae ?_
  refine zaf ?_
  refine zaf ?_
  refine zac ?_
  refine zab rfl rfl rfl (zad (.inl rfl) (ev1 rfl)) ?_
  refine zab rfl rfl rfl (op_fa rfl fo27_0 (ev1 rfl)) ?_
  refine zab rfl rfl rfl (op_ldm rfl tb22 (ev1 rfl) rfl rfl) ?_
  refine zab rfl rfl rfl (op_lss rfl (ev1 rfl) (ev1 rfl)) ?_
  refine zab rfl rfl rfl (zad (.inl rfl) (ev1 rfl)) ?_
  refine zag (gd_f rfl rfl rfl) rfl rfl rfl (zad (.inl rfl) (ev1 rfl)) ?_
  refine zag (gd_f rfl rfl rfl) rfl rfl rfl (op_gtr rfl (ev2 rfl) (ev1 rfl)) ?_
  refine zab rfl rfl rfl (op_or rfl (ev1 rfl) (ev3 rfl id)) ?_
  refine zae ?_
  refine dwp_if_f rfl (by simp; omega) ?_
  refine dwp_skip ?_
  refine zaf ?_
  obtain ⟨_, sE, hsE⟩ := logB_all hb
  refine zac ?_
  refine zab rfl rfl rfl (zad (.inl rfl) (ev1 rfl)) ?_
  refine zab rfl rfl rfl (zad (.inl rfl) (ev1 rfl)) ?_
  refine walk_w rfl rfl rfl (zai [3] [] [] rfl (ev1 rfl) (ec (ev1 rfl) (ec (ev1 rfl) en)) rfl rfl (fold_d l (endR l).1 t (endE_srt hsE) (endE_id hsE) hl) rfl rfl rfl rfl rfl rfl) (by simp only [upd, za, zaa]; exact rfl) ?_
  refine zab rfl rfl rfl (zad (.inr rfl) (ev1 rfl)) ?_
  refine zae ?_
  refine zaf ?_
  refine zac ?_
  refine zab rfl rfl rfl (zad (.inl rfl) (ev1 rfl)) ?_
  refine zab rfl rfl rfl (op_nc rfl (ev1 rfl) (fun s v h => by cases h; exact ⟨_, rfl⟩)) ?_
  refine zab rfl rfl rfl (op_fa rfl fo69_0 (ev1 rfl)) ?_
  refine zab rfl rfl rfl (op_ldmp rfl tb27 (ev1 rfl) rfl rfl rfl) ?_
  refine zab rfl rfl rfl (zad (.inl rfl) (ev1 rfl)) ?_
  refine walk_s rfl rfl (op_stam rfl tb27 (ev1 rfl) (ev1 rfl) rfl rfl rfl rfl) (by simp only [upd, za, zaa]; exact rfl) ?_
  refine zab rfl rfl rfl (zad (.inr rfl) (ev1 rfl)) ?_
  refine walk_s rfl rfl (op_stwi rfl tb30 (ev1 rfl) (ev1 rfl) rfl) (by simp only [upd, za, zaa]; exact rfl) ?_
  refine zae ?_
  refine dwp_ret ?_
  refine kdef (dturn_idle [2] [] rfl rfl (fold1_idle _) rfl rfl rfl rfl rfl) ?_
  refine kend0 (rs3 rfl (rv_mw tb27 rfl rfl rfl) (rv_t rfl) (rv_1 tb30 rfl rfl rfl)) rfl ?_
  rfl
set_option maxRecDepth 4000 in
set_option maxHeartbeats 1000000 in
theorem Fold_arg (l : LogM) (t : Nat) (hb : logB l = true) (h1 : ¬ (l.fo ≤ t ∧ t ≤ 4611686018427387904)) (hl : l.ops.length ≤ 1000000) : DFun Tryz.prog 6 [.agg (logD l), .val (.int .u64 (t : Int))] [] (.tup [.val (.agg #[.int .u64 0, .int .u64 0, .int .u64 0, .int .u64 0, .int .u64 0, .int .u64 0, .int .u64 0, .int .u64 0, .int .u64 0, .int .u64 0, .slice none 0 0]), .val (.slice none 0 0), .val (.int .i64 2)]) [] := by
  refine dcalls_body (N := 29) 0 (by kernel_rfl) Tryz.func6 rfl rfl rfl (by simp only [fr0, Nat.zero_add, Nat.reduceAdd]; exact rfl) rfl fun s0 hs0 => ?_
  refine dbody_seq rfl hs0 ?_
  refine zah 3 (by simp only [holes, List.cons_append, List.nil_append]; exact rfl) ?_
  refine zac ?_
  refine walk_w rfl rfl rfl (op_boxam 0 rfl (ev1 rfl) rfl) (by simp only [upd, za, zaa]; exact rfl) ?_
  refine walk_w rfl rfl rfl (op_alloc 1 rfl zr27 rfl) (by simp only [upd, za, zaa]; exact rfl) ?_
  refine zab rfl rfl rfl (zad (.inr rfl) (ev1 rfl)) ?_
  refine walk_w rfl rfl rfl (op_alloc 2 rfl zr30 rfl) (by simp only [upd, za, zaa]; exact rfl) ?_
  refine zae ?_
  refine dbody_defer (l0 := [_]) rfl rfl rfl rfl rfl hs0 ?_
  refine zab rfl rfl rfl (op_mkf rfl en (ec (ev1 rfl) en)) ?_
  refine zae ⟨_, _, _, 3, ev1 rfl, Nat.le_trans hs0 (by decide), rfl, ?_⟩
  have hs1 : s0.M.length ≤ 3 := Nat.le_trans hs0 (by decide)
  refine dbody_end rfl hs0 ?_
  refine zaf ?_
  refine zah 1 (by simp only [holes, List.cons_append, List.nil_append]; exact rfl) ?_
  refine zac ?_
  refine zab rfl rfl rfl (op_ldmw rfl tb27 (ev1 rfl) rfl rfl) ?_
  refine walk_w rfl rfl rfl (zai [] [] [3] rfl (ev1 rfl) (ec (ev1 rfl) en) rfl rfl (chOf_ok l hb hl) rfl rfl rfl rfl rfl rfl) (by simp only [upd, za, zaa]; exact rfl) ?_
  refine zab rfl rfl rfl (zad (.inr rfl) (ev1 rfl)) ?_
  refine zae ?_
  refine zaf ?_
  refine zaf ?_
  refine zac ?_
  refine zab rfl rfl rfl (zad (.inl rfl) (ev1 rfl)) ?_
  refine zab rfl rfl rfl (op_fa rfl fo27_0 (ev1 rfl)) ?_
  refine zab rfl rfl rfl (op_ldm rfl tb22 (ev1 rfl) rfl rfl) ?_
  refine zab rfl rfl rfl (op_lss rfl (ev1 rfl) (ev1 rfl)) ?_
  refine zab rfl rfl rfl (zad (.inl rfl) (ev1 rfl)) ?_
  refine zag (gd_f rfl rfl rfl) rfl rfl rfl (zad (.inl rfl) (ev1 rfl)) ?_
  refine zag (gd_f rfl rfl rfl) rfl rfl rfl (op_gtr rfl (ev2 rfl) (ev1 rfl)) ?_
  refine zab rfl rfl rfl (op_or rfl (ev1 rfl) (ev3 rfl id)) ?_
  refine zae ?_
  refine dwp_if_t rfl (by simp; omega) ?_
  refine zac ?_
  refine zab rfl rfl rfl (op_build (ps := [(0, .const (.int .i64 2))]) rfl fl64 zr64 (vc (ev1 rfl) vn) rfl rfl) ?_
  refine zab rfl rfl rfl (op_mi rfl ni64 (ev1 rfl)) ?_
  refine walk_p rfl (op_pan rfl (ev1 rfl)) rfl ?_
  refine kdef (dturn_caught [2] [] rfl rfl rfl (fold1_caught _ _) rfl rfl rfl rfl rfl) ?_
  refine kend0 (rs3 rfl (rv_w tb27 rfl rfl rfl) (rv_t rfl) (rv_1 tb30 rfl rfl rfl)) rfl ?_
  rfl
set_option maxRecDepth 4000 in
set_option maxHeartbeats 1000000 in
theorem Fold_bad (l : LogM) (t : Nat) (hb : logB l = false) : DFun Tryz.prog 6 [.agg (logD l), .val (.int .u64 (t : Int))] [] (.tup [.val (.agg #[.int .u64 0, .int .u64 0, .int .u64 0, .int .u64 0, .int .u64 0, .int .u64 0, .int .u64 0, .int .u64 0, .int .u64 0, .int .u64 0, .slice none 0 0]), .val (.slice none 0 0), .val (.int .i64 240)]) [] := by
  refine dcalls_body (N := 29) 0 (by kernel_rfl) Tryz.func6 rfl rfl rfl (by simp only [fr0, Nat.zero_add, Nat.reduceAdd]; exact rfl) rfl fun s0 hs0 => ?_
  refine dbody_seq rfl hs0 ?_
  refine zah 3 (by simp only [holes, List.cons_append, List.nil_append]; exact rfl) ?_
  refine zac ?_
  refine walk_w rfl rfl rfl (op_boxam 0 rfl (ev1 rfl) rfl) (by simp only [upd, za, zaa]; exact rfl) ?_
  refine walk_w rfl rfl rfl (op_alloc 1 rfl zr27 rfl) (by simp only [upd, za, zaa]; exact rfl) ?_
  refine zab rfl rfl rfl (zad (.inr rfl) (ev1 rfl)) ?_
  refine walk_w rfl rfl rfl (op_alloc 2 rfl zr30 rfl) (by simp only [upd, za, zaa]; exact rfl) ?_
  refine zae ?_
  refine dbody_defer (l0 := [_]) rfl rfl rfl rfl rfl hs0 ?_
  refine zab rfl rfl rfl (op_mkf rfl en (ec (ev1 rfl) en)) ?_
  refine zae ⟨_, _, _, 3, ev1 rfl, Nat.le_trans hs0 (by decide), rfl, ?_⟩
  have hs1 : s0.M.length ≤ 3 := Nat.le_trans hs0 (by decide)
  refine dbody_end rfl hs0 ?_
  refine zaf ?_
  refine zac ?_
  refine zab rfl rfl rfl (op_ldmw rfl tb27 (ev1 rfl) rfl rfl) ?_
  refine walk_p rfl (dop_callP [] [] [] rfl (ev1 rfl) (ec (ev1 rfl) en) rfl rfl (chOf_no l hb) rfl rfl rfl rfl rfl rfl) rfl ?_
  refine kdef (dturn_caught [2] [] rfl rfl rfl (fold1_caught _ _) rfl rfl rfl rfl rfl) ?_
  refine kend0 (rs3 rfl (rv_w tb27 rfl rfl rfl) (rv_t rfl) (rv_1 tb30 rfl rfl rfl)) rfl ?_
  rfl
def foldR (l : LogM) (t : Nat) : LogM × List OpM × Int := if logB l = true then (if l.fo ≤ t ∧ t ≤ 4611686018427387904 then (foldM l t, tW l.ops t, 0) else (⟨0, z9, []⟩, [], 2)) else (⟨0, z9, []⟩, [], 240)
theorem Fold_d (l : LogM) (t : Nat) (hl : l.ops.length ≤ 1000000) : DFun Tryz.prog 6 [.agg (logD l), .val (.int .u64 (t : Int))] [] (.tup [.agg (logD (foldR l t).1), .slm 19 (foldR l t).2.1.length ((foldR l t).2.1.flatMap opD), .val (.int .i64 (foldR l t).2.2)]) [] := by
  unfold foldR
  cases hb : logB l
  · exact (Fold_bad l t hb).wk (Wk.tup (WkL.cons wkNew (WkL.cons (Wk.slm0 19) (WkL.cons (Wk.refl _) WkL.nil))))
  · by_cases h : l.fo ≤ t ∧ t ≤ 4611686018427387904
    · rw [if_pos rfl, if_pos h]
      exact Fold_ok l t hb h.1 h.2 hl
    · rw [if_pos rfl, if_neg h]
      exact (Fold_arg l t hb h hl).wk (Wk.tup (WkL.cons wkNew (WkL.cons (Wk.slm0 19) (WkL.cons (Wk.refl _) WkL.nil))))
end Go.Proofs.YtbcnaacgillhcaaGreat
namespace Go.Proofs.YtbcnaacgillhcaaGreat
set_option linter.unusedVariables false
set_option linter.unusedSimpArgs false
open Go.RowKit
theorem fo69_1 : fdO Tryz.prog 69 1 = some 11 := by kernel_rfl
theorem chL_at' (l : LogM) (la : Nat → I3) : ∀ j, j < 9 → ((chL l la).drop (11 + j * 3)).take 3 = (idc (la j)).map .val := lt9 (by kernel_rfl) (by kernel_rfl) (by kernel_rfl) (by kernel_rfl) (by kernel_rfl) (by kernel_rfl) (by kernel_rfl) (by kernel_rfl) (by kernel_rfl)
theorem chL_at {l : LogM} {la : Nat → I3} {p j : Nat} (hp : p = 11 + j * 3) (hj : j < 9) : ((chL l la).drop p).take 3 = (idc (la j)).map .val := by rw [hp]; exact chL_at' l la j hj
theorem chL_up' (l : LogM) (la : Nat → I3) (i : I3) : ∀ j, j < 9 → (chL l la).take (11 + j * 3) ++ (idc i).map .val ++ (chL l la).drop (11 + j * 3 + 3) = chL l (upV la j i) := lt9 (by kernel_rfl) (by kernel_rfl) (by kernel_rfl) (by kernel_rfl) (by kernel_rfl) (by kernel_rfl) (by kernel_rfl) (by kernel_rfl) (by kernel_rfl)
theorem chL_up {l : LogM} {la : Nat → I3} {i : I3} {p j : Nat} (hp : p = 11 + j * 3) (hj : j < 9) : (chL l la).take p ++ (idc i).map .val ++ (chL l la).drop (p + 3) = chL l (upV la j i) := by rw [hp]; exact chL_up' l la i j hj
theorem slm_eq {sz n n' : Nat} {l l' : List D} (h : n = n') (k : l = l') : D.slm sz n l = D.slm sz n' l' := by rw [h, k]
def insL (l : List OpM) (o : OpM) (p : Nat) : List OpM := l.take p ++ o :: l.drop p
def insM (l : LogM) (o : OpM) (p : Nat) : LogM := ⟨l.fo, l.bs, insL l.ops o p⟩
theorem insL_len {l : List OpM} {o : OpM} {p : Nat} (h : p ≤ l.length) : 0 + (l.take p).length + 1 + ((l.drop p).take (l.length - p)).length = (insL l o p).length := by
  unfold insL
  simp
  omega
theorem insL_fm {l : List OpM} {o : OpM} {p : Nat} (h : p ≤ l.length) : (([] ++ (l.take p).flatMap opD) ++ opD o) ++ ((l.drop p).take (l.length - p)).flatMap opD = (insL l o p).flatMap opD := by
  unfold insL
  rw [List.take_of_length_le (show (l.drop p).length ≤ l.length - p by rw [List.length_drop]; exact Nat.le_refl _), List.flatMap_append, List.flatMap_cons, List.nil_append, List.append_assoc]
set_option maxRecDepth 4000 in
set_option maxHeartbeats 1000000 in
theorem ins_p1v (l : LogM) (la : Nat → I3) (o : OpM) (hok : laOk la) (hop : opB o = false) : DPan Tryz.prog 29 [.loc 0 0, .agg (opD o)] [.mix 69 (chL l la)] (.ifc 64 (.val (.agg #[.int .i64 (errOr (opB o) 220)]))) [.mix 69 (chL l la)] := by
  refine dcalls_go (N := 105) 1 (by kernel_rfl) Tryz.func29 rfl rfl rfl (by simp only [fr0, Nat.zero_add, Nat.reduceAdd]; exact rfl) rfl fun s0 hs0 => ?_
  refine zaf ?_
  refine zah 1 (by simp only [holes, List.cons_append, List.nil_append]; exact rfl) ?_
  refine zac ?_
  refine walk_w rfl rfl rfl (op_boxam 1 rfl (ev1 rfl) rfl) (by simp only [upd, za, zaa]; exact rfl) ?_
  refine zab rfl rfl rfl (zad (.inr rfl) (ev1 rfl)) ?_
  refine zae ?_
  refine zaf ?_
  refine zaf ?_
  refine zac ?_
  refine zab rfl rfl rfl (op_ldmw rfl tb44 (ev1 rfl) rfl rfl) ?_
  refine zab rfl rfl rfl (zai [] [] [] rfl (ev1 rfl) (ec (ev1 rfl) en) rfl rfl (opCheck_d _) rfl rfl rfl rfl rfl rfl) ?_
  refine zab rfl rfl rfl (zad (.inr rfl) (ev1 rfl)) ?_
  refine zae ?_
  refine zaf ?_
  refine zac ?_
  refine zab rfl rfl rfl (zad (.inl rfl) (ev1 rfl)) ?_
  refine zab rfl rfl rfl (op_neq rfl (ev1 rfl) (ev1 rfl)) ?_
  refine zae ?_
  refine dwp_if_t rfl (by rw [hop]; rfl) ?_
  refine zac ?_
  refine zab rfl rfl rfl (zad (.inl rfl) (ev1 rfl)) ?_
  refine zab rfl rfl rfl (op_build (ps := [(0, .tmp 13)]) rfl fl64 zr64 (vc (ev1 rfl) vn) rfl rfl) ?_
  refine zab rfl rfl rfl (op_mi rfl ni64 (ev1 rfl)) ?_
  refine walk_p rfl (op_pan rfl (ev1 rfl)) rfl ?_
  refine kpan [0] rfl rfl ?_ ⟨rfl, trivial⟩
  rfl
set_option maxRecDepth 4000 in
set_option maxHeartbeats 1000000 in
theorem ins_p2 (l : LogM) (la : Nat → I3) (o : OpM) (hok : laOk la) (hop : opB o = true) (h2 : o.id.q ≤ (la o.id.s.toNat).q) : DPan Tryz.prog 29 [.loc 0 0, .agg (opD o)] [.mix 69 (chL l la)] (.ifc 64 (.val (.agg #[.int .i64 5]))) [.mix 69 (chL l la)] := by
  refine dcalls_go (N := 105) 1 (by kernel_rfl) Tryz.func29 rfl rfl rfl (by simp only [fr0, Nat.zero_add, Nat.reduceAdd]; exact rfl) rfl fun s0 hs0 => ?_
  refine zaf ?_
  refine zah 1 (by simp only [holes, List.cons_append, List.nil_append]; exact rfl) ?_
  refine zac ?_
  refine walk_w rfl rfl rfl (op_boxam 1 rfl (ev1 rfl) rfl) (by simp only [upd, za, zaa]; exact rfl) ?_
  refine zab rfl rfl rfl (zad (.inr rfl) (ev1 rfl)) ?_
  refine zae ?_
  refine zaf ?_
  refine zaf ?_
  refine zac ?_
  refine zab rfl rfl rfl (op_ldmw rfl tb44 (ev1 rfl) rfl rfl) ?_
  refine zab rfl rfl rfl (zai [] [] [] rfl (ev1 rfl) (ec (ev1 rfl) en) rfl rfl (opCheck_d _) rfl rfl rfl rfl rfl rfl) ?_
  refine zab rfl rfl rfl (zad (.inr rfl) (ev1 rfl)) ?_
  refine zae ?_
  refine zaf ?_
  refine zac ?_
  refine zab rfl rfl rfl (zad (.inl rfl) (ev1 rfl)) ?_
  refine zab rfl rfl rfl (op_neq rfl (ev1 rfl) (ev1 rfl)) ?_
  refine zae ?_
  refine dwp_if_f rfl (by rw [hop]; rfl) ?_
  refine dwp_skip ?_
  refine zaf ?_
  have hs8 := mayR_iff.1 (opB_id hop)
  have hq0 := hok o.id.s.toNat (by omega)
  refine zah 1 (by simp only [holes, List.cons_append, List.nil_append]; exact rfl) ?_
  refine dwp_draw [([], []), ([], []), ([], []), ([1], []), ([], []), ([], []), ([], []), ([0], []), ([2], [2]), ([2], [2])] mixed (by kernel_rfl) ?_
  refine lex_r rfl rfl (zad (.inl rfl) (ev1 rfl)) ?_
  refine lex_r rfl rfl (op_fa rfl fo44_0 (ev1 rfl)) ?_
  refine lex_r rfl rfl (op_fa rfl fo37_1 (ev1 rfl)) ?_
  refine lex_r rfl rfl (op_ldm rfl tb3 (ev1 rfl) rfl rfl) ?_
  refine lex_r rfl rfl (op_nc rfl (ev1 rfl) (fun s v h => by cases h; exact ⟨_, rfl⟩)) ?_
  refine lex_r rfl rfl (op_fa rfl fo69_1 (ev1 rfl)) ?_
  refine lex_r rfl rfl (op_ixl rfl ar67 (ev1 rfl) (ev1 rfl) (fun _ => by omega)) ?_
  refine lex_r rfl rfl (op_ldmv (R := idc (la o.id.s.toNat)) rfl tb37 (ev1 rfl) rfl (chL_at (j := o.id.s.toNat) (by omega) (by omega)) rfl) ?_
  refine lex_w rfl rfl (op_alloc 2 rfl zr37 rfl) rfl (by simp only [upd, za, zaa]; exact rfl) ?_
  refine lex_s rfl rfl (op_stwa rfl tb37 (ev1 rfl) (ev1 rfl) rfl rfl rfl rfl) rfl (by simp only [upd, za, zaa]; exact rfl) ?_
  refine lex_nil ?_
  refine zaf ?_
  refine dwp_block ?_
  refine zaf ?_
  refine zac ?_
  refine zab rfl rfl rfl (op_fa rfl fo44_0 (ev1 rfl)) ?_
  refine zab rfl rfl rfl (op_fa rfl fo37_2 (ev1 rfl)) ?_
  refine zab rfl rfl rfl (op_ldm rfl tb22 (ev1 rfl) rfl rfl) ?_
  refine zab rfl rfl rfl (op_fa rfl fo37_2 (ev1 rfl)) ?_
  refine zab rfl rfl rfl (op_ldo rfl tb22 (ev1 rfl) rfl rfl) ?_
  refine zab rfl rfl rfl (op_leq rfl (ev1 rfl) (ev1 rfl)) ?_
  refine zab rfl rfl rfl (zad (.inr rfl) (ev1 rfl)) ?_
  refine zae ?_
  refine dwp_if_t rfl (by simp; omega) ?_
  refine zac ?_
  refine zab rfl rfl rfl (op_build (ps := [(0, .const (.int .i64 5))]) rfl fl64 zr64 (vc (ev1 rfl) vn) rfl rfl) ?_
  refine zab rfl rfl rfl (op_mi rfl ni64 (ev1 rfl)) ?_
  refine walk_p rfl (op_pan rfl (ev1 rfl)) rfl ?_
  refine kpan [0] rfl rfl ?_ ⟨rfl, trivial⟩
  rfl
set_option maxRecDepth 4000 in
set_option maxHeartbeats 1000000 in
theorem ins_p3 (l : LogM) (la : Nat → I3) (o : OpM) (hok : laOk la) (hop : opB o = true) (h2 : ¬ o.id.q ≤ (la o.id.s.toNat).q) (h3 : o.id.q ≠ (la o.id.s.toNat).q + 1) : DPan Tryz.prog 29 [.loc 0 0, .agg (opD o)] [.mix 69 (chL l la)] (.ifc 64 (.val (.agg #[.int .i64 231]))) [.mix 69 (chL l la)] := by
  refine dcalls_go (N := 105) 1 (by kernel_rfl) Tryz.func29 rfl rfl rfl (by simp only [fr0, Nat.zero_add, Nat.reduceAdd]; exact rfl) rfl fun s0 hs0 => ?_
  refine zaf ?_
  refine zah 1 (by simp only [holes, List.cons_append, List.nil_append]; exact rfl) ?_
  refine zac ?_
  refine walk_w rfl rfl rfl (op_boxam 1 rfl (ev1 rfl) rfl) (by simp only [upd, za, zaa]; exact rfl) ?_
  refine zab rfl rfl rfl (zad (.inr rfl) (ev1 rfl)) ?_
  refine zae ?_
  refine zaf ?_
  refine zaf ?_
  refine zac ?_
  refine zab rfl rfl rfl (op_ldmw rfl tb44 (ev1 rfl) rfl rfl) ?_
  refine zab rfl rfl rfl (zai [] [] [] rfl (ev1 rfl) (ec (ev1 rfl) en) rfl rfl (opCheck_d _) rfl rfl rfl rfl rfl rfl) ?_
  refine zab rfl rfl rfl (zad (.inr rfl) (ev1 rfl)) ?_
  refine zae ?_
  refine zaf ?_
  refine zac ?_
  refine zab rfl rfl rfl (zad (.inl rfl) (ev1 rfl)) ?_
  refine zab rfl rfl rfl (op_neq rfl (ev1 rfl) (ev1 rfl)) ?_
  refine zae ?_
  refine dwp_if_f rfl (by rw [hop]; rfl) ?_
  refine dwp_skip ?_
  refine zaf ?_
  have hs8 := mayR_iff.1 (opB_id hop)
  have hq0 := hok o.id.s.toNat (by omega)
  refine zah 1 (by simp only [holes, List.cons_append, List.nil_append]; exact rfl) ?_
  refine dwp_draw [([], []), ([], []), ([], []), ([1], []), ([], []), ([], []), ([], []), ([0], []), ([2], [2]), ([2], [2])] mixed (by kernel_rfl) ?_
  refine lex_r rfl rfl (zad (.inl rfl) (ev1 rfl)) ?_
  refine lex_r rfl rfl (op_fa rfl fo44_0 (ev1 rfl)) ?_
  refine lex_r rfl rfl (op_fa rfl fo37_1 (ev1 rfl)) ?_
  refine lex_r rfl rfl (op_ldm rfl tb3 (ev1 rfl) rfl rfl) ?_
  refine lex_r rfl rfl (op_nc rfl (ev1 rfl) (fun s v h => by cases h; exact ⟨_, rfl⟩)) ?_
  refine lex_r rfl rfl (op_fa rfl fo69_1 (ev1 rfl)) ?_
  refine lex_r rfl rfl (op_ixl rfl ar67 (ev1 rfl) (ev1 rfl) (fun _ => by omega)) ?_
  refine lex_r rfl rfl (op_ldmv (R := idc (la o.id.s.toNat)) rfl tb37 (ev1 rfl) rfl (chL_at (j := o.id.s.toNat) (by omega) (by omega)) rfl) ?_
  refine lex_w rfl rfl (op_alloc 2 rfl zr37 rfl) rfl (by simp only [upd, za, zaa]; exact rfl) ?_
  refine lex_s rfl rfl (op_stwa rfl tb37 (ev1 rfl) (ev1 rfl) rfl rfl rfl rfl) rfl (by simp only [upd, za, zaa]; exact rfl) ?_
  refine lex_nil ?_
  refine zaf ?_
  refine dwp_block ?_
  refine zaf ?_
  refine zac ?_
  refine zab rfl rfl rfl (op_fa rfl fo44_0 (ev1 rfl)) ?_
  refine zab rfl rfl rfl (op_fa rfl fo37_2 (ev1 rfl)) ?_
  refine zab rfl rfl rfl (op_ldm rfl tb22 (ev1 rfl) rfl rfl) ?_
  refine zab rfl rfl rfl (op_fa rfl fo37_2 (ev1 rfl)) ?_
  refine zab rfl rfl rfl (op_ldo rfl tb22 (ev1 rfl) rfl rfl) ?_
  refine zab rfl rfl rfl (op_leq rfl (ev1 rfl) (ev1 rfl)) ?_
  refine zab rfl rfl rfl (zad (.inr rfl) (ev1 rfl)) ?_
  refine zae ?_
  refine dwp_if_f rfl (by simp; omega) ?_
  refine zaf ?_
  refine zac ?_
  refine zab rfl rfl rfl (op_fa rfl fo44_0 (ev1 rfl)) ?_
  refine zab rfl rfl rfl (op_fa rfl fo37_2 (ev1 rfl)) ?_
  refine zab rfl rfl rfl (op_ldm rfl tb22 (ev1 rfl) rfl rfl) ?_
  refine zab rfl rfl rfl (op_fa rfl fo37_2 (ev1 rfl)) ?_
  refine zab rfl rfl rfl (op_ldo rfl tb22 (ev1 rfl) rfl rfl) ?_
  refine zab rfl rfl rfl (op_add' rfl (ev1 rfl) (ev1 rfl) (fun _ => IntWalk.u64_in _ (by show _ ∧ _; omega))) ?_
  refine zab rfl rfl rfl (op_neq rfl (ev1 rfl) (ev1 rfl)) ?_
  refine zab rfl rfl rfl (zad (.inr rfl) (ev1 rfl)) ?_
  refine zae ?_
  refine dwp_if_t rfl (by simp; omega) ?_
  refine zac ?_
  refine zab rfl rfl rfl (op_build (ps := [(0, .const (.int .i64 231))]) rfl fl64 zr64 (vc (ev1 rfl) vn) rfl rfl) ?_
  refine zab rfl rfl rfl (op_mi rfl ni64 (ev1 rfl)) ?_
  refine walk_p rfl (op_pan rfl (ev1 rfl)) rfl ?_
  refine kpan [0] rfl rfl ?_ ⟨rfl, trivial⟩
  rfl
set_option maxRecDepth 4000 in
set_option maxHeartbeats 1000000 in
theorem ins_p4 (l : LogM) (la : Nat → I3) (o : OpM) (hok : laOk la) (hop : opB o = true) (h3 : o.id.q = (la o.id.s.toNat).q + 1) (h4 : o.id.t ≤ (la o.id.s.toNat).t) : DPan Tryz.prog 29 [.loc 0 0, .agg (opD o)] [.mix 69 (chL l la)] (.ifc 64 (.val (.agg #[.int .i64 241]))) [.mix 69 (chL l la)] := by
  refine dcalls_go (N := 105) 1 (by kernel_rfl) Tryz.func29 rfl rfl rfl (by simp only [fr0, Nat.zero_add, Nat.reduceAdd]; exact rfl) rfl fun s0 hs0 => ?_
  refine zaf ?_
  refine zah 1 (by simp only [holes, List.cons_append, List.nil_append]; exact rfl) ?_
  refine zac ?_
  refine walk_w rfl rfl rfl (op_boxam 1 rfl (ev1 rfl) rfl) (by simp only [upd, za, zaa]; exact rfl) ?_
  refine zab rfl rfl rfl (zad (.inr rfl) (ev1 rfl)) ?_
  refine zae ?_
  refine zaf ?_
  refine zaf ?_
  refine zac ?_
  refine zab rfl rfl rfl (op_ldmw rfl tb44 (ev1 rfl) rfl rfl) ?_
  refine zab rfl rfl rfl (zai [] [] [] rfl (ev1 rfl) (ec (ev1 rfl) en) rfl rfl (opCheck_d _) rfl rfl rfl rfl rfl rfl) ?_
  refine zab rfl rfl rfl (zad (.inr rfl) (ev1 rfl)) ?_
  refine zae ?_
  refine zaf ?_
  refine zac ?_
  refine zab rfl rfl rfl (zad (.inl rfl) (ev1 rfl)) ?_
  refine zab rfl rfl rfl (op_neq rfl (ev1 rfl) (ev1 rfl)) ?_
  refine zae ?_
  refine dwp_if_f rfl (by rw [hop]; rfl) ?_
  refine dwp_skip ?_
  refine zaf ?_
  have hs8 := mayR_iff.1 (opB_id hop)
  have hq0 := hok o.id.s.toNat (by omega)
  refine zah 1 (by simp only [holes, List.cons_append, List.nil_append]; exact rfl) ?_
  refine dwp_draw [([], []), ([], []), ([], []), ([1], []), ([], []), ([], []), ([], []), ([0], []), ([2], [2]), ([2], [2])] mixed (by kernel_rfl) ?_
  refine lex_r rfl rfl (zad (.inl rfl) (ev1 rfl)) ?_
  refine lex_r rfl rfl (op_fa rfl fo44_0 (ev1 rfl)) ?_
  refine lex_r rfl rfl (op_fa rfl fo37_1 (ev1 rfl)) ?_
  refine lex_r rfl rfl (op_ldm rfl tb3 (ev1 rfl) rfl rfl) ?_
  refine lex_r rfl rfl (op_nc rfl (ev1 rfl) (fun s v h => by cases h; exact ⟨_, rfl⟩)) ?_
  refine lex_r rfl rfl (op_fa rfl fo69_1 (ev1 rfl)) ?_
  refine lex_r rfl rfl (op_ixl rfl ar67 (ev1 rfl) (ev1 rfl) (fun _ => by omega)) ?_
  refine lex_r rfl rfl (op_ldmv (R := idc (la o.id.s.toNat)) rfl tb37 (ev1 rfl) rfl (chL_at (j := o.id.s.toNat) (by omega) (by omega)) rfl) ?_
  refine lex_w rfl rfl (op_alloc 2 rfl zr37 rfl) rfl (by simp only [upd, za, zaa]; exact rfl) ?_
  refine lex_s rfl rfl (op_stwa rfl tb37 (ev1 rfl) (ev1 rfl) rfl rfl rfl rfl) rfl (by simp only [upd, za, zaa]; exact rfl) ?_
  refine lex_nil ?_
  refine zaf ?_
  refine dwp_block ?_
  refine zaf ?_
  refine zac ?_
  refine zab rfl rfl rfl (op_fa rfl fo44_0 (ev1 rfl)) ?_
  refine zab rfl rfl rfl (op_fa rfl fo37_2 (ev1 rfl)) ?_
  refine zab rfl rfl rfl (op_ldm rfl tb22 (ev1 rfl) rfl rfl) ?_
  refine zab rfl rfl rfl (op_fa rfl fo37_2 (ev1 rfl)) ?_
  refine zab rfl rfl rfl (op_ldo rfl tb22 (ev1 rfl) rfl rfl) ?_
  refine zab rfl rfl rfl (op_leq rfl (ev1 rfl) (ev1 rfl)) ?_
  refine zab rfl rfl rfl (zad (.inr rfl) (ev1 rfl)) ?_
  refine zae ?_
  refine dwp_if_f rfl (by simp; omega) ?_
  refine zaf ?_
  refine zac ?_
  refine zab rfl rfl rfl (op_fa rfl fo44_0 (ev1 rfl)) ?_
  refine zab rfl rfl rfl (op_fa rfl fo37_2 (ev1 rfl)) ?_
  refine zab rfl rfl rfl (op_ldm rfl tb22 (ev1 rfl) rfl rfl) ?_
  refine zab rfl rfl rfl (op_fa rfl fo37_2 (ev1 rfl)) ?_
  refine zab rfl rfl rfl (op_ldo rfl tb22 (ev1 rfl) rfl rfl) ?_
  refine zab rfl rfl rfl (op_add' rfl (ev1 rfl) (ev1 rfl) (fun _ => IntWalk.u64_in _ (by show _ ∧ _; omega))) ?_
  refine zab rfl rfl rfl (op_neq rfl (ev1 rfl) (ev1 rfl)) ?_
  refine zab rfl rfl rfl (zad (.inr rfl) (ev1 rfl)) ?_
  refine zae ?_
  refine dwp_if_f rfl (by simp; omega) ?_
  refine zaf ?_
  refine zac ?_
  refine zab rfl rfl rfl (op_fa rfl fo44_0 (ev1 rfl)) ?_
  refine zab rfl rfl rfl (op_fa rfl fo37_0 (ev1 rfl)) ?_
  refine zab rfl rfl rfl (op_ldm rfl tb22 (ev1 rfl) rfl rfl) ?_
  refine zab rfl rfl rfl (op_fa rfl fo37_0 (ev1 rfl)) ?_
  refine zab rfl rfl rfl (op_ldo rfl tb22 (ev1 rfl) rfl rfl) ?_
  refine zab rfl rfl rfl (op_leq rfl (ev1 rfl) (ev1 rfl)) ?_
  refine zab rfl rfl rfl (zad (.inr rfl) (ev1 rfl)) ?_
  refine zae ?_
  refine dwp_if_t rfl (by simp; omega) ?_
  refine zac ?_
  refine zab rfl rfl rfl (op_build (ps := [(0, .const (.int .i64 241))]) rfl fl64 zr64 (vc (ev1 rfl) vn) rfl rfl) ?_
  refine zab rfl rfl rfl (op_mi rfl ni64 (ev1 rfl)) ?_
  refine walk_p rfl (op_pan rfl (ev1 rfl)) rfl ?_
  refine kpan [0] rfl rfl ?_ ⟨rfl, trivial⟩
  rfl
theorem ins_p1 (l : LogM) (la : Nat → I3) (o : OpM) (hok : laOk la) (hop : opB o = false) : DPan Tryz.prog 29 [.loc 0 0, .agg (opD o)] [.mix 69 (chL l la)] (.ifc 64 (.val (.agg #[.int .i64 220]))) [.mix 69 (chL l la)] := by
  have h := ins_p1v l la o hok hop
  rwa [hop] at h
set_option maxRecDepth 4000 in
set_option maxHeartbeats 1000000 in
theorem ins_ok (l : LogM) (la : Nat → I3) (o : OpM) (hok : laOk la) (p : Nat) (hop : opB o = true) (h3 : o.id.q = (la o.id.s.toNat).q + 1) (h4 : ¬ o.id.t ≤ (la o.id.s.toNat).t) (hl : l.ops.length ≤ 1000000) (hp : p ≤ l.ops.length) (hlo : ∀ k (h : k < l.ops.length), k < p → lessR o.id (l.ops[k]).id = false) (hhi : ∀ k (h : k < l.ops.length), p ≤ k → lessR o.id (l.ops[k]).id = true) : DFun Tryz.prog 29 [.loc 0 0, .agg (opD o)] [.mix 69 (chL l la)] (.val (.int .i64 (p : Int))) [.mix 69 (chL (insM l o p) (upV la o.id.s.toNat o.id))] := by
  refine dcalls_go (N := 105) 1 (by kernel_rfl) Tryz.func29 rfl rfl rfl (by simp only [fr0, Nat.zero_add, Nat.reduceAdd]; exact rfl) rfl fun s0 hs0 => ?_
  refine zaf ?_
  refine zah 1 (by simp only [holes, List.cons_append, List.nil_append]; exact rfl) ?_
  refine zac ?_
  refine walk_w rfl rfl rfl (op_boxam 1 rfl (ev1 rfl) rfl) (by simp only [upd, za, zaa]; exact rfl) ?_
  refine zab rfl rfl rfl (zad (.inr rfl) (ev1 rfl)) ?_
  refine zae ?_
  refine zaf ?_
  refine zaf ?_
  refine zac ?_
  refine zab rfl rfl rfl (op_ldmw rfl tb44 (ev1 rfl) rfl rfl) ?_
  refine zab rfl rfl rfl (zai [] [] [] rfl (ev1 rfl) (ec (ev1 rfl) en) rfl rfl (opCheck_d _) rfl rfl rfl rfl rfl rfl) ?_
  refine zab rfl rfl rfl (zad (.inr rfl) (ev1 rfl)) ?_
  refine zae ?_
  refine zaf ?_
  refine zac ?_
  refine zab rfl rfl rfl (zad (.inl rfl) (ev1 rfl)) ?_
  refine zab rfl rfl rfl (op_neq rfl (ev1 rfl) (ev1 rfl)) ?_
  refine zae ?_
  refine dwp_if_f rfl (by rw [hop]; rfl) ?_
  refine dwp_skip ?_
  refine zaf ?_
  have hs8 := mayR_iff.1 (opB_id hop)
  have hq0 := hok o.id.s.toNat (by omega)
  refine zah 1 (by simp only [holes, List.cons_append, List.nil_append]; exact rfl) ?_
  refine dwp_draw [([], []), ([], []), ([], []), ([1], []), ([], []), ([], []), ([], []), ([0], []), ([2], [2]), ([2], [2])] mixed (by kernel_rfl) ?_
  refine lex_r rfl rfl (zad (.inl rfl) (ev1 rfl)) ?_
  refine lex_r rfl rfl (op_fa rfl fo44_0 (ev1 rfl)) ?_
  refine lex_r rfl rfl (op_fa rfl fo37_1 (ev1 rfl)) ?_
  refine lex_r rfl rfl (op_ldm rfl tb3 (ev1 rfl) rfl rfl) ?_
  refine lex_r rfl rfl (op_nc rfl (ev1 rfl) (fun s v h => by cases h; exact ⟨_, rfl⟩)) ?_
  refine lex_r rfl rfl (op_fa rfl fo69_1 (ev1 rfl)) ?_
  refine lex_r rfl rfl (op_ixl rfl ar67 (ev1 rfl) (ev1 rfl) (fun _ => by omega)) ?_
  refine lex_r rfl rfl (op_ldmv (R := idc (la o.id.s.toNat)) rfl tb37 (ev1 rfl) rfl (chL_at (j := o.id.s.toNat) (by omega) (by omega)) rfl) ?_
  refine lex_w rfl rfl (op_alloc 2 rfl zr37 rfl) rfl (by simp only [upd, za, zaa]; exact rfl) ?_
  refine lex_s rfl rfl (op_stwa rfl tb37 (ev1 rfl) (ev1 rfl) rfl rfl rfl rfl) rfl (by simp only [upd, za, zaa]; exact rfl) ?_
  refine lex_nil ?_
  refine zaf ?_
  refine dwp_block ?_
  refine zaf ?_
  refine zac ?_
  refine zab rfl rfl rfl (op_fa rfl fo44_0 (ev1 rfl)) ?_
  refine zab rfl rfl rfl (op_fa rfl fo37_2 (ev1 rfl)) ?_
  refine zab rfl rfl rfl (op_ldm rfl tb22 (ev1 rfl) rfl rfl) ?_
  refine zab rfl rfl rfl (op_fa rfl fo37_2 (ev1 rfl)) ?_
  refine zab rfl rfl rfl (op_ldo rfl tb22 (ev1 rfl) rfl rfl) ?_
  refine zab rfl rfl rfl (op_leq rfl (ev1 rfl) (ev1 rfl)) ?_
  refine zab rfl rfl rfl (zad (.inr rfl) (ev1 rfl)) ?_
  refine zae ?_
  refine dwp_if_f rfl (by simp; omega) ?_
  refine zaf ?_
  refine zac ?_
  refine zab rfl rfl rfl (op_fa rfl fo44_0 (ev1 rfl)) ?_
  refine zab rfl rfl rfl (op_fa rfl fo37_2 (ev1 rfl)) ?_
  refine zab rfl rfl rfl (op_ldm rfl tb22 (ev1 rfl) rfl rfl) ?_
  refine zab rfl rfl rfl (op_fa rfl fo37_2 (ev1 rfl)) ?_
  refine zab rfl rfl rfl (op_ldo rfl tb22 (ev1 rfl) rfl rfl) ?_
  refine zab rfl rfl rfl (op_add' rfl (ev1 rfl) (ev1 rfl) (fun _ => IntWalk.u64_in _ (by show _ ∧ _; omega))) ?_
  refine zab rfl rfl rfl (op_neq rfl (ev1 rfl) (ev1 rfl)) ?_
  refine zab rfl rfl rfl (zad (.inr rfl) (ev1 rfl)) ?_
  refine zae ?_
  refine dwp_if_f rfl (by simp; omega) ?_
  refine zaf ?_
  refine zac ?_
  refine zab rfl rfl rfl (op_fa rfl fo44_0 (ev1 rfl)) ?_
  refine zab rfl rfl rfl (op_fa rfl fo37_0 (ev1 rfl)) ?_
  refine zab rfl rfl rfl (op_ldm rfl tb22 (ev1 rfl) rfl rfl) ?_
  refine zab rfl rfl rfl (op_fa rfl fo37_0 (ev1 rfl)) ?_
  refine zab rfl rfl rfl (op_ldo rfl tb22 (ev1 rfl) rfl rfl) ?_
  refine zab rfl rfl rfl (op_leq rfl (ev1 rfl) (ev1 rfl)) ?_
  refine zab rfl rfl rfl (zad (.inr rfl) (ev1 rfl)) ?_
  refine zae ?_
  refine dwp_if_f rfl (by simp; omega) ?_
  refine dwp_skip ?_
  refine zaf ?_
  refine zac ?_
  refine zab rfl rfl rfl (zad (.inl rfl) (ev1 rfl)) ?_
  refine zab rfl rfl rfl (op_nc rfl (ev1 rfl) (fun s v h => by cases h; exact ⟨_, rfl⟩)) ?_
  refine zab rfl rfl rfl (op_fa rfl fo69_0 (ev1 rfl)) ?_
  refine zab rfl rfl rfl (op_fa rfl fo27_2 (ev1 rfl)) ?_
  refine zab rfl rfl rfl (op_ldm rfl tb25 (ev1 rfl) rfl rfl) ?_
  refine zab rfl rfl rfl (op_mkf rfl en (ec (ev1 rfl) en)) ?_
  refine walk_w rfl rfl rfl (zai [1] [] [] rfl (ev1 rfl) (ec (ev1 rfl) (ec (ev1 rfl) en)) rfl rfl (place_i l.ops o p hl hp hlo hhi) rfl rfl rfl rfl rfl rfl) (by simp only [upd, za, zaa]; exact rfl) ?_
  refine zab rfl rfl rfl (zad (.inr rfl) (ev1 rfl)) ?_
  refine zae ?_
  refine zaf ?_
  refine zah 1 (by simp only [holes, List.cons_append, List.nil_append]; exact rfl) ?_
  refine zac ?_
  refine zab rfl rfl rfl (zad (.inl rfl) (ev1 rfl)) ?_
  refine zab rfl rfl rfl (op_nc rfl (ev1 rfl) (fun s v h => by cases h; exact ⟨_, rfl⟩)) ?_
  refine zab rfl rfl rfl (op_fa rfl fo69_0 (ev1 rfl)) ?_
  refine zab rfl rfl rfl (op_fa rfl fo27_2 (ev1 rfl)) ?_
  refine zab rfl rfl rfl (op_ldm rfl tb25 (ev1 rfl) rfl rfl) ?_
  refine zab rfl rfl rfl (op_lenm rfl sl25 (ev1 rfl)) ?_
  refine zab rfl rfl rfl (op_add' rfl (ev1 rfl) (ev1 rfl) (fun _ => IntWalk.i64_in _ (by omega))) ?_
  refine walk_w rfl rfl rfl (op_mk0x 3 (l.ops.length + 1) rfl sl25 zr44 (ev1 rfl) (ev1 rfl) (fun _ => rfl) (fun _ => by omega) rfl (fun _ => ⟨by omega, by omega⟩)) (by simp only [upd, za, zaa]; exact rfl) ?_
  refine zab rfl rfl rfl (zad (.inr rfl) (ev1 rfl)) ?_
  refine zae ?_
  refine zaf ?_
  refine zah 1 (by simp only [holes, List.cons_append, List.nil_append]; exact rfl) ?_
  refine zac ?_
  refine zab rfl rfl rfl (zad (.inl rfl) (ev1 rfl)) ?_
  refine zab rfl rfl rfl (zad (.inl rfl) (ev1 rfl)) ?_
  refine zab rfl rfl rfl (op_nc rfl (ev1 rfl) (fun s v h => by cases h; exact ⟨_, rfl⟩)) ?_
  refine zab rfl rfl rfl (op_fa rfl fo69_0 (ev1 rfl)) ?_
  refine zab rfl rfl rfl (op_fa rfl fo27_2 (ev1 rfl)) ?_
  refine zab rfl rfl rfl (op_ldm rfl tb25 (ev1 rfl) rfl rfl) ?_
  refine zab rfl rfl rfl (zad (.inl rfl) (ev1 rfl)) ?_
  refine zab rfl rfl rfl (zad (.inl rfl) (ev1 rfl)) ?_
  refine zab rfl rfl rfl (op_sl3m (j := p) rfl sl25 (ev1 rfl) (ev1 rfl) (ev1 rfl) (fun hp => by first | omega | (simp at hp; omega)) (fun hp => by first | omega | (simp at hp; omega)) (fun hp => by first | omega | (simp at hp; omega)) (fun _ => rfl)) ?_
  refine walk_w rfl rfl rfl (op_appr (j := 4) rfl sl25 zr44 rfl (ev1 rfl) (ev1 rfl) rfl rfl (ops_oc _) (fun _ => ⟨by rw [List.length_take]; omega, by rw [List.length_take]; omega⟩)) (by simp only [upd, za, zaa]; exact rfl) ?_
  refine zab rfl rfl rfl (zad (.inr rfl) (ev1 rfl)) ?_
  refine zae ?_
  refine zaf ?_
  refine zah 1 (by simp only [holes, List.cons_append, List.nil_append]; exact rfl) ?_
  refine zac ?_
  refine zab rfl rfl rfl (zad (.inl rfl) (ev1 rfl)) ?_
  refine zab rfl rfl rfl (op_ldmw rfl tb44 (ev1 rfl) rfl rfl) ?_
  refine zab rfl rfl rfl (zai [] [] [] rfl (ev1 rfl) (ec (ev1 rfl) en) rfl rfl (copied_d o (by have := opB_px hop; omega)) rfl rfl rfl rfl rfl rfl) ?_
  refine zab rfl rfl rfl (op_bsr (ps := [(0, .tmp 79)]) rfl sl25 zr44 rfl (ec (ev1 rfl) en) rfl rfl rfl (by rfl) rfl (by decide) (by decide)) ?_
  refine walk_w rfl rfl rfl (op_appr (j := 5) rfl sl25 zr44 rfl (ev1 rfl) (ev1 rfl) rfl rfl (rfl) (fun _ => ⟨by rw [List.length_take]; omega, by rw [List.length_take]; omega⟩)) (by simp only [upd, za, zaa]; exact rfl) ?_
  refine zab rfl rfl rfl (zad (.inr rfl) (ev1 rfl)) ?_
  refine zae ?_
  refine zaf ?_
  refine zah 1 (by simp only [holes, List.cons_append, List.nil_append]; exact rfl) ?_
  refine zac ?_
  refine zab rfl rfl rfl (zad (.inl rfl) (ev1 rfl)) ?_
  refine zab rfl rfl rfl (zad (.inl rfl) (ev1 rfl)) ?_
  refine zab rfl rfl rfl (zad (.inl rfl) (ev1 rfl)) ?_
  refine zab rfl rfl rfl (op_nc rfl (ev1 rfl) (fun s v h => by cases h; exact ⟨_, rfl⟩)) ?_
  refine zab rfl rfl rfl (op_fa rfl fo69_0 (ev1 rfl)) ?_
  refine zab rfl rfl rfl (op_fa rfl fo27_2 (ev1 rfl)) ?_
  refine zab rfl rfl rfl (op_ldm rfl tb25 (ev1 rfl) rfl rfl) ?_
  refine zab rfl rfl rfl (zad (.inl rfl) (ev1 rfl)) ?_
  refine zab rfl rfl rfl (op_slmmd (i := p) (j := l.ops.length) rfl sl25 (ev1 rfl) (bd_some (ev1 rfl)) bd_none (fun _ => by omega) (fun _ => by omega) (fun _ => by omega) (fun _ => rfl)) ?_
  refine walk_w rfl rfl rfl (((op_appr (j := 6) rfl sl25 zr44 rfl (ev1 rfl) (ev1 rfl) rfl rfl (ops_oc _) (fun _ => ⟨by rw [List.length_take, List.length_take, List.length_drop]; omega, by rw [List.length_take, List.length_take, List.length_drop]; omega⟩)).giveX2 (nlL_app (nlL_app (ops_nl2 _) rfl) (ops_nl2 _)) rfl rfl).cast (d' := .slm 19 (insL l.ops o p).length ((insL l.ops o p).flatMap opD)) (slm_eq (insL_len hp) (insL_fm hp))) (by simp only [upd, za, zaa]; exact rfl) ?_
  refine zab rfl rfl rfl (op_nc rfl (ev1 rfl) (fun s v h => by cases h; exact ⟨_, rfl⟩)) ?_
  refine zab rfl rfl rfl (op_fa rfl fo69_0 (ev1 rfl)) ?_
  refine zab rfl rfl rfl (op_fa rfl fo27_2 (ev1 rfl)) ?_
  refine walk_s rfl rfl (op_stm rfl tb25 (ev1 rfl) (ev1 rfl) (fun s v h => by cases h <;> exact ⟨rfl, rfl⟩) rfl (by first | decide | exact Nat.le_of_ble_eq_true rfl | simp)) (by simp only [upd, za, zaa]; exact rfl) ?_
  refine zae ?_
  refine zaf ?_
  refine dwp_draw [([], []), ([], []), ([], []), ([1], []), ([], []), ([1], []), ([], []), ([], []), ([], []), ([0], [0])] mixed (by kernel_rfl) ?_
  refine lex_r rfl rfl (zad (.inl rfl) (ev1 rfl)) ?_
  refine lex_r rfl rfl (op_fa rfl fo44_0 (ev1 rfl)) ?_
  refine lex_r rfl rfl (op_fa rfl fo37_1 (ev1 rfl)) ?_
  refine lex_r rfl rfl (op_ldm rfl tb3 (ev1 rfl) rfl rfl) ?_
  refine lex_r rfl rfl (op_fa rfl fo44_0 (ev1 rfl)) ?_
  refine lex_r rfl rfl (op_ldmv (R := [_, _, _]) rfl tb37 (ev1 rfl) rfl rfl rfl) ?_
  refine lex_r rfl rfl (op_nc rfl (ev1 rfl) (fun s v h => by cases h; exact ⟨_, rfl⟩)) ?_
  refine lex_r rfl rfl (op_fa rfl fo69_1 (ev1 rfl)) ?_
  refine lex_r rfl rfl (op_ixl rfl ar67 (ev1 rfl) (ev1 rfl) (fun _ => by omega)) ?_
  refine lex_s rfl rfl (op_stmp rfl tb37 (ev1 rfl) (evwk (ev1 rfl) (Wk.vagg _)) rfl rfl (Nat.ble_eq_true_of_le (by show _ ≤ 38; omega)) rfl (chL_up (la := la) (l := insM l o p) (j := o.id.s.toNat) (by omega) (by omega))) rfl (by simp only [upd, za, zaa]; exact rfl) ?_
  refine lex_nil ?_
  refine zaf ?_
  refine zac ?_
  refine zab rfl rfl rfl (zad (.inl rfl) (ev1 rfl)) ?_
  refine zab rfl rfl rfl (zad (.inr rfl) (ev1 rfl)) ?_
  refine zae ?_
  refine dwp_ret ?_
  refine kend [0] (rs1 rfl (rv_t rfl)) rfl rfl ?_ ⟨rfl, trivial⟩
  rfl
end Go.Proofs.YtbcnaacgillhcaaGreat
