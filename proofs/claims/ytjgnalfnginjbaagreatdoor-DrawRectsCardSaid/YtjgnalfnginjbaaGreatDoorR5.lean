/- rows of spans asked; rows of spans checked; places that may be drawn; the library's sort, and its keys in order; spans by rows; rows, one behind another; rows gathered: their order; rows gathered; rows of spans together, and clipped; what a row has, and how many; lines and rectangles; brushes; sweeps; rows copied and compared; places ranged over; Maps from flat keys to flat data: made, a new key set, measured, gone through in whatever order. Conditions: what the key's type is, by the kernel. No condition. -/
import Derived.Test.YtjgnalfnginjbaaGreatDoorR4
import Derived.Test.YtjgnalfnginjbaaGreatDoorRows
import Derived.Shelf.SortM.Plain
import Derived.Shelf.SortM.SortNone
import Derived.Shelf.SlicesG.Cmp
namespace Go.Proofs.YtjgnalfnginjbaaGreatDoor
set_option maxRecDepth 4000
set_option linter.unusedVariables false
set_option linter.unusedSimpArgs false
open Go.RowKit
theorem fo32_0 : fdO Tryz.prog 32 0 = some 0 := by kernel_rfl
theorem fo32_1 : fdO Tryz.prog 32 1 = some 1 := by kernel_rfl
theorem fo32_2 : fdO Tryz.prog 32 2 = some 2 := by kernel_rfl
def bdS (s : Sp) : Prop := (-2000 ≤ s.y ∧ s.y ≤ 2000) ∧ (-2000 ≤ s.f ∧ s.f ≤ 2000) ∧ -2000 ≤ s.t ∧ s.t ≤ 2000
theorem rch_bd {s : Sp} (h : rchS s) : bdS s := by unfold rchS at h; unfold bdS; omega
def rchB (n : Int) : Bool := decide (-256 ≤ n) && decide (n ≤ 255)
def chkE (l : List Sp) : Int := if chkS l then 0 else 160
theorem chkE_ok {l : List Sp} (h : chkS l) : chkE l = 0 := if_pos h
theorem chkE_no {l : List Sp} (h : ¬ chkS l) : chkE l = 160 := if_neg h
theorem rchS_iff (s : Sp) : (rchS s ∧ s.f ≤ s.t) ↔ (rchB s.y = true ∧ rchB s.f = true ∧ rchB s.t = true ∧ s.f ≤ s.t) := by
  unfold rchS rchB
  simp only [Bool.and_eq_true, decide_eq_true_eq]
  omega
set_option maxRecDepth 4000 in
set_option maxHeartbeats 1000000 in
theorem reached_d (n : Int) : DFun Tryz.prog 76 [.val (.int .i64 n)] [] (.val (.bool (rchB n))) [] := by
  refine zam (N := 9) 0 (by kernel_rfl) Tryz.func76 rfl rfl rfl (by simp only [fr0, Nat.zero_add, Nat.reduceAdd]; exact rfl) rfl fun s0 hs0 => ?_
  refine zaf ?_
  refine zad ?_
  refine zab rfl rfl rfl (zac (.inr rfl) (ev1 rfl)) ?_
  refine zae ?_
  refine zaf ?_
  refine zad ?_
  refine zab rfl rfl rfl (zac (.inl rfl) (ev1 rfl)) ?_
  refine zab rfl rfl rfl (op_geq rfl (ev1 rfl) (ev1 rfl)) ?_
  refine zab rfl rfl rfl (zac (.inl rfl) (ev1 rfl)) ?_
  refine zaj (gd_t rfl rfl rfl) rfl rfl rfl (zac (.inl rfl) (ev1 rfl)) ?_
  refine zaj (gd_t rfl rfl rfl) rfl rfl rfl (op_leq rfl (ev2 rfl) (ev1 rfl)) ?_
  refine zab rfl rfl rfl (op_and rfl (ev1 rfl) (ev3 rfl id)) ?_
  refine zab rfl rfl rfl (zac (.inr rfl) (ev1 rfl)) ?_
  refine zae ?_
  refine dwp_ret ?_
  refine kend0 (rs1 rfl (rv_t rfl)) rfl ?_
  rfl
set_option maxRecDepth 4000 in
set_option maxHeartbeats 1000000 in
theorem apart_d (a s : Sp) (ha : bdS a) : DFun Tryz.prog 77 [.val (.agg #[.int .i64 a.y, .int .i64 a.f, .int .i64 a.t]), .val (.agg #[.int .i64 s.y, .int .i64 s.f, .int .i64 s.t])] [] (.val (.bool (decide (apS a s)))) [] := by
  have hb := ha
  unfold bdS at hb
  refine zam (N := 25) 0 (by kernel_rfl) Tryz.func77 rfl rfl rfl (by simp only [fr0, Nat.zero_add, Nat.reduceAdd]; exact rfl) rfl fun s0 hs0 => ?_
  refine zaf ?_
  refine zah 2 (by simp only [holes, List.cons_append, List.nil_append]; exact rfl) ?_
  refine zad ?_
  refine zak rfl rfl rfl (op_boxa 0 rfl (ev1 rfl) rfl) (by simp only [upd, zaa, za]; exact rfl) ?_
  refine zak rfl rfl rfl (op_boxa 1 rfl (ev1 rfl) rfl) (by simp only [upd, zaa, za]; exact rfl) ?_
  refine zab rfl rfl rfl (zac (.inr rfl) (ev1 rfl)) ?_
  refine zae ?_
  refine zaf ?_
  refine zad ?_
  refine zab rfl rfl rfl (op_fa rfl fo32_0 (ev1 rfl)) ?_
  refine zab rfl rfl rfl (zal rfl tb3 (ev1 rfl) rfl rfl) ?_
  refine zab rfl rfl rfl (op_fa rfl fo32_0 (ev1 rfl)) ?_
  refine zab rfl rfl rfl (zal rfl tb3 (ev1 rfl) rfl rfl) ?_
  refine zab rfl rfl rfl (op_gtr rfl (ev1 rfl) (ev1 rfl)) ?_
  refine zab rfl rfl rfl (zac (.inl rfl) (ev1 rfl)) ?_
  refine zaj (gd_f rfl rfl rfl) rfl rfl rfl (op_fa rfl fo32_0 (ev1 rfl)) ?_
  refine zaj (gd_f rfl rfl rfl) rfl rfl rfl (zal rfl tb3 (ev2 rfl) rfl rfl) ?_
  refine zaj (gd_f rfl rfl rfl) rfl rfl rfl (op_fa rfl fo32_0 (ev1 rfl)) ?_
  refine zaj (gd_f rfl rfl rfl) rfl rfl rfl (zal rfl tb3 (ev2 rfl) rfl rfl) ?_
  refine zaj (gd_f rfl rfl rfl) rfl rfl rfl (op_eql rfl (ev2 rfl) (ev2 rfl)) ?_
  refine zaj (gd_f rfl rfl rfl) rfl rfl rfl (zac (.inl rfl) (ev2 rfl)) ?_
  refine zaj (gd_tt rfl rfl rfl) rfl rfl rfl (op_fa rfl fo32_1 (ev1 rfl)) ?_
  refine zaj (gd_tt rfl rfl rfl) rfl rfl rfl (zal rfl tb3 (ev2 rfl) rfl rfl) ?_
  refine zaj (gd_tt rfl rfl rfl) rfl rfl rfl (op_fa rfl fo32_2 (ev1 rfl)) ?_
  refine zaj (gd_tt rfl rfl rfl) rfl rfl rfl (zal rfl tb3 (ev2 rfl) rfl rfl) ?_
  refine zaj (gd_tt rfl rfl rfl) rfl rfl rfl (op_add' rfl (ev2 rfl) (ev1 rfl) (fun hp => IntWalk.i64_in _ (by first | omega | (simp at hp; omega)))) ?_
  refine zaj (gd_tt rfl rfl rfl) rfl rfl rfl (op_gtr rfl (ev2 rfl) (ev2 rfl)) ?_
  refine zaj (gd_f rfl rfl rfl) rfl rfl rfl (op_and rfl (ev2 rfl) (ev2 rfl)) ?_
  refine zab rfl rfl rfl (op_or rfl (ev1 rfl) (ev3 rfl id)) ?_
  refine zab rfl rfl rfl (zac (.inr rfl) (ev1 rfl)) ?_
  refine zae ?_
  refine dwp_ret ?_
  refine kend0 (rs1 rfl (rv_t rfl)) rfl ?_
  rw [D.val.injEq, Value.bool.injEq, Bool.eq_iff_iff, decide_eq_true_eq]
  unfold apS
  simp
  omega
set_option maxRecDepth 4000 in
set_option maxHeartbeats 1000000 in
theorem isSize_d (n : Int) : DFun Tryz.prog 93 [.val (.int .i64 n)] [] (.val (.bool (decide (0 ≤ n) && decide (n ≤ 15)))) [] := by
  refine zam (N := 9) 0 (by kernel_rfl) Tryz.func93 rfl rfl rfl (by simp only [fr0, Nat.zero_add, Nat.reduceAdd]; exact rfl) rfl fun s0 hs0 => ?_
  refine zaf ?_
  refine zad ?_
  refine zab rfl rfl rfl (zac (.inr rfl) (ev1 rfl)) ?_
  refine zae ?_
  refine zaf ?_
  refine zad ?_
  refine zab rfl rfl rfl (zac (.inl rfl) (ev1 rfl)) ?_
  refine zab rfl rfl rfl (op_geq rfl (ev1 rfl) (ev1 rfl)) ?_
  refine zab rfl rfl rfl (zac (.inl rfl) (ev1 rfl)) ?_
  refine zaj (gd_t rfl rfl rfl) rfl rfl rfl (zac (.inl rfl) (ev1 rfl)) ?_
  refine zaj (gd_t rfl rfl rfl) rfl rfl rfl (op_leq rfl (ev2 rfl) (ev1 rfl)) ?_
  refine zab rfl rfl rfl (op_and rfl (ev1 rfl) (ev3 rfl id)) ?_
  refine zab rfl rfl rfl (zac (.inr rfl) (ev1 rfl)) ?_
  refine zae ?_
  refine dwp_ret ?_
  refine kend0 (rs1 rfl (rv_t rfl)) rfl ?_
  rfl
set_option maxRecDepth 4000 in
set_option maxHeartbeats 1000000 in
theorem way_d (a b : Int) (ha : -5000 ≤ a ∧ a ≤ 5000) (hb : -5000 ≤ b ∧ b ≤ 5000) : DFun Tryz.prog 123 [.val (.int .i64 a), .val (.int .i64 b)] [] (.val (.int .i64 (wayN a b : Int))) [] := by
  refine zam (N := 12) 0 (by kernel_rfl) Tryz.func123 rfl rfl rfl (by simp only [fr0, Nat.zero_add, Nat.reduceAdd]; exact rfl) rfl fun s0 hs0 => ?_
  refine zaf ?_
  refine zad ?_
  refine zab rfl rfl rfl (zac (.inr rfl) (ev1 rfl)) ?_
  refine zae ?_
  refine zaf ?_
  refine zad ?_
  refine zab rfl rfl rfl (zac (.inl rfl) (ev1 rfl)) ?_
  refine zab rfl rfl rfl (zac (.inl rfl) (ev1 rfl)) ?_
  refine zab rfl rfl rfl (op_max rfl (ev1 rfl) (ev1 rfl)) ?_
  refine zab rfl rfl rfl (zac (.inl rfl) (ev1 rfl)) ?_
  refine zab rfl rfl rfl (zac (.inl rfl) (ev1 rfl)) ?_
  refine zab rfl rfl rfl (op_min rfl (ev1 rfl) (ev1 rfl)) ?_
  refine zab rfl rfl rfl (op_sub' rfl (ev1 rfl) (ev1 rfl) (fun _ => IntWalk.i64_in _ (by omega))) ?_
  refine zab rfl rfl rfl (zac (.inr rfl) (ev1 rfl)) ?_
  refine zae ?_
  refine dwp_ret ?_
  refine kend0 (rs1 rfl (rv_t rfl)) rfl ?_
  rw [wayN_eq]
def drwB (p : P2) : Bool := decide (-64 ≤ p.x) && decide (p.x ≤ 127) && decide (-64 ≤ p.y) && decide (p.y ≤ 127)
theorem drwB_iff {p : P2} : drwB p = true ↔ (-64 ≤ p.x ∧ p.x ≤ 127) ∧ -64 ≤ p.y ∧ p.y ≤ 127 := by
  unfold drwB
  simp only [Bool.and_eq_true, decide_eq_true_eq]
  omega
def drwL (l : List P2) : Bool := l.all drwB
set_option maxRecDepth 4000 in
set_option maxHeartbeats 1000000 in
theorem drawn_d (p : P2) : DFun Tryz.prog 115 [.val (.agg #[.int .i64 p.x, .int .i64 p.y])] [] (.val (.bool (drwB p))) [] := by
  refine zam (N := 21) 0 (by kernel_rfl) Tryz.func115 rfl rfl rfl (by simp only [fr0, Nat.zero_add, Nat.reduceAdd]; exact rfl) rfl fun s0 hs0 => ?_
  refine zaf ?_
  refine zah 1 (by simp only [holes, List.cons_append, List.nil_append]; exact rfl) ?_
  refine zad ?_
  refine zak rfl rfl rfl (op_boxa 0 rfl (ev1 rfl) rfl) (by simp only [upd, zaa, za]; exact rfl) ?_
  refine zab rfl rfl rfl (zac (.inr rfl) (ev1 rfl)) ?_
  refine zae ?_
  refine zaf ?_
  refine zad ?_
  refine zab rfl rfl rfl (op_fa rfl fo51_0 (ev1 rfl)) ?_
  refine zab rfl rfl rfl (zal rfl tb3 (ev1 rfl) rfl rfl) ?_
  refine zab rfl rfl rfl (op_geq rfl (ev1 rfl) (ev1 rfl)) ?_
  refine zab rfl rfl rfl (zac (.inl rfl) (ev1 rfl)) ?_
  refine zaj (gd_t rfl rfl rfl) rfl rfl rfl (op_fa rfl fo51_0 (ev1 rfl)) ?_
  refine zaj (gd_t rfl rfl rfl) rfl rfl rfl (zal rfl tb3 (ev2 rfl) rfl rfl) ?_
  refine zaj (gd_t rfl rfl rfl) rfl rfl rfl (op_leq rfl (ev2 rfl) (ev1 rfl)) ?_
  refine zab rfl rfl rfl (op_and rfl (ev1 rfl) (ev3 rfl id)) ?_
  refine zab rfl rfl rfl (zac (.inl rfl) (ev1 rfl)) ?_
  refine zaj (gd_t rfl rfl rfl) rfl rfl rfl (op_fa rfl fo51_1 (ev1 rfl)) ?_
  refine zaj (gd_t rfl rfl rfl) rfl rfl rfl (zal rfl tb3 (ev2 rfl) rfl rfl) ?_
  refine zaj (gd_t rfl rfl rfl) rfl rfl rfl (op_geq rfl (ev2 rfl) (ev1 rfl)) ?_
  refine zab rfl rfl rfl (op_and rfl (ev1 rfl) (ev3 rfl id)) ?_
  refine zab rfl rfl rfl (zac (.inl rfl) (ev1 rfl)) ?_
  refine zaj (gd_t rfl rfl rfl) rfl rfl rfl (op_fa rfl fo51_1 (ev1 rfl)) ?_
  refine zaj (gd_t rfl rfl rfl) rfl rfl rfl (zal rfl tb3 (ev2 rfl) rfl rfl) ?_
  refine zaj (gd_t rfl rfl rfl) rfl rfl rfl (op_leq rfl (ev2 rfl) (ev1 rfl)) ?_
  refine zab rfl rfl rfl (op_and rfl (ev1 rfl) (ev3 rfl id)) ?_
  refine zab rfl rfl rfl (zac (.inr rfl) (ev1 rfl)) ?_
  refine zae ?_
  refine dwp_ret ?_
  refine kend0 (rs1 rfl (rv_t rfl)) rfl ?_
  unfold drwB
  simp [Bool.and_assoc]
set_option maxRecDepth 4000 in
set_option maxHeartbeats 1000000 in
theorem undrawn1_d (p : P2) : DFun Tryz.prog 114 [.val (.agg #[.int .i64 p.x, .int .i64 p.y])] [] (.val (.bool (!drwB p))) [] := by
  refine zam (N := 6) 0 (by kernel_rfl) Tryz.func114 rfl rfl rfl (by simp only [fr0, Nat.zero_add, Nat.reduceAdd]; exact rfl) rfl fun s0 hs0 => ?_
  refine zaf ?_
  refine zah 1 (by simp only [holes, List.cons_append, List.nil_append]; exact rfl) ?_
  refine zad ?_
  refine zak rfl rfl rfl (op_boxa 0 rfl (ev1 rfl) rfl) (by simp only [upd, zaa, za]; exact rfl) ?_
  refine zab rfl rfl rfl (zac (.inr rfl) (ev1 rfl)) ?_
  refine zae ?_
  refine zaf ?_
  refine zad ?_
  refine zab rfl rfl rfl (op_ldw rfl tb51 (ev1 rfl) rfl rfl) ?_
  refine zab rfl rfl rfl (zai [] [] [] rfl (ev1 rfl) (ec (ev1 rfl) en) rfl rfl (drawn_d _) rfl rfl rfl rfl rfl rfl) ?_
  refine zab rfl rfl rfl (op_not rfl (ev1 rfl)) ?_
  refine zab rfl rfl rfl (zac (.inr rfl) (ev1 rfl)) ?_
  refine zae ?_
  refine dwp_ret ?_
  refine kend0 (rs1 rfl (rv_t rfl)) rfl ?_
  rfl
end Go.Proofs.YtjgnalfnginjbaaGreatDoor
namespace Go.Proofs.YtjgnalfnginjbaaGreatDoor
set_option maxRecDepth 4000
set_option linter.unusedVariables false
set_option linter.unusedSimpArgs false
open Go.RowKit
theorem sl25 : slE Tryz.prog 25 = some (32, 3, 24) := by kernel_rfl
theorem tb32 : tyB Tryz.prog 32 = some (true, 3) := by kernel_rfl
theorem zr32 : zrC Tryz.prog 32 = some [.int .i64 0, .int .i64 0, .int .i64 0] := by kernel_rfl
def ixZ {α : Type} (q : α → Bool) (l : List α) : Int := if l.any q = true then (l.findIdx q : Nat) else -1
theorem ixZ_no {α : Type} {q : α → Bool} {l : List α} (h : l.any q = false) : ixZ q l = -1 := by unfold ixZ; rw [h]; rfl
theorem ixZ_at {α : Type} {q : α → Bool} {l : List α} {i : Nat} (hi : i < l.length) (h : (l.take i).any q = false) (hq : q l[i] = true) : ixZ q l = i := by
  have h1 : l.any q = true := List.any_eq_true.2 ⟨_, List.getElem_mem hi, hq⟩
  have h2 : l.findIdx q = i := by
    refine (List.findIdx_eq hi).2 ⟨hq, fun j hj => ?_⟩
    have h3 := List.any_eq_false.1 h l[j] (List.mem_take_iff_getElem.2 ⟨j, by omega, rfl⟩)
    simpa using h3
  unfold ixZ
  rw [if_pos h1, h2]
theorem ixZ_nn {α : Type} (q : α → Bool) (l : List α) : decide (0 ≤ ixZ q l) = l.any q := by
  unfold ixZ
  cases h : l.any q with
  | true => simp
  | false => simp
theorem any_add {α : Type} {q : α → Bool} {l : List α} {i : Nat} (hi : i < l.length) (h : (l.take i).any q = false) (hq : q l[i] = false) : (l.take (i + 1)).any q = false := by
  rw [List.take_succ_eq_append_getElem hi, List.any_append, h]
  simp [hq]
theorem take_all {α : Type} {l : List α} {i : Nat} (h : l.length ≤ i) : l.take i = l := List.take_of_length_le h
theorem gD_at {α : Type} {l : List α} {i : Nat} (h : i < l.length) (d : α) : l.getD i d = l[i] := by rw [List.getD_eq_getElem?_getD, List.getElem?_eq_getElem h]; rfl
theorem bd_getD {l : List Sp} {i : Nat} (h : ∀ s ∈ l, bdS s) : bdS (l.getD i zSp) := by
  by_cases e : i < l.length
  · rw [gD_at e]; exact h _ (List.getElem_mem e)
  · rw [List.getD_eq_getElem?_getD, List.getElem?_eq_none (by omega)]
    show bdS zSp
    unfold bdS zSp
    decide
set_option maxRecDepth 4000 in
set_option maxHeartbeats 1000000 in
theorem uix_d (l : List P2) : DFun Tryz.prog 61 [.slf 2 l.length (l.flatMap p2), .fn (.func 114) [] []] [] (.val (.int .i64 (ixZ (fun p => !drwB p) l))) [] := by
  refine zam (N := 19) 0 (by kernel_rfl) Tryz.func61 rfl rfl rfl (by simp only [fr0, Nat.zero_add, Nat.reduceAdd]; exact rfl) rfl fun s0 hs0 => ?_
  refine dwp_len (t := 0) rfl fun hl0 hL0 => ?_
  refine zaf ?_
  refine zad ?_
  refine zab rfl rfl rfl (zac (.inr rfl) (ev1 rfl)) ?_
  refine zae ?_
  refine zaf ?_
  refine zaf ?_
  refine zad ?_
  refine zab rfl rfl rfl (zac (.inl rfl) (ev1 rfl)) ?_
  refine zab rfl rfl rfl (op_len rfl sl48 (ev1 rfl)) ?_
  refine zab rfl rfl rfl (zac (.inl rfl) (ev1 rfl)) ?_
  refine zae ?_
  refine dwp_block ?_
  refine dwp_loopS ⟨hs0, rfl⟩ (α := Nat) (fun i => [(8, .val (.int .i64 (i : Int)))]) [(0, _), (1, _), (7, _)] (fun i => []) [] (fun i => i ≤ l.length ∧ (l.take i).any (fun p => !drwB p) = false) (fun i => l.length - i) 0 [] (⟨Nat.zero_le _, rfl⟩) rfl ⟨rfl, rfl, rfl, trivial⟩ ⟨rfl, trivial⟩ trivial ?_
  intro i hx
  simp only [upd, zaa, za, List.cons_append, List.nil_append]
  obtain ⟨hi0, hno⟩ := hx
  refine zaf ?_
  refine zad ?_
  refine zab rfl rfl rfl (op_lss rfl (ev1 rfl) (ev1 rfl)) ?_
  refine zae ?_
  refine zaf ?_
  refine dwp_cond rfl (fun c1 => ?_) (fun c1 => ?_)
  · try simp only [decide_eq_true_eq, decide_eq_false_iff_not, beq_iff_eq, bne_iff_ne, beq_eq_false_iff_ne, bne_eq_false_iff_eq, Bool.not_eq_true', Bool.not_eq_false', Bool.and_eq_true, Bool.or_eq_true, Bool.or_eq_false_iff, ne_eq, Decidable.not_not, Int.not_lt, Int.not_le] at c1
    refine dwp_skip ?_
    refine zaf ?_
    refine dwp_block ?_
    refine zaf ?_
    refine zad ?_
    refine zab rfl rfl rfl (zac (.inl rfl) (ev1 rfl)) ?_
    refine zab rfl rfl rfl (zac (.inr rfl) (ev1 rfl)) ?_
    refine zae ?_
    refine zaf ?_
    refine zad ?_
    refine zab rfl rfl rfl (zac (.inl rfl) (ev1 rfl)) ?_
    refine zab rfl rfl rfl (zac (.inl rfl) (ev1 rfl)) ?_
    refine zab rfl rfl rfl (zac (.inl rfl) (ev1 rfl)) ?_
    refine zab rfl rfl rfl (op_ixsr (j := i) rfl sl48 (ev1 rfl) (ev1 rfl) (fun _ => rfl) (by decide) (by omega) (by omega)) ?_
    refine zab rfl rfl rfl (op_ldwd rfl tb51 (ev1 rfl) rfl) ?_
    refine zab rfl rfl rfl (zai [] [] [] rfl (ev1 rfl) (ec (ev1 rfl) en) rfl rfl (undrawn1_d _) rfl rfl rfl rfl rfl rfl) ?_
    refine zae ?_
    refine dwp_cond rfl (fun c2 => ?_) (fun c2 => ?_)
    · refine zaf ?_
      refine zad ?_
      refine zab rfl rfl rfl (zac (.inl rfl) (ev1 rfl)) ?_
      refine zab rfl rfl rfl (zac (.inr rfl) (ev1 rfl)) ?_
      refine zae ?_
      refine dwp_ret ?_
      refine kend0 (rs1 rfl (rv_t rfl)) rfl ?_
      rw [ixZ_at (by omega) hno c2]
    · refine dwp_skip ?_
      refine zad ?_
      refine zab rfl rfl rfl (op_add' rfl (ev1 rfl) (ev1 rfl) (fun _ => IntWalk.i64_in _ (by omega))) ?_
      refine zab rfl rfl rfl (zac (.inl rfl) (ev1 rfl)) ?_
      refine zae ?_
      have hi : i < l.length := by omega
      refine ⟨i + 1, [], ⟨by omega, any_add (by omega) hno c2⟩, by simp only []; omega, rfl, ⟨rfl, rfl, rfl, rfl, trivial⟩, trivial⟩
  · try simp only [decide_eq_true_eq, decide_eq_false_iff_not, beq_iff_eq, bne_iff_ne, beq_eq_false_iff_ne, bne_eq_false_iff_eq, Bool.not_eq_true', Bool.not_eq_false', Bool.and_eq_true, Bool.or_eq_true, Bool.or_eq_false_iff, ne_eq, Decidable.not_not, Int.not_lt, Int.not_le] at c1
    refine dwp_exit ?_
    refine zaf ?_
    refine zad ?_
    refine zab rfl rfl rfl (zac (.inr rfl) (ev1 rfl)) ?_
    refine zae ?_
    refine dwp_ret ?_
    rw [take_all (by omega)] at hno
    refine kend0 (rs1 rfl (rv_t rfl)) rfl ?_
    rw [ixZ_no hno]
set_option maxRecDepth 4000 in
set_option maxHeartbeats 1000000 in
theorem uct_d (l : List P2) : DFun Tryz.prog 23 [.slf 2 l.length (l.flatMap p2), .fn (.func 114) [] []] [] (.val (.bool (!drwL l))) [] := by
  refine zam (N := 9) 0 (by kernel_rfl) Tryz.func23 rfl rfl rfl (by simp only [fr0, Nat.zero_add, Nat.reduceAdd]; exact rfl) rfl fun s0 hs0 => ?_
  refine dwp_len (t := 0) rfl fun hl0 hL0 => ?_
  refine zaf ?_
  refine zad ?_
  refine zab rfl rfl rfl (zac (.inr rfl) (ev1 rfl)) ?_
  refine zae ?_
  refine zaf ?_
  refine zad ?_
  refine zab rfl rfl rfl (zac (.inl rfl) (ev1 rfl)) ?_
  refine zab rfl rfl rfl (zac (.inl rfl) (ev1 rfl)) ?_
  refine zab rfl rfl rfl (zai [] [] [] rfl (ev1 rfl) (ec (ev1 rfl) (ec (ev1 rfl) en)) rfl rfl (uix_d l) rfl rfl rfl rfl rfl rfl) ?_
  refine zab rfl rfl rfl (op_geq rfl (ev1 rfl) (ev1 rfl)) ?_
  refine zab rfl rfl rfl (zac (.inr rfl) (ev1 rfl)) ?_
  refine zae ?_
  refine dwp_ret ?_
  refine kend0 (rs1 rfl (rv_t rfl)) rfl ?_
  rw [ixZ_nn]
  unfold drwL
  rw [List.not_all_eq_any_not]
set_option maxRecDepth 4000 in
set_option maxHeartbeats 1000000 in
theorem undrawn_d (l : List P2) : DFun Tryz.prog 94 [.slf 2 l.length (l.flatMap p2)] [] (.val (.bool (!drwL l))) [] := by
  refine zam (N := 5) 0 (by kernel_rfl) Tryz.func94 rfl rfl rfl (by simp only [fr0, Nat.zero_add, Nat.reduceAdd]; exact rfl) rfl fun s0 hs0 => ?_
  refine dwp_len (t := 0) rfl fun hl0 hL0 => ?_
  refine zaf ?_
  refine zad ?_
  refine zab rfl rfl rfl (zac (.inr rfl) (ev1 rfl)) ?_
  refine zae ?_
  refine zaf ?_
  refine zad ?_
  refine zab rfl rfl rfl (zac (.inl rfl) (ev1 rfl)) ?_
  refine zab rfl rfl rfl (zai [] [] [] rfl (ev1 rfl) (ec (ev1 rfl) (ec (ev1 rfl) en)) rfl rfl (uct_d l) rfl rfl rfl rfl rfl rfl) ?_
  refine zab rfl rfl rfl (zac (.inr rfl) (ev1 rfl)) ?_
  refine zae ?_
  refine dwp_ret ?_
  refine kend0 (rs1 rfl (rv_t rfl)) rfl ?_
  rfl
set_option maxRecDepth 4000 in
set_option maxHeartbeats 1000000 in
theorem check_d (l : List Sp) : DFun Tryz.prog 35 [.slf 3 l.length (l.flatMap s3)] [] (.val (.int .i64 (chkE l))) [] := by
  refine zam (N := 48) 0 (by kernel_rfl) Tryz.func35 rfl rfl rfl (by simp only [fr0, Nat.zero_add, Nat.reduceAdd]; exact rfl) rfl fun s0 hs0 => ?_
  refine dwp_len (t := 0) rfl fun hl0 hL0 => ?_
  refine zaf ?_
  refine zad ?_
  refine zab rfl rfl rfl (zac (.inr rfl) (ev1 rfl)) ?_
  refine zae ?_
  refine zaf ?_
  refine zaf ?_
  refine zad ?_
  refine zab rfl rfl rfl (zac (.inl rfl) (ev1 rfl)) ?_
  refine zab rfl rfl rfl (op_len rfl sl25 (ev1 rfl)) ?_
  refine zab rfl rfl rfl (zac (.inl rfl) (ev1 rfl)) ?_
  refine zae ?_
  refine dwp_block ?_
  refine dwp_loopS ⟨hs0, rfl⟩ (α := Nat) (fun i => [(7, .val (.int .i64 (i : Int)))]) [(0, _), (5, _), (6, _)] (fun i => []) [] (fun i => i ≤ l.length ∧ chkS (l.take i)) (fun i => l.length - i) 0 [] (⟨Nat.zero_le _, chkS_nil⟩) rfl ⟨rfl, rfl, rfl, trivial⟩ ⟨rfl, trivial⟩ trivial ?_
  intro i hx
  simp only [upd, zaa, za, List.cons_append, List.nil_append]
  obtain ⟨hi0, hok⟩ := hx
  refine zaf ?_
  refine zad ?_
  refine zab rfl rfl rfl (op_lss rfl (ev1 rfl) (ev1 rfl)) ?_
  refine zae ?_
  refine zaf ?_
  refine dwp_cond rfl (fun c1 => ?_) (fun c1 => ?_)
  · try simp only [decide_eq_true_eq, decide_eq_false_iff_not, beq_iff_eq, bne_iff_ne, beq_eq_false_iff_ne, bne_eq_false_iff_eq, Bool.not_eq_true', Bool.not_eq_false', Bool.and_eq_true, Bool.or_eq_true, Bool.or_eq_false_iff, ne_eq, Decidable.not_not, Int.not_lt, Int.not_le] at c1
    refine dwp_skip ?_
    refine zaf ?_
    refine dwp_block ?_
    refine zaf ?_
    have hi : i < l.length := by omega
    refine zah 1 (by simp only [holes, List.cons_append, List.nil_append]; exact rfl) ?_
    refine zad ?_
    refine zab rfl rfl rfl (zac (.inl rfl) (ev1 rfl)) ?_
    refine zab rfl rfl rfl (op_ixsr (j := i) rfl sl25 (ev1 rfl) (ev1 rfl) (fun _ => rfl) (by decide) (by omega) (by omega)) ?_
    refine zab rfl rfl rfl (op_ldwd rfl tb32 (ev1 rfl) rfl) ?_
    refine zak rfl rfl rfl (op_alloc 0 rfl zr32 rfl) (by simp only [upd, zaa, za]; exact rfl) ?_
    refine zab rfl rfl rfl (zac (.inr rfl) (ev1 rfl)) ?_
    refine walk_s rfl rfl (op_stwa rfl tb32 (ev1 rfl) (ev1 rfl) rfl rfl rfl rfl) (by simp only [upd, zaa, za]; exact rfl) ?_
    refine zae ?_
    refine zaf ?_
    refine zaf ?_
    have hri := rchS_iff l[i]
    refine zad ?_
    refine zab rfl rfl rfl (op_fa rfl fo32_0 (ev1 rfl)) ?_
    refine zab rfl rfl rfl (zal rfl tb3 (ev1 rfl) rfl rfl) ?_
    refine zab rfl rfl rfl (zai [] [] [] rfl (ev1 rfl) (ec (ev1 rfl) en) rfl rfl (reached_d _) rfl rfl rfl rfl rfl rfl) ?_
    refine zab rfl rfl rfl (op_not rfl (ev1 rfl)) ?_
    refine zab rfl rfl rfl (zac (.inl rfl) (ev1 rfl)) ?_
    refine zaj (gd_f rfl rfl rfl) rfl rfl rfl (op_fa rfl fo32_1 (ev1 rfl)) ?_
    refine zaj (gd_f rfl rfl rfl) rfl rfl rfl (zal rfl tb3 (ev2 rfl) rfl rfl) ?_
    refine zaj (gd_f rfl rfl rfl) rfl rfl rfl (zai [] [] [] rfl (ev1 rfl) (ec (ev2 rfl) en) rfl rfl (reached_d _) rfl rfl rfl rfl rfl rfl) ?_
    refine zaj (gd_f rfl rfl rfl) rfl rfl rfl (op_not rfl (ev2 rfl)) ?_
    refine zab rfl rfl rfl (op_or rfl (ev1 rfl) (ev3 rfl id)) ?_
    refine zab rfl rfl rfl (zac (.inl rfl) (ev1 rfl)) ?_
    refine zaj (gd_f rfl rfl rfl) rfl rfl rfl (op_fa rfl fo32_2 (ev1 rfl)) ?_
    refine zaj (gd_f rfl rfl rfl) rfl rfl rfl (zal rfl tb3 (ev2 rfl) rfl rfl) ?_
    refine zaj (gd_f rfl rfl rfl) rfl rfl rfl (zai [] [] [] rfl (ev1 rfl) (ec (ev2 rfl) en) rfl rfl (reached_d _) rfl rfl rfl rfl rfl rfl) ?_
    refine zaj (gd_f rfl rfl rfl) rfl rfl rfl (op_not rfl (ev2 rfl)) ?_
    refine zab rfl rfl rfl (op_or rfl (ev1 rfl) (ev3 rfl id)) ?_
    refine zab rfl rfl rfl (zac (.inl rfl) (ev1 rfl)) ?_
    refine zaj (gd_f rfl rfl rfl) rfl rfl rfl (op_fa rfl fo32_1 (ev1 rfl)) ?_
    refine zaj (gd_f rfl rfl rfl) rfl rfl rfl (zal rfl tb3 (ev2 rfl) rfl rfl) ?_
    refine zaj (gd_f rfl rfl rfl) rfl rfl rfl (op_fa rfl fo32_2 (ev1 rfl)) ?_
    refine zaj (gd_f rfl rfl rfl) rfl rfl rfl (zal rfl tb3 (ev2 rfl) rfl rfl) ?_
    refine zaj (gd_f rfl rfl rfl) rfl rfl rfl (op_gtr rfl (ev2 rfl) (ev2 rfl)) ?_
    refine zab rfl rfl rfl (op_or rfl (ev1 rfl) (ev3 rfl id)) ?_
    refine zae ?_
    refine dwp_cond rfl (fun c2 => ?_) (fun c2 => ?_)
    · have hv : ¬ (rchS l[i] ∧ l[i].f ≤ l[i].t) := by
        intro hv
        obtain ⟨g1, g2, g3, g4⟩ := hri.1 hv
        rw [g1, g2, g3] at c2
        simp at c2
        omega
      refine zaf ?_
      refine zad ?_
      refine zab rfl rfl rfl (zac (.inr rfl) (ev1 rfl)) ?_
      refine zae ?_
      refine dwp_ret ?_
      refine kend0 (rs1 rfl (rv_t rfl)) rfl ?_
      rw [chkE_no (chkS_not1 hi hv)]
    · have hv : rchS l[i] ∧ l[i].f ≤ l[i].t := hri.2 (by revert c2; cases rchB l[i].y <;> cases rchB l[i].f <;> cases rchB l[i].t <;> simp)
      refine dwp_skip ?_
      refine zaf ?_
      have hbd : bdS (l.getD (i - 1) zSp) := by
          by_cases e : 0 < i
          · rw [gD_at (by omega)]; exact rch_bd ((hok.1 _ (List.mem_take_iff_getElem.2 ⟨i - 1, by omega, rfl⟩)).1)
          · obtain rfl : i = 0 := by omega
            rw [gD_at hi]; exact rch_bd hv.1
      refine dwp_draw [([], []), ([], []), ([], []), ([], []), ([], []), ([], []), ([], []), ([], []), ([0], []), ([], []), ([], []), ([], [])] mixed (by kernel_rfl) ?_
      refine zag rfl rfl (zac (.inl rfl) (ev1 rfl)) ?_
      refine zag rfl rfl (op_gtr rfl (ev1 rfl) (ev1 rfl)) ?_
      refine zag rfl rfl (zac (.inl rfl) (ev1 rfl)) ?_
      refine lex_gr (gd_t rfl rfl rfl) rfl rfl (zac (.inl rfl) (ev1 rfl)) ?_
      refine lex_gr (gd_t rfl rfl rfl) rfl rfl (zac (.inl rfl) (ev1 rfl)) ?_
      refine lex_gr (gd_t rfl rfl rfl) rfl rfl (op_sub' rfl (ev2 rfl) (ev1 rfl) (fun hp => IntWalk.i64_in _ (by first | omega | (simp at hp; omega)))) ?_
      refine lex_gr (gd_t rfl rfl rfl) rfl rfl (op_ixsg (j := i - 1) (zSp) rfl sl25 (ev2 rfl) (ev2 rfl) (fun _ => rfl) (by decide) (fun hp => by first | omega | (simp at hp; omega)) (fun hp => by first | omega | (simp at hp; omega))) ?_
      refine lex_gr (gd_t rfl rfl rfl) rfl rfl (op_ldwd rfl tb32 (ev2 rfl) rfl) ?_
      refine lex_gr (gd_t rfl rfl rfl) rfl rfl (op_ldw rfl tb32 (ev1 rfl) rfl rfl) ?_
      refine lex_gr (gd_t rfl rfl rfl) rfl rfl (zai [] [] [] rfl (ev1 rfl) (ec (ev2 rfl) (ec (ev2 rfl) en)) rfl rfl (apart_d _ _ hbd) rfl rfl rfl rfl rfl rfl) ?_
      refine lex_gr (gd_t rfl rfl rfl) rfl rfl (op_not rfl (ev2 rfl)) ?_
      refine zag rfl rfl (op_and rfl (ev1 rfl) (ev3 rfl id)) ?_
      refine lex_nil ?_
      refine dwp_cond rfl (fun c3 => ?_) (fun c3 => ?_)
      · have h0 : 0 < i := by simp at c3; omega
        have hap : ¬ apS l[i - 1] l[i] := by rw [gD_at (by omega)] at c3; simp at c3; exact c3.2
        refine zaf ?_
        refine zad ?_
        refine zab rfl rfl rfl (zac (.inr rfl) (ev1 rfl)) ?_
        refine zae ?_
        refine dwp_ret ?_
        refine kend0 (rs1 rfl (rv_t rfl)) rfl ?_
        rw [chkE_no (chkS_not2 hi h0 hap)]
      · have hok2 := chkS_add hi hok hv fun h0 => by rw [gD_at (by omega)] at c3; simp at c3; exact c3 (by omega)
        refine dwp_skip ?_
        refine zad ?_
        refine zab rfl rfl rfl (op_add' rfl (ev1 rfl) (ev1 rfl) (fun _ => IntWalk.i64_in _ (by omega))) ?_
        refine zab rfl rfl rfl (zac (.inl rfl) (ev1 rfl)) ?_
        refine zae ?_
        refine ⟨i + 1, [], ⟨by omega, hok2⟩, by simp only []; omega, rfl, ⟨rfl, rfl, rfl, rfl, trivial⟩, trivial⟩
  · try simp only [decide_eq_true_eq, decide_eq_false_iff_not, beq_iff_eq, bne_iff_ne, beq_eq_false_iff_ne, bne_eq_false_iff_eq, Bool.not_eq_true', Bool.not_eq_false', Bool.and_eq_true, Bool.or_eq_true, Bool.or_eq_false_iff, ne_eq, Decidable.not_not, Int.not_lt, Int.not_le] at c1
    refine dwp_exit ?_
    refine zaf ?_
    refine zad ?_
    refine zab rfl rfl rfl (zac (.inr rfl) (ev1 rfl)) ?_
    refine zae ?_
    refine dwp_ret ?_
    rw [take_all (by omega)] at hok
    refine kend0 (rs1 rfl (rv_t rfl)) rfl ?_
    rw [chkE_ok hok]
end Go.Proofs.YtjgnalfnginjbaaGreatDoor
namespace Go.Proofs.YtjgnalfnginjbaaGreatDoor
set_option maxRecDepth 4000
set_option linter.unusedVariables false
set_option linter.unusedSimpArgs false
open Go.RowKit
open Go.Shelf Go.Lib
def sortF_ren : Go.Shelf.Ren := ⟨fun | 6 => 120 | 15 => 137 | 14 => 136 | 28 => 150 | 29 => 151 | 20 => 142 | 21 => 143 | 22 => 144 | 23 => 145 | 24 => 146 | 25 => 147 | 26 => 148 | 27 => 149 | 46 => 161 | 47 => 162 | 48 => 163 | 49 => 164 | 50 => 165 | 57 => 169 | n => n, fun | 22 => 25 | 24 => 32 | 25 => 171 | 3 => 3 | 39 => 186 | 0 => 0 | 53 => 198 | 55 => 200 | 4 => 4 | 46 => 191 | 45 => 190 | 50 => 195 | 5 => 5 | 9 => 9 | 66 => 206 | 70 => 210 | 76 => 214 | 77 => 104 | n => n, fun | n => n⟩
theorem sortF : Go.Proofs.SlLaysF0.n6 Tryz.prog sortF_ren := {
  mixed := by kernel_rfl
  f6 := ⟨Tryz.f120.name, by decide, Tryz.func120.trans (congrArg some (by kernel_rfl))⟩
  f14 := ⟨Tryz.f136.name, by decide, Tryz.func136.trans (congrArg some (by kernel_rfl))⟩
  f15 := Tryz.func137.trans (congrArg some (by kernel_rfl))
  f20 := ⟨Tryz.f142.name, by decide, Tryz.func142.trans (congrArg some (by kernel_rfl))⟩
  f21 := ⟨Tryz.f143.name, by decide, Tryz.func143.trans (congrArg some (by kernel_rfl))⟩
  f22 := ⟨Tryz.f144.name, by decide, Tryz.func144.trans (congrArg some (by kernel_rfl))⟩
  f23 := ⟨Tryz.f145.name, by decide, Tryz.func145.trans (congrArg some (by kernel_rfl))⟩
  f24 := ⟨Tryz.f146.name, by decide, Tryz.func146.trans (congrArg some (by kernel_rfl))⟩
  f25 := ⟨Tryz.f147.name, by decide, Tryz.func147.trans (congrArg some (by kernel_rfl))⟩
  f26 := ⟨Tryz.f148.name, by decide, Tryz.func148.trans (congrArg some (by kernel_rfl))⟩
  f27 := ⟨Tryz.f149.name, by decide, Tryz.func149.trans (congrArg some (by kernel_rfl))⟩
  f28 := Tryz.func150.trans (congrArg some (by kernel_rfl))
  f29 := Tryz.func151.trans (congrArg some (by kernel_rfl))
  f46 := ⟨Tryz.f161.name, by decide, Tryz.func161.trans (congrArg some (by kernel_rfl))⟩
  f47 := Tryz.func162.trans (congrArg some (by kernel_rfl))
  f48 := Tryz.func163.trans (congrArg some (by kernel_rfl))
  f49 := ⟨Tryz.f164.name, by decide, Tryz.func164.trans (congrArg some (by kernel_rfl))⟩
  f50 := ⟨Tryz.f165.name, by decide, Tryz.func165.trans (congrArg some (by kernel_rfl))⟩
  f57 := ⟨Tryz.f169.name, by decide, Tryz.func169.trans (congrArg some (by kernel_rfl))⟩
  t0 := Tryz.underlying0
  a0 := Tryz.isAgg0
  z0 := Tryz.sizeOf0
  v0 := Tryz.zeroValue0
  t3 := Tryz.underlying3
  a3 := Tryz.isAgg3
  z3 := Tryz.sizeOf3
  v3 := Tryz.zeroValue3
  t4 := Tryz.underlying4
  a4 := Tryz.isAgg4
  z4 := Tryz.sizeOf4
  v4 := Tryz.zeroValue4
  t5 := Tryz.underlying5
  a5 := Tryz.isAgg5
  z5 := Tryz.sizeOf5
  v5 := Tryz.zeroValue5
  t9 := Tryz.underlying9
  a9 := Tryz.isAgg9
  z9 := Tryz.sizeOf9
  v9 := Tryz.zeroValue9
  t22 := Tryz.underlying25
  a22 := Tryz.isAgg25
  z22 := Tryz.sizeOf25
  v22 := Tryz.zeroValue25
  t25 := Tryz.underlying171
  a25 := Tryz.isAgg171
  z25 := Tryz.sizeOf171
  v25 := Tryz.zeroValue171
  t39 := Tryz.underlying186
  a39 := Tryz.isAgg186
  z39 := Tryz.sizeOf186
  v39 := Tryz.zeroValue186
  t45 := Tryz.underlying190
  a45 := Tryz.isAgg190
  z45 := Tryz.sizeOf190
  v45 := Tryz.zeroValue190
  t46 := Tryz.underlying191
  a46 := Tryz.isAgg191
  z46 := Tryz.sizeOf191
  v46 := Tryz.zeroValue191
  t50 := Tryz.underlying195
  a50 := Tryz.isAgg195
  z50 := Tryz.sizeOf195
  v50 := Tryz.zeroValue195
  t53 := Tryz.underlying198
  a53 := Tryz.isAgg198
  z53 := Tryz.sizeOf198
  v53 := Tryz.zeroValue198
  t55 := Tryz.underlying200
  a55 := Tryz.isAgg200
  z55 := Tryz.sizeOf200
  v55 := Tryz.zeroValue200
  t66 := Tryz.underlying206
  a66 := Tryz.isAgg206
  z66 := Tryz.sizeOf206
  v66 := Tryz.zeroValue206
  t70 := Tryz.underlying210
  a70 := Tryz.isAgg210
  z70 := Tryz.sizeOf210
  v70 := Tryz.zeroValue210
  t76 := Tryz.underlying214
  a76 := Tryz.isAgg214
  z76 := Tryz.sizeOf214
  v76 := Tryz.zeroValue214
  t77 := Tryz.underlying104
  a77 := Tryz.isAgg104
  z77 := Tryz.sizeOf104
  v77 := Tryz.zeroValue104 }
def keysL_ren : Go.Shelf.Ren := ⟨fun | 7 => 119 | 10 => 135 | n => n, fun | 23 => 164 | 26 => 3 | 3 => 25 | 28 => 168 | 0 => 0 | 27 => 167 | 33 => 91 | 4 => 4 | n => n, fun | n => n⟩
theorem keysL : Go.Proofs.SlLaysZI.n7 Tryz.prog keysL_ren := {
  mixed := by kernel_rfl
  f7 := ⟨Tryz.f119.name, by decide, Tryz.func119.trans (congrArg some (by kernel_rfl))⟩
  f10 := ⟨Tryz.f135.name, by decide, Tryz.func135.trans (congrArg some (by kernel_rfl))⟩
  t0 := Tryz.underlying0
  a0 := Tryz.isAgg0
  z0 := Tryz.sizeOf0
  v0 := Tryz.zeroValue0
  t4 := Tryz.underlying4
  a4 := Tryz.isAgg4
  z4 := Tryz.sizeOf4
  v4 := Tryz.zeroValue4
  t23 := Tryz.underlying164
  a23 := Tryz.isAgg164
  z23 := Tryz.sizeOf164
  v23 := Tryz.zeroValue164
  t26 := Tryz.underlying3
  a26 := Tryz.isAgg3
  z26 := Tryz.sizeOf3
  v26 := Tryz.zeroValue3
  t27 := Tryz.underlying167
  a27 := Tryz.isAgg167
  z27 := Tryz.sizeOf167
  v27 := Tryz.zeroValue167
  t28 := Tryz.underlying168
  a28 := Tryz.isAgg168
  z28 := Tryz.sizeOf168
  v28 := Tryz.zeroValue168
  t33 := Tryz.underlying91
  a33 := Tryz.isAgg91
  z33 := Tryz.sizeOf91
  v33 := Tryz.zeroValue91 }
def sortedL_ren : Go.Shelf.Ren := ⟨fun | 6 => 118 | 8 => 133 | 9 => 134 | 11 => 140 | 13 => 137 | 12 => 141 | 23 => 150 | 24 => 151 | 14 => 152 | 15 => 153 | 16 => 154 | 17 => 155 | 18 => 156 | 19 => 157 | 20 => 158 | 21 => 159 | 22 => 160 | 25 => 166 | 26 => 162 | 27 => 163 | 28 => 167 | 29 => 168 | 30 => 138 | 31 => 170 | n => n, fun | 26 => 3 | 28 => 168 | 24 => 165 | 0 => 0 | 3 => 3 | 37 => 186 | 48 => 198 | 50 => 200 | 4 => 4 | 40 => 191 | 39 => 190 | 45 => 195 | 5 => 5 | 9 => 9 | 51 => 206 | 55 => 210 | 57 => 214 | 58 => 104 | 33 => 91 | n => n, fun | n => n⟩
theorem sortedL : Go.Proofs.SlLaysZI.n6 Tryz.prog sortedL_ren := {
  mixed := by kernel_rfl
  f6 := ⟨Tryz.f118.name, by decide, Tryz.func118.trans (congrArg some (by kernel_rfl))⟩
  f8 := ⟨Tryz.f133.name, by decide, Tryz.func133.trans (congrArg some (by kernel_rfl))⟩
  f11 := ⟨Tryz.f140.name, by decide, Tryz.func140.trans (congrArg some (by kernel_rfl))⟩
  t0 := Tryz.underlying0
  a0 := Tryz.isAgg0
  z0 := Tryz.sizeOf0
  v0 := Tryz.zeroValue0
  t24 := Tryz.underlying165
  a24 := Tryz.isAgg165
  z24 := Tryz.sizeOf165
  v24 := Tryz.zeroValue165
  t26 := Tryz.underlying3
  a26 := Tryz.isAgg3
  z26 := Tryz.sizeOf3
  v26 := Tryz.zeroValue3
  t28 := Tryz.underlying168
  a28 := Tryz.isAgg168
  z28 := Tryz.sizeOf168
  v28 := Tryz.zeroValue168
  i26 := by kernel_rfl }
def sortL_ren : Go.Shelf.Ren := ⟨fun | 5 => 134 | 8 => 137 | 7 => 141 | 19 => 150 | 20 => 151 | 10 => 152 | 11 => 153 | 12 => 154 | 13 => 155 | 14 => 156 | 15 => 157 | 16 => 158 | 17 => 159 | 18 => 160 | 30 => 166 | 31 => 162 | 32 => 163 | 33 => 167 | 34 => 168 | 35 => 138 | 40 => 170 | n => n, fun | 23 => 165 | 25 => 3 | 3 => 3 | 32 => 186 | 22 => 165 | 0 => 0 | 44 => 198 | 46 => 200 | 4 => 4 | 36 => 191 | 35 => 190 | 41 => 195 | 5 => 5 | 9 => 9 | 53 => 206 | 57 => 210 | 63 => 214 | 64 => 104 | n => n, fun | n => n⟩
theorem sortL : Go.Proofs.SlLaysM.n5 Tryz.prog sortL_ren := {
  mixed := by kernel_rfl
  f5 := ⟨Tryz.f134.name, by decide, Tryz.func134.trans (congrArg some (by kernel_rfl))⟩
  f7 := ⟨Tryz.f141.name, by decide, Tryz.func141.trans (congrArg some (by kernel_rfl))⟩
  f8 := Tryz.func137.trans (congrArg some (by kernel_rfl))
  f10 := ⟨Tryz.f152.name, by decide, Tryz.func152.trans (congrArg some (by kernel_rfl))⟩
  f11 := ⟨Tryz.f153.name, by decide, Tryz.func153.trans (congrArg some (by kernel_rfl))⟩
  f12 := ⟨Tryz.f154.name, by decide, Tryz.func154.trans (congrArg some (by kernel_rfl))⟩
  f13 := ⟨Tryz.f155.name, by decide, Tryz.func155.trans (congrArg some (by kernel_rfl))⟩
  f14 := ⟨Tryz.f156.name, by decide, Tryz.func156.trans (congrArg some (by kernel_rfl))⟩
  f15 := ⟨Tryz.f157.name, by decide, Tryz.func157.trans (congrArg some (by kernel_rfl))⟩
  f16 := ⟨Tryz.f158.name, by decide, Tryz.func158.trans (congrArg some (by kernel_rfl))⟩
  f17 := ⟨Tryz.f159.name, by decide, Tryz.func159.trans (congrArg some (by kernel_rfl))⟩
  f18 := ⟨Tryz.f160.name, by decide, Tryz.func160.trans (congrArg some (by kernel_rfl))⟩
  f19 := Tryz.func150.trans (congrArg some (by kernel_rfl))
  f20 := Tryz.func151.trans (congrArg some (by kernel_rfl))
  f30 := ⟨Tryz.f166.name, by decide, Tryz.func166.trans (congrArg some (by kernel_rfl))⟩
  f31 := Tryz.func162.trans (congrArg some (by kernel_rfl))
  f32 := Tryz.func163.trans (congrArg some (by kernel_rfl))
  f33 := ⟨Tryz.f167.name, by decide, Tryz.func167.trans (congrArg some (by kernel_rfl))⟩
  f34 := ⟨Tryz.f168.name, by decide, Tryz.func168.trans (congrArg some (by kernel_rfl))⟩
  f35 := ⟨Tryz.f138.name, by decide, Tryz.func138.trans (congrArg some (by kernel_rfl))⟩
  f40 := ⟨Tryz.f170.name, by decide, Tryz.func170.trans (congrArg some (by kernel_rfl))⟩
  t0 := Tryz.underlying0
  a0 := Tryz.isAgg0
  z0 := Tryz.sizeOf0
  v0 := Tryz.zeroValue0
  t3 := Tryz.underlying3
  a3 := Tryz.isAgg3
  z3 := Tryz.sizeOf3
  v3 := Tryz.zeroValue3
  t4 := Tryz.underlying4
  a4 := Tryz.isAgg4
  z4 := Tryz.sizeOf4
  v4 := Tryz.zeroValue4
  t5 := Tryz.underlying5
  a5 := Tryz.isAgg5
  z5 := Tryz.sizeOf5
  v5 := Tryz.zeroValue5
  t9 := Tryz.underlying9
  a9 := Tryz.isAgg9
  z9 := Tryz.sizeOf9
  v9 := Tryz.zeroValue9
  t22 := Tryz.underlying165
  a22 := Tryz.isAgg165
  z22 := Tryz.sizeOf165
  v22 := Tryz.zeroValue165
  t23 := Tryz.underlying165
  a23 := Tryz.isAgg165
  z23 := Tryz.sizeOf165
  v23 := Tryz.zeroValue165
  t25 := Tryz.underlying3
  a25 := Tryz.isAgg3
  z25 := Tryz.sizeOf3
  v25 := Tryz.zeroValue3
  t32 := Tryz.underlying186
  a32 := Tryz.isAgg186
  z32 := Tryz.sizeOf186
  v32 := Tryz.zeroValue186
  t35 := Tryz.underlying190
  a35 := Tryz.isAgg190
  z35 := Tryz.sizeOf190
  v35 := Tryz.zeroValue190
  t36 := Tryz.underlying191
  a36 := Tryz.isAgg191
  z36 := Tryz.sizeOf191
  v36 := Tryz.zeroValue191
  t41 := Tryz.underlying195
  a41 := Tryz.isAgg195
  z41 := Tryz.sizeOf195
  v41 := Tryz.zeroValue195
  t44 := Tryz.underlying198
  a44 := Tryz.isAgg198
  z44 := Tryz.sizeOf198
  v44 := Tryz.zeroValue198
  t46 := Tryz.underlying200
  a46 := Tryz.isAgg200
  z46 := Tryz.sizeOf200
  v46 := Tryz.zeroValue200
  t53 := Tryz.underlying206
  a53 := Tryz.isAgg206
  z53 := Tryz.sizeOf206
  v53 := Tryz.zeroValue206
  t57 := Tryz.underlying210
  a57 := Tryz.isAgg210
  z57 := Tryz.sizeOf210
  v57 := Tryz.zeroValue210
  t63 := Tryz.underlying214
  a63 := Tryz.isAgg214
  z63 := Tryz.sizeOf214
  v63 := Tryz.zeroValue214
  t64 := Tryz.underlying104
  a64 := Tryz.isAgg104
  z64 := Tryz.sizeOf104
  v64 := Tryz.zeroValue104 }
def cmpL_ren : Go.Shelf.Ren := ⟨fun | 5 => 122 | 7 => 138 | n => n, fun | 22 => 3 | 3 => 3 | 4 => 4 | n => n, fun | n => n⟩
theorem cmpL : Go.Proofs.SlLaysC2.n5 Tryz.prog cmpL_ren := {
  mixed := by kernel_rfl
  f5 := ⟨Tryz.f122.name, by decide, Tryz.func122.trans (congrArg some (by kernel_rfl))⟩
  f7 := ⟨Tryz.f138.name, by decide, Tryz.func138.trans (congrArg some (by kernel_rfl))⟩
  t3 := Tryz.underlying3
  a3 := Tryz.isAgg3
  z3 := Tryz.sizeOf3
  v3 := Tryz.zeroValue3
  t4 := Tryz.underlying4
  a4 := Tryz.isAgg4
  z4 := Tryz.sizeOf4
  v4 := Tryz.zeroValue4
  t22 := Tryz.underlying3
  a22 := Tryz.isAgg3
  z22 := Tryz.sizeOf3
  v22 := Tryz.zeroValue3 }
instance instInhSp : Inhabited Sp := ⟨zSp⟩
def cfS (x y : Sp) : Int := Lib.compareInt x.f y.f
theorem cfS_lt (x y : Sp) : ltOf cfS x y = decide (x.f < y.f) := by
  unfold ltOf cfS Lib.compareInt
  by_cases h1 : x.f < y.f
  · simp [h1]
  · by_cases h2 : y.f < x.f <;> simp [h1, h2]
theorem cfS_swo : Sort.SWO (ltOf cfS) where
  irrefl x := by rw [cfS_lt]; simp
  trans x y z h1 h2 := by rw [cfS_lt] at *; simp at *; omega
  ntrans x y z h1 h2 := by rw [cfS_lt] at *; simp at *; omega
set_option maxHeartbeats 10000000 in
theorem gath1_c (x y : Sp) (W : World) : Calls Tryz.prog 121 #[.agg #[.int .i64 x.y, .int .i64 x.f, .int .i64 x.t], .agg #[.int .i64 y.y, .int .i64 y.f, .int .i64 y.t]] W fun e w' => e = .returned (.int .i64 (Lib.compareInt x.f y.f)) ∧ ∃ q os', w' = Sort.grow (W.drewN q) os' := by
  have hcon := fun W' => AnyG.cmp_Compare_int cmpL x.f y.f W'
  change ∀ W', Calls Tryz.prog 122 _ _ _ at hcon
  generalize Lib.compareInt x.f y.f = r at hcon ⊢
  go_enter Tryz.func121, Tryz.ntmps121
  go_wp2_with (go_at_call 122; refine (hcon _).mono ?_; rintro e w' ⟨rfl, rfl⟩)
  go_ret
  exact ⟨rfl, 0, _, by rw [Sort.alloc_eq_grow, Sort.alloc_eq_grow, Sort.grow_grow]; rfl⟩
theorem gath1_lays (blk off size : Nat) (w : World) : CmpLays Tryz.prog 121 #[] s3 3 cfS blk off size w :=
  fun _ _ _ _ x y => gath1_c x y _
def srtS (l : List Sp) : List Sp := (Sort.pdq (ltOf cfS) l.toArray 0 l.length (Lib.bitLen l.length) true true).toList
theorem srtS_ok (l : List Sp) : (srtS l).Perm l ∧ (srtS l).Pairwise (fun a b => a.f ≤ b.f) := by
  have h := Sort.pdq_sorts (ltOf cfS) cfS_swo l.toArray 0 l.length (Lib.bitLen l.length) true true (Nat.zero_le _) (by simp) (Or.inl rfl)
  obtain ⟨⟨h1, _, h3⟩, h4⟩ := h
  have hsz : (srtS l).length = l.length := by unfold srtS; simpa using h1
  refine ⟨?_, ?_⟩
  · have e1 : ∀ a : Array Sp, a.size = l.length → (a.extract 0 l.length).toList = a.toList := fun a ha => by rw [← ha, Array.extract_size]
    rw [e1 _ (by simpa using h1), e1 _ (by simp)] at h3
    exact h3
  · refine List.pairwise_iff_getElem.2 fun i j hi hj hij => ?_
    have := h4 i j (Nat.zero_le _) hij (by omega)
    rw [cfS_lt, decide_eq_false_iff_not, Int.not_lt] at this
    have e2 : ∀ k (hk : k < (srtS l).length), (Sort.pdq (ltOf cfS) l.toArray 0 l.length (Lib.bitLen l.length) true true)[k]! = (srtS l)[k] := fun k hk => by
      have hk' : k < (Sort.pdq (ltOf cfS) l.toArray 0 l.length (Lib.bitLen l.length) true true).size := by unfold srtS at hk; simpa using hk
      rw [getElem!_pos _ k hk']
      rfl
    rw [e2 i hi, e2 j hj] at this
    exact this
theorem srtS_len (l : List Sp) : (srtS l).length = l.length := (srtS_ok l).1.length_eq
theorem spSort_d (l : List Sp) (hne : l ≠ []) (hsz : l.length < 4611686018427387904) : DFun Tryz.prog 120 [.arr 0, .fn (.func 121) [] []] [.arr 32 3 l.length (l.flatMap s3)] (.tup []) [.arr 32 3 l.length ((srtS l).flatMap s3)] := by
  refine sortFunc_d (cf := cfS) s3_len (by decide) (fun _ => rfl) (by kernel_rfl) (fun b cap w hH hb => ?_) cfS_swo hne
  have := AnyQ.slices_SortFunc_eq sortF 3 Tryz.isAgg32 Tryz.sizeOf32 s3 (fun _ => rfl) (fun x v hv => by simp [s3] at hv; rcases hv with rfl | rfl | rfl <;> rfl) cfS cfS_swo 121 #[] b 0 cap l.toArray w (enters_of Tryz.func121 (by kernel_rfl) rfl) (gath1_lays b 0 _ w) hH hb (by simpa using hsz)
  rw [List.size_toArray] at this
  exact this
theorem sortsI (m : Nat) : AnyZI.SortsIn Tryz.prog sortedL_ren Fence.wide m :=
  ⟨fun blk off cap ss W hH hblk hsz => callsIn_wide.2 (AnyM.slices_Sort_int sortL blk off cap ss W hH hblk hsz),
   fun p cap W => callsIn_wide.2 (AnyM.slices_Sort_int_none sortL p cap W)⟩
theorem sortedK_c (ks : List Int) (hn : ks.Nodup) (hl : ks.length ≤ 1000000) (hr : ∀ k ∈ ks, -9223372036854775808 ≤ k ∧ k ≤ 9223372036854775807) (Bm b : Nat) (vs : List Value) (w : World) (hm : w.cell? ⟨Bm, 0, none⟩ = some (.map (some b))) (hBm : Bm < w.heap.size) (hvl : vs.length = ks.length) (hb : w.heap[b]? = some (.map (entsI 0 ks vs).toArray ks.length)) :
    Calls Tryz.prog 118 #[.func (.func 135) #[] #[.pointer (some ⟨Bm, 0, none⟩)]] w fun e w' => ∃ (v : Value) (ss : List Int), e = .returned v ∧ ss.Perm ks ∧ w'.ownsRow w.heap.size 3 1 v ss.length ((ss.mergeSort leI).map encZ) ∧ Below w.heap.size w w' := by
  have hmaxL : ks.length ≤ maxLen := Nat.le_trans hl (by decide)
  obtain ⟨D0, hown, hperm, hsize⟩ := owns_keys (P := Tryz.prog) (K := 3) Tryz.underlying3 hvl hn hmaxL (fun k hk => by
    have := hr k hk
    simp [Lit.wf, IntKind.min, IntKind.max, IntKind.signed, IntKind.bits]
    omega) hb
  have hseq : SeqGives Fence.wide 2 Tryz.prog 135 #[.pointer (some ⟨Bm, 0, none⟩)] encZ (fun ss => ss.Perm (intKeys D0)) (Maps.size D0) w :=
    AnyZI.keys_gives (ρ := keysL_ren) { keysL with } Fence.wide _ trivial rfl (by omega) Bm b _ D0 w hBm hm hown
  have cS := AnyZI.sorted_in sortedL Fence.wide 5 trivial trivial trivial trivial rfl (by omega) (sortsI _) (enters_of Tryz.func134 (by kernel_rfl) rfl) 135 #[.pointer (some ⟨Bm, 0, none⟩)] trivial (enters_of Tryz.func135 (by kernel_rfl) rfl) _ _ (by rw [hsize]; exact hmaxL) (by omega) _ hseq
  refine (callsIn_wide.1 cS).mono ?_
  rintro e w' ⟨v, ss, rfl, hp, hrow, _, hbel⟩
  exact ⟨v, ss, rfl, hp.trans hperm, hrow, hbel⟩
def iv (z : Int) : List Value := [.int .i64 z]
theorem sortedK_d (Tm : TypeId) (ks : List Int) (l : List D) (B : Blk) (hn : ks.Nodup) (hl : ks.length ≤ 1000000) (hr : ∀ k ∈ ks, -9223372036854775808 ≤ k ∧ k ≤ 9223372036854775807) :
    DFun Tryz.prog 118 [.fn (.func 135) [] [.loc 0 0]] [.mix Tm [.hnd 1], .mpd ks l, B] (.arr 3) [.mix Tm [.hnd 1], .mpd ks l, B, .arr 3 1 (ks.mergeSort leI).length ((ks.mergeSort leI).flatMap iv)] := by
  have h := sortedKeys_d (Tm := Tm) (T := 3) (l := l) B (by kernel_rfl) (sortedK_c ks hn hl hr)
  have e1 : (ks.mergeSort leI).flatMap iv = (ks.mergeSort leI).map encZ := flat_map1 encZ _
  rw [e1, List.length_mergeSort]
  exact h
end Go.Proofs.YtjgnalfnginjbaaGreatDoor
namespace Go.Proofs.YtjgnalfnginjbaaGreatDoor
set_option maxRecDepth 4000
set_option linter.unusedVariables false
set_option linter.unusedSimpArgs false
open Go.RowKit
def rowY (l : List Sp) (y : Int) : List Sp := l.filter fun s => decide (s.y = y)
theorem rowY_mem {l : List Sp} {y : Int} {s : Sp} : s ∈ rowY l y ↔ s ∈ l ∧ s.y = y := by unfold rowY; rw [List.mem_filter, decide_eq_true_eq]
theorem rowY_len (l : List Sp) (y : Int) : (rowY l y).length ≤ l.length := List.length_filter_le ..
theorem rowY_take {l : List Sp} {i : Nat} (hi : i < l.length) (y : Int) : rowY (l.take (i + 1)) y = rowY (l.take i) y ++ (if l[i].y = y then [l[i]] else []) := by
  unfold rowY
  rw [List.take_succ_eq_append_getElem hi, List.filter_append]
  congr 1
  by_cases e : l[i].y = y <;> simp [e]
structure GS where
  i : Nat
  ks : List Int
  nn : List Nat
  Bs : List Mem
abbrev rowB (l : List Sp) (y : Int) : Mem := .arr 32 3 (rowY l y).length ((rowY l y).flatMap s3)
structure GOk (l : List Sp) (g : GS) : Prop where
  le : g.i ≤ l.length
  nd : g.ks.Nodup
  len : g.nn.length = g.ks.length
  keys : ∀ y, y ∈ g.ks ↔ ∃ s ∈ l.take g.i, s.y = y
  nnd : g.nn.Nodup
  rows : ∀ (j : Nat) y k, g.ks[j]? = some y → g.nn[j]? = some k → g.Bs[k]? = some (rowB (l.take g.i) y)
theorem GOk.zero (l : List Sp) : GOk l ⟨0, [], [], []⟩ := ⟨Nat.zero_le _, List.nodup_nil, rfl, fun y => by simp, List.nodup_nil, fun j y k h => by simp at h⟩
theorem GOk.klen {l : List Sp} {g : GS} (h : GOk l g) : g.ks.length ≤ l.length := by
  have h1 : g.ks ⊆ (l.take g.i).map Sp.y := fun y hy => by
    obtain ⟨s, hs, e⟩ := (h.keys y).1 hy
    exact List.mem_map.2 ⟨s, hs, e⟩
  have := (List.nodup_iff_count.1 h.nd)
  have h2 : g.ks.length ≤ ((l.take g.i).map Sp.y).length := h.nd.length_le_of_subset h1
  rw [List.length_map, List.length_take] at h2
  omega
theorem GOk.bs {l : List Sp} {g : GS} (h : GOk l g) {j : Nat} {k : Nat} (hk : g.nn[j]? = some k) : k < g.Bs.length := by
  have hj : j < g.ks.length := by rw [← h.len]; exact (List.getElem?_eq_some_iff.1 hk).1
  exact (List.getElem?_eq_some_iff.1 (h.rows j _ k (List.getElem?_eq_getElem hj) hk)).1
theorem GOk.new {l : List Sp} {g : GS} (h : GOk l g) (hi : g.i < l.length) (hk : l[g.i].y ∉ g.ks) {B : Mem} (hB : B = .arr 32 3 1 (s3 l[g.i])) : GOk l ⟨g.i + 1, g.ks ++ [l[g.i].y], g.nn ++ [g.Bs.length], g.Bs ++ [B]⟩ := by
  subst hB
  have hno : ∀ s ∈ l.take g.i, s.y ≠ l[g.i].y := fun s hs e => hk ((h.keys _).2 ⟨s, hs, e⟩)
  refine ⟨hi, ?_, by simp [h.len], fun y => ?_, ?_, fun j y k h1 h2 => ?_⟩
  · exact List.nodup_append.2 ⟨h.nd, by simp, fun a ha b hb => by simp at hb; subst hb; exact fun e => hk (e ▸ ha)⟩
  · simp only
    rw [List.mem_append, h.keys, List.take_succ_eq_append_getElem hi]
    constructor
    · rintro (⟨s, hs, e⟩ | e)
      · exact ⟨s, List.mem_append.2 (.inl hs), e⟩
      · exact ⟨l[g.i], List.mem_append.2 (.inr (by simp)), (List.mem_singleton.1 e).symm⟩
    · rintro ⟨s, hs, e⟩
      rcases List.mem_append.1 hs with hs | hs
      · exact .inl ⟨s, hs, e⟩
      · rw [List.mem_singleton.1 hs] at e; exact .inr (by simp [e])
  · refine List.nodup_append.2 ⟨h.nnd, by simp, fun a ha b hb => ?_⟩
    simp at hb
    subst hb
    obtain ⟨q, hq⟩ := List.getElem?_of_mem ha
    have := h.bs hq
    omega
  · simp only at *
    by_cases e : j < g.ks.length
    · rw [List.getElem?_append_left e] at h1
      rw [List.getElem?_append_left (by rw [h.len]; exact e)] at h2
      have hne : ¬ l[g.i].y = y := fun e => hk (e ▸ List.mem_of_getElem? h1)
      rw [List.getElem?_append_left (h.bs h2), h.rows j y k h1 h2]
      unfold rowB
      rw [rowY_take hi, if_neg hne, List.append_nil]
    · rw [List.getElem?_append_right (by omega)] at h1
      rw [List.getElem?_append_right (by rw [h.len]; omega)] at h2
      have e1 : j - g.ks.length = 0 := by
        have := (List.getElem?_eq_some_iff.1 h1).1
        simp at this; omega
      rw [e1] at h1
      rw [h.len, e1] at h2
      simp at h1 h2
      subst h1 h2
      have e2 : rowY (l.take g.i) l[g.i].y = [] := List.eq_nil_iff_forall_not_mem.2 fun s hs => hno s (rowY_mem.1 hs).1 (rowY_mem.1 hs).2
      rw [List.getElem?_append_right (Nat.le_refl _), Nat.sub_self]
      unfold rowB
      rw [rowY_take hi, if_pos rfl, e2]
      simp
theorem GOk.old {l : List Sp} {g : GS} (h : GOk l g) (hi : g.i < l.length) {j k : Nat} (hj : g.ks[j]? = some l[g.i].y) (hk : g.nn[j]? = some k) {B : Mem} (hB : B = .arr 32 3 ((rowY (l.take g.i) l[g.i].y).length + 1) ((rowY (l.take g.i) l[g.i].y).flatMap s3 ++ s3 l[g.i])) : GOk l ⟨g.i + 1, g.ks, g.nn.set j g.Bs.length, g.Bs.set k .gone ++ [B]⟩ := by
  subst hB
  refine ⟨hi, h.nd, by simp [h.len], fun y => ?_, ?_, fun q y k' h1 h2 => ?_⟩
  · simp only
    rw [h.keys, List.take_succ_eq_append_getElem hi]
    constructor
    · rintro ⟨s, hs, e⟩
      exact ⟨s, List.mem_append.2 (.inl hs), e⟩
    · rintro ⟨s, hs, e⟩
      rcases List.mem_append.1 hs with hs | hs
      · exact ⟨s, hs, e⟩
      · rw [List.mem_singleton.1 hs] at e
        exact (h.keys y).1 (e ▸ List.mem_of_getElem? hj)
  · refine List.nodup_iff_pairwise_ne.2 (List.pairwise_iff_getElem.2 fun a b ha hb hab => ?_)
    simp only [List.length_set] at ha hb
    rw [List.getElem_set, List.getElem_set]
    have nb : ∀ q (hq : q < g.nn.length), g.nn[q] < g.Bs.length := fun q hq => h.bs (List.getElem?_eq_getElem hq)
    split
    · split
      · omega
      · have := nb b hb; omega
    · split
      · have := nb a ha; omega
      · exact List.pairwise_iff_getElem.1 h.nnd a b ha hb hab
  · simp only at *
    by_cases e : j = q
    · subst e
      have hjl : j < g.nn.length := (List.getElem?_eq_some_iff.1 hk).1
      rw [List.getElem?_set_self hjl] at h2
      cases h2
      rw [hj] at h1
      cases h1
      rw [List.getElem?_append_right (by simp), List.length_set, Nat.sub_self]
      unfold rowB
      rw [rowY_take hi, if_pos rfl]
      simp
    · rw [List.getElem?_set_ne e] at h2
      have hkk : k ≠ k' := fun e2 => by
        subst e2
        obtain ⟨q1, q2⟩ := List.getElem?_eq_some_iff.1 hk
        obtain ⟨q3, q4⟩ := List.getElem?_eq_some_iff.1 h2
        rcases Nat.lt_or_gt_of_ne e with e3 | e3
        · exact List.pairwise_iff_getElem.1 h.nnd j q q1 q3 e3 (q2.trans q4.symm)
        · exact List.pairwise_iff_getElem.1 h.nnd q j q3 q1 e3 (q4.trans q2.symm)
      have hne : ¬ l[g.i].y = y := fun e2 => by
        rw [e2] at hj
        obtain ⟨q1, q2⟩ := List.getElem?_eq_some_iff.1 hj
        obtain ⟨q3, q4⟩ := List.getElem?_eq_some_iff.1 h1
        rcases Nat.lt_or_gt_of_ne e with e3 | e3
        · exact List.pairwise_iff_getElem.1 h.nd j q q1 q3 e3 (q2.trans q4.symm)
        · exact List.pairwise_iff_getElem.1 h.nd q j q3 q1 e3 (q4.trans q2.symm)
      rw [List.getElem?_append_left (by rw [List.length_set]; exact h.bs h2), List.getElem?_set_ne hkk, h.rows q y k' h1 h2]
      unfold rowB
      rw [rowY_take hi, if_neg hne, List.append_nil]
theorem rows_perm : ∀ (ks : List Int) (l : List Sp), ks.Nodup → (∀ s ∈ l, s.y ∈ ks) → (ks.flatMap (rowY l)).Perm l
  | [], l, _, h => by
    have : l = [] := List.eq_nil_iff_forall_not_mem.2 fun s hs => (List.not_mem_nil (h s hs))
    subst this
    exact .refl _
  | k :: ks, l, hn, h => by
    obtain ⟨n1, n2⟩ := List.nodup_cons.1 hn
    rw [List.flatMap_cons]
    have e : ∀ y ∈ ks, rowY l y = rowY (l.filter fun s => !decide (s.y = k)) y := fun y hy => by
      unfold rowY
      rw [List.filter_filter]
      refine List.filter_congr fun s _ => ?_
      by_cases h1 : s.y = y
      · have : ¬ s.y = k := fun e => n1 (e ▸ h1 ▸ hy)
        simp [h1, this]
        exact fun e => this (h1.trans e)
      · simp [h1]
    have e2 : ks.flatMap (rowY l) = ks.flatMap (rowY (l.filter fun s => !decide (s.y = k))) := by
      rw [List.flatMap_def, List.flatMap_def, List.map_congr_left e]
    rw [e2]
    have hp := rows_perm ks (l.filter fun s => !decide (s.y = k)) n2 fun s hs => by
      obtain ⟨h1, h2⟩ := List.mem_filter.1 hs
      rcases List.mem_cons.1 (h s h1) with h3 | h3
      · simp [h3] at h2
      · exact h3
    exact (List.Perm.append_left _ hp).trans (List.filter_append_perm ..)
theorem perm_flat {f g : Int → List Sp} (h : ∀ y, (f y).Perm (g y)) : ∀ ks : List Int, (ks.flatMap f).Perm (ks.flatMap g)
  | [] => .refl _
  | k :: ks => by rw [List.flatMap_cons, List.flatMap_cons]; exact (h k).append (perm_flat h ks)
theorem merges_bd : ∀ (m out : List Sp), (∀ s ∈ out, bdS s) → (∀ s ∈ m, bdS s) → ∀ s ∈ m.foldl mergeS out, bdS s
  | [], out, h, _ => h
  | s :: m, out, h, hm => merges_bd m (mergeS out s) (fun b hb => by
    have hs := hm s (List.mem_cons_self ..)
    rcases list_last out with rfl | ⟨l, a, rfl⟩
    · rw [mergeS_nil] at hb; rw [List.mem_singleton.1 hb]; exact hs
    · rw [mergeS_app] at hb
      have ha := h a (by simp)
      split at hb
      · rcases List.mem_append.1 hb with hb | hb
        · exact h b hb
        · rw [List.mem_singleton.1 hb]; exact hs
      · rcases List.mem_append.1 hb with hb | hb
        · exact h b (by simp [hb])
        · rw [List.mem_singleton.1 hb]
          unfold bdS at *
          simp only
          omega) fun b hb => hm b (List.mem_cons_of_mem _ hb)
theorem merges_y {p : Int → Prop} : ∀ (m out : List Sp), (∀ s ∈ out, p s.y) → (∀ s ∈ m, p s.y) → ∀ s ∈ m.foldl mergeS out, p s.y
  | [], out, h, _ => h
  | s :: m, out, h, hm => merges_y m (mergeS out s) (fun b hb => by
    have hs := hm s (List.mem_cons_self ..)
    rcases list_last out with rfl | ⟨l, a, rfl⟩
    · rw [mergeS_nil] at hb; rw [List.mem_singleton.1 hb]; exact hs
    · rw [mergeS_app] at hb
      have ha := h a (by simp)
      split at hb
      · rcases List.mem_append.1 hb with hb | hb
        · exact h b hb
        · rw [List.mem_singleton.1 hb]; exact hs
      · rcases List.mem_append.1 hb with hb | hb
        · exact h b (by simp [hb])
        · rw [List.mem_singleton.1 hb]; exact ha) fun b hb => hm b (List.mem_cons_of_mem _ hb)
theorem merges_ge : ∀ (m out : List Sp), out.length ≤ (m.foldl mergeS out).length
  | [], out => Nat.le_refl _
  | s :: m, out => Nat.le_trans (mergeS_len out s).1 (merges_ge m _)
abbrev lastS (out : List Sp) : Sp := out.getD (out.length - 1) zSp
theorem lastS_app (l : List Sp) (a : Sp) : lastS (l ++ [a]) = a := by
  unfold lastS
  rw [List.length_append, List.getD_eq_getElem?_getD, List.getElem?_append_right (by simp)]
  simp
theorem mergeS_push {out : List Sp} {s : Sp} (h : out = [] ∨ apS (lastS out) s) : mergeS out s = out ++ [s] := by
  rcases list_last out with rfl | ⟨l, a, rfl⟩
  · rfl
  · rw [lastS_app] at h
    rw [mergeS_app, if_pos (h.resolve_left (by simp))]
theorem mergeS_set {out : List Sp} {s : Sp} (h0 : 0 < out.length) (h : ¬ apS (lastS out) s) : mergeS out s = out.set (out.length - 1) ⟨(lastS out).y, (lastS out).f, max (lastS out).t s.t⟩ := by
  rcases list_last out with rfl | ⟨l, a, rfl⟩
  · cases h0
  · rw [lastS_app] at h ⊢
    rw [mergeS_app, if_neg h]
    simp
theorem merges_first {m out : List Sp} {y : Int} (ho : ∀ s ∈ out, s.y < y) (hm : ∀ s ∈ m, s.y = y) : m = [] ∨ out.length + 1 ≤ (m.foldl mergeS out).length := by
  cases m with
  | nil => exact .inl rfl
  | cons s m =>
    right
    have e : mergeS out s = out ++ [s] := mergeS_push (by
      rcases list_last out with rfl | ⟨l, a, rfl⟩
      · exact .inl rfl
      · right
        rw [lastS_app]
        have := ho a (by simp)
        have := hm s (List.mem_cons_self ..)
        unfold apS
        omega)
    rw [List.foldl_cons, e]
    have := merges_ge m (out ++ [s])
    simpa using this
theorem merges_take {m out : List Sp} {k : Nat} (hk : k < m.length) : (m.take (k + 1)).foldl mergeS out = mergeS ((m.take k).foldl mergeS out) m[k] := by
  rw [List.take_succ_eq_append_getElem hk, List.foldl_append]
  rfl
end Go.Proofs.YtjgnalfnginjbaaGreatDoor
namespace Go.Proofs.YtjgnalfnginjbaaGreatDoor
set_option maxRecDepth 4000
set_option linter.unusedVariables false
set_option linter.unusedSimpArgs false
open Go.RowKit
def gathR (l : List Sp) (ys : List Int) : List Sp := ys.foldl (fun o y => (srtS (rowY l y)).foldl mergeS o) []
theorem gathR_flat (l : List Sp) : ∀ (ys : List Int) (o : List Sp), ys.foldl (fun o y => (srtS (rowY l y)).foldl mergeS o) o = (ys.flatMap fun y => srtS (rowY l y)).foldl mergeS o
  | [], o => rfl
  | y :: ys, o => by rw [List.foldl_cons, gathR_flat l ys, List.flatMap_cons, List.foldl_append]
theorem gathR_add (l : List Sp) (ys : List Int) {i : Nat} (hi : i < ys.length) : gathR l (ys.take (i + 1)) = (srtS (rowY l ys[i])).foldl mergeS (gathR l (ys.take i)) := by
  unfold gathR
  rw [List.take_succ_eq_append_getElem hi, List.foldl_append]
  rfl
theorem srtS_mem {l : List Sp} {s : Sp} : s ∈ srtS l ↔ s ∈ l := (srtS_ok l).1.mem_iff
theorem gathR_y (l : List Sp) (ys : List Int) : ∀ s ∈ gathR l ys, s.y ∈ ys := by
  unfold gathR
  rw [gathR_flat]
  refine merges_y (p := fun y => y ∈ ys) _ _ (fun s h => (List.not_mem_nil h).elim) fun s hs => ?_
  obtain ⟨y, hy, h⟩ := List.mem_flatMap.1 hs
  rw [(rowY_mem.1 (srtS_mem.1 h)).2]
  exact hy
theorem gathR_bd {l : List Sp} (h : ∀ s ∈ l, bdS s) (ys : List Int) : ∀ s ∈ gathR l ys, bdS s := by
  unfold gathR
  rw [gathR_flat]
  refine merges_bd _ _ (fun s h => (List.not_mem_nil h).elim) fun s hs => ?_
  obtain ⟨y, hy, g⟩ := List.mem_flatMap.1 hs
  exact h s (rowY_mem.1 (srtS_mem.1 g)).1
theorem gathR_perm {l : List Sp} {ys : List Int} (hn : ys.Nodup) (hk : ∀ s ∈ l, s.y ∈ ys) : (ys.flatMap fun y => srtS (rowY l y)).Perm l :=
  (perm_flat (fun y => (srtS_ok (rowY l y)).1) ys).trans (rows_perm ys l hn hk)
theorem gathR_len {l : List Sp} {ys : List Int} (hn : ys.Nodup) (hk : ∀ s ∈ l, s.y ∈ ys) (i : Nat) : (gathR l (ys.take i)).length ≤ l.length := by
  unfold gathR
  rw [gathR_flat]
  have h1 := merges_len ((ys.take i).flatMap fun y => srtS (rowY l y)) []
  have h2 := (gathR_perm hn hk).length_eq
  have h3 : ((ys.take i).flatMap fun y => srtS (rowY l y)).length ≤ (ys.flatMap fun y => srtS (rowY l y)).length := by
    conv => rhs; rw [← List.take_append_drop i ys, List.flatMap_append, List.length_append]
    omega
  rw [List.length_nil, Nat.zero_add] at h1
  omega
theorem gathR_norm {l : List Sp} (hv : ∀ s ∈ l, s.f ≤ s.t) {ys : List Int} (hs : ys.Pairwise (· < ·)) (hk : ∀ s ∈ l, s.y ∈ ys) : gathR l ys = normS l := by
  have hn : ys.Nodup := hs.imp fun h => by omega
  unfold gathR
  rw [gathR_flat]
  refine norm_of_sorted hv (gathR_perm hn hk) ?_
  refine List.pairwise_flatMap.2 ⟨fun y _ => ?_, hs.imp fun {a b} hab x hx z hz => ?_⟩
  · refine (srtS_ok (rowY l y)).2.imp_of_mem fun {a b} ha hb hab => ?_
    have h1 := (rowY_mem.1 (srtS_mem.1 ha)).2
    have h2 := (rowY_mem.1 (srtS_mem.1 hb)).2
    right
    omega
  · have h1 := (rowY_mem.1 (srtS_mem.1 hx)).2
    have h2 := (rowY_mem.1 (srtS_mem.1 hz)).2
    left
    omega
theorem keys_sorted {ks : List Int} (hn : ks.Nodup) : (ks.mergeSort leI).Pairwise (· < ·) ∧ (ks.mergeSort leI).Perm ks := by
  have hp := List.mergeSort_perm ks leI
  have hnd : (ks.mergeSort leI).Nodup := hp.nodup_iff.2 hn
  have hs : (ks.mergeSort leI).Pairwise (fun a b => leI a b = true) := List.pairwise_mergeSort (fun a b c h1 h2 => by simp only [leI, decide_eq_true_eq] at *; omega) (fun a b => by simp only [leI, Bool.or_eq_true, decide_eq_true_eq]; omega) ks
  refine ⟨?_, hp⟩
  refine (hs.and hnd).imp fun h => ?_
  have h1 := h.1
  simp only [leI, decide_eq_true_eq] at h1
  have h2 := h.2
  omega
def LOk (l : List Sp) (g : GS) (i : Nat) (Bs : List Mem) : Prop := ∀ (j : Nat) y k, g.ks[j]? = some y → g.nn[j]? = some k → y ∈ (g.ks.mergeSort leI).drop i → Bs[k]? = some (rowB l y)
theorem LOk.zero {l : List Sp} {g : GS} (h : GOk l g) (he : g.i = l.length) : LOk l g 0 g.Bs := fun j y k h1 h2 _ => by
  have := h.rows j y k h1 h2
  rwa [he, List.take_length] at this
theorem LOk.step {l : List Sp} {g : GS} (h : GOk l g) {i : Nat} {Bs : List Mem} (hl : LOk l g i Bs) (hi : i < (g.ks.mergeSort leI).length) {j k : Nat} (hj : g.ks[j]? = some (g.ks.mergeSort leI)[i]) (hk : g.nn[j]? = some k) : LOk l g (i + 1) (Bs.set k .gone) := fun q y k' h1 h2 h3 => by
  have hs := keys_sorted h.nd
  have h4 : y ∈ (g.ks.mergeSort leI).drop i := by rw [List.drop_eq_getElem_cons hi]; exact List.mem_cons_of_mem _ h3
  have hne : k ≠ k' := fun e => by
    subst e
    have hjq : j = q := by
      obtain ⟨q1, q2⟩ := List.getElem?_eq_some_iff.1 hk
      obtain ⟨q3, q4⟩ := List.getElem?_eq_some_iff.1 h2
      rcases Nat.lt_trichotomy j q with e3 | e3 | e3
      · exact absurd (q2.trans q4.symm) (List.pairwise_iff_getElem.1 h.nnd j q q1 q3 e3)
      · exact e3
      · exact absurd (q4.trans q2.symm) (List.pairwise_iff_getElem.1 h.nnd q j q3 q1 e3)
    subst hjq
    rw [hj] at h1
    cases h1
    have h5 := hs.1
    rw [← List.take_append_drop i (g.ks.mergeSort leI), List.pairwise_append] at h5
    have h6 := h5.2.1
    rw [List.drop_eq_getElem_cons hi, List.pairwise_cons] at h6
    have := h6.1 _ h3
    omega
  rw [List.getElem?_set_ne hne]
  exact hl q y k' h1 h2 h4
theorem key_at {l : List Sp} {g : GS} (h : GOk l g) {i : Nat} (hi : i < (g.ks.mergeSort leI).length) : ∃ (j k : Nat), g.ks[j]? = some (g.ks.mergeSort leI)[i] ∧ g.nn[j]? = some k := by
  have hm : (g.ks.mergeSort leI)[i] ∈ g.ks := (keys_sorted h.nd).2.mem_iff.1 (List.getElem_mem hi)
  obtain ⟨j, hj⟩ := List.getElem?_of_mem hm
  have hjl : j < g.nn.length := by rw [h.len]; exact (List.getElem?_eq_some_iff.1 hj).1
  exact ⟨j, _, hj, List.getElem?_eq_getElem hjl⟩
theorem row_ne {l : List Sp} {g : GS} (h : GOk l g) (he : g.i = l.length) {y : Int} (hy : y ∈ g.ks) : rowY l y ≠ [] := fun e => by
  obtain ⟨s, hs, e1⟩ := (h.keys y).1 hy
  rw [he, List.take_length] at hs
  have : s ∈ rowY l y := rowY_mem.2 ⟨hs, e1⟩
  rw [e] at this
  exact List.not_mem_nil this
theorem push_ok {o row : List Sp} {m : Nat} {y : Int} (ho : ∀ s ∈ o, s.y < y) (hr : ∀ s ∈ row, s.y = y) (hm : m < row.length) (h : ¬ (o.length + 1 ≤ ((row.take m).foldl mergeS o).length ∧ ¬ apS (lastS ((row.take m).foldl mergeS o)) row[m])) : (row.take m).foldl mergeS o = [] ∨ apS (lastS ((row.take m).foldl mergeS o)) row[m] := by
  by_cases e : apS (lastS ((row.take m).foldl mergeS o)) row[m]
  · exact .inr e
  · rcases merges_first (m := row.take m) ho (fun s hs => hr s (List.mem_of_mem_take hs)) with h1 | h1
    · rw [h1] at e ⊢
      rcases list_last o with rfl | ⟨l, a, rfl⟩
      · exact .inl rfl
      · exfalso
        apply e
        show apS (lastS (l ++ [a])) _
        rw [lastS_app]
        have h2 := ho a (by simp)
        have h3 := hr row[m] (List.getElem_mem hm)
        unfold apS
        omega
    · exact absurd ⟨h1, e⟩ h
theorem take_lt {ys : List Int} (h : ys.Pairwise (· < ·)) {i : Nat} (hi : i < ys.length) : ∀ y ∈ ys.take i, y < ys[i] := fun y hy => by
  rw [← List.take_append_drop i ys, List.pairwise_append] at h
  exact h.2.2 y hy _ (by rw [List.drop_eq_getElem_cons hi]; exact List.mem_cons_self ..)
end Go.Proofs.YtjgnalfnginjbaaGreatDoor
namespace Go.Proofs.YtjgnalfnginjbaaGreatDoor
set_option maxRecDepth 4000
set_option linter.unusedVariables false
set_option linter.unusedSimpArgs false
open Go.RowKit
theorem mp164 : mpT Tryz.prog 164 = some (3, 25) := by kernel_rfl
theorem sl165 : slE Tryz.prog 165 = some (3, 1, 8) := by kernel_rfl
theorem zv25 : zrV Tryz.prog 25 = some (.slice none 0 0) := by kernel_rfl
set_option maxRecDepth 4000 in
set_option maxHeartbeats 1000000 in
theorem mkeys_d (ks : List Int) (nn : List Nat) (Bs : List Mem) : DFun Tryz.prog 119 [.hnd 0] [.mpd ks (nn.flatMap fun k => [.farr 1 k]), .fam Bs] (.fn (.func 135) [] [.loc 2 0]) [.mpd ks (nn.flatMap fun k => [.farr 1 k]), .fam Bs, .mix 164 [.hnd 0]] := by
  refine zam (N := 4) 2 (by kernel_rfl) Tryz.func119 rfl rfl rfl (by simp only [fr0, Nat.zero_add, Nat.reduceAdd]; exact rfl) rfl fun s0 hs0 => ?_
  refine zaf ?_
  refine zah 1 (by simp only [holes, List.cons_append, List.nil_append]; exact rfl) ?_
  refine zad ?_
  refine zak rfl rfl rfl (op_boxh 2 rfl (ev1 rfl) rfl rfl) (by simp only [upd, zaa, za]; exact rfl) ?_
  refine zab rfl rfl rfl (zac (.inr rfl) (ev1 rfl)) ?_
  refine zae ?_
  refine zaf ?_
  refine zad ?_
  refine zab rfl rfl rfl (op_mkf rfl en (ec (ev1 rfl) en)) ?_
  refine zab rfl rfl rfl (zac (.inr rfl) (ev1 rfl)) ?_
  refine zae ?_
  refine dwp_ret ?_
  refine kend [0, 1, 2] (rs1 rfl (rv_t rfl)) rfl rfl ?_ ⟨?_, ?_, ?_, trivial⟩
  rfl
  all_goals first | exact rfl | exact mpd_fits rfl rfl (fun _ => rfl)
set_option maxRecDepth 4000 in
set_option maxHeartbeats 1000000 in
theorem gath_o (l : List Sp) (hv : ∀ s ∈ l, s.f ≤ s.t) (hb : ∀ s ∈ l, bdS s) (hn : l.length ≤ 1000000) : DFun Tryz.prog 98 [.slf 3 l.length (l.flatMap s3)] [] (.arr 0) [.arr 32 3 (normS l).length ((normS l).flatMap s3)] := by
  refine zam (N := 87) 0 (by kernel_rfl) Tryz.func98 rfl rfl rfl (by simp only [fr0, Nat.zero_add, Nat.reduceAdd]; exact rfl) rfl fun s0 hs0 => ?_
  refine dwp_len (t := 0) rfl fun hl0 hL0 => ?_
  refine zaf ?_
  refine zad ?_
  refine zab rfl rfl rfl (zac (.inr rfl) (ev1 rfl)) ?_
  refine zae ?_
  refine zaf ?_
  refine zah 1 (by simp only [holes, List.cons_append, List.nil_append]; exact rfl) ?_
  refine zad ?_
  refine zak rfl rfl rfl (op_mkd 0 rfl rfl) (by simp only [upd, zaa, za]; exact rfl) ?_
  refine zab rfl rfl rfl (zac (.inr rfl) (ev1 rfl)) ?_
  refine zae ?_
  refine zaf ?_
  refine zaf ?_
  refine dwp_hole ?_
  refine dwp_fam 1 rfl (by simp only [List.cons_append, List.nil_append, zaa, za]; exact rfl) ?_
  refine zad ?_
  refine zab rfl rfl rfl (zac (.inl rfl) (ev1 rfl)) ?_
  refine zab rfl rfl rfl (op_len rfl sl25 (ev1 rfl)) ?_
  refine zab rfl rfl rfl (zac (.inl rfl) (ev1 rfl)) ?_
  refine zae ?_
  refine dwp_block ?_
  refine dwp_loopS ⟨hs0, rfl⟩ (α := GS) (fun g => [(17, .val (.int .i64 (g.i : Int)))]) [(3, _), (15, _), (16, _)] (fun g => [(0, .mpd g.ks (g.nn.flatMap fun k => [.farr 1 k])), (1, .fam g.Bs)]) [.hole, .hole] (fun g => GOk l g) (fun g => l.length - g.i) ⟨0, [], [], []⟩ [0, 1] (GOk.zero l) rfl ⟨rfl, rfl, rfl, trivial⟩ ⟨rfl, trivial⟩ ⟨rfl, rfl, trivial⟩ ?_
  intro g hx
  simp only [upd, zaa, za, List.cons_append, List.nil_append]
  have hg := hx
  refine zaf ?_
  refine zad ?_
  refine zab rfl rfl rfl (op_lss rfl (ev1 rfl) (ev1 rfl)) ?_
  refine zae ?_
  refine zaf ?_
  refine dwp_cond rfl (fun c1 => ?_) (fun c1 => ?_)
  · try simp only [decide_eq_true_eq, decide_eq_false_iff_not, beq_iff_eq, bne_iff_ne, beq_eq_false_iff_ne, bne_eq_false_iff_eq, Bool.not_eq_true', Bool.not_eq_false', Bool.and_eq_true, Bool.or_eq_true, Bool.or_eq_false_iff, ne_eq, Decidable.not_not, Int.not_lt, Int.not_le] at c1
    refine dwp_skip ?_
    refine zaf ?_
    refine dwp_block ?_
    refine zaf ?_
    have hi : g.i < l.length := by omega
    refine zah 1 (by simp only [holes, List.cons_append, List.nil_append]; exact rfl) ?_
    refine zad ?_
    refine zab rfl rfl rfl (op_ixsr (j := g.i) rfl sl25 (ev1 rfl) (ev1 rfl) (fun _ => rfl) (by decide) (by omega) (by omega)) ?_
    refine zab rfl rfl rfl (op_ldwd rfl tb32 (ev1 rfl) rfl) ?_
    refine zak rfl rfl rfl (op_alloc 2 rfl zr32 rfl) (by simp only [upd, zaa, za]; exact rfl) ?_
    refine walk_s rfl rfl (op_stwa rfl tb32 (ev1 rfl) (ev1 rfl) rfl rfl rfl rfl) (by simp only [upd, zaa, za]; exact rfl) ?_
    refine zae ?_
    by_cases hk : l[g.i].y ∈ g.ks
    · obtain ⟨j, hj⟩ := List.getElem?_of_mem hk
      clear hk
      have hjl : j < g.nn.length := by rw [hg.len]; exact (List.getElem?_eq_some_iff.1 hj).1
      obtain ⟨k, hk⟩ : ∃ k, g.nn[j]? = some k := ⟨_, List.getElem?_eq_getElem hjl⟩
      have hB := hg.rows j _ k hj hk
      have hrl := rowY_len (l.take g.i) l[g.i].y
      rw [List.length_take] at hrl
      refine zah 2 (by simp only [holes, List.cons_append, List.nil_append]; exact rfl) ?_
      refine dwp_draw [([], []), ([], []), ([2], []), ([], []), ([], []), ([2], []), ([0], []), ([2], []), ([], []), ([1, 3, 4], [1, 3, 4]), ([0], [0])] mixed (by kernel_rfl) ?_
      refine zag rfl rfl (zac (.inl rfl) (ev1 rfl)) ?_
      refine zag rfl rfl (op_fa rfl fo32_0 (ev1 rfl)) ?_
      refine zag rfl rfl (zal rfl tb3 (ev1 rfl) rfl rfl) ?_
      refine zag rfl rfl (zac (.inl rfl) (ev1 rfl)) ?_
      refine zag rfl rfl (op_fa rfl fo32_0 (ev1 rfl)) ?_
      refine zag rfl rfl (zal rfl tb3 (ev1 rfl) rfl rfl) ?_
      refine zag rfl rfl (op_lkdy (j := j) mp164 it3 rfl (ev1 rfl) (ev1 rfl) rfl (fun _ => hg.nd) (fun _ => hj) (names_at hk)) ?_
      refine zag rfl rfl (op_ldw rfl tb32 (ev1 rfl) rfl rfl) ?_
      refine zag rfl rfl (op_bs (ps := [(0, .tmp 28)]) rfl sl25 zr32 rfl (vc (ev1 rfl) vn) rfl (by decide) (by decide)) ?_
      refine lex_w rfl rfl (op_appF (j1 := 3) (j2 := 4) rfl rfl sl25 zr32 rfl (ev1 rfl) (ev1 rfl) rfl (hB) rfl rfl rfl (fun _ => rfl) (fun _ => ⟨by omega, by omega⟩)) rfl (by simp only [upd, zaa, za]; exact rfl) ?_
      refine lex_s rfl rfl (op_muy (j := j) mp164 it3 rfl (ev1 rfl) (ev1 rfl) (ev1 rfl) rfl (fun _ => hg.nd) (fun _ => hj)) rfl (by simp only [upd, zaa, za]; exact rfl) ?_
      refine lex_nil ?_
      refine zad ?_
      refine zab rfl rfl rfl (op_add' rfl (ev1 rfl) (ev1 rfl) (fun _ => IntWalk.i64_in _ (by omega))) ?_
      refine zab rfl rfl rfl (zac (.inl rfl) (ev1 rfl)) ?_
      refine zae ?_
      refine ⟨⟨g.i + 1, g.ks, g.nn.set j g.Bs.length, _⟩, [0, 1], hg.old hi hj hk rfl, by simp only []; omega, rfl, ⟨rfl, rfl, rfl, rfl, trivial⟩, ⟨(by rw [names_set]; exact mpd_fits rfl rfl (fun _ => rfl)), rfl, trivial⟩⟩
    · refine zah 1 (by simp only [holes, List.cons_append, List.nil_append]; exact rfl) ?_
      refine dwp_draw [([], []), ([], []), ([2], []), ([], []), ([], []), ([2], []), ([0], []), ([2], []), ([], []), ([3], [3]), ([0], [0])] mixed (by kernel_rfl) ?_
      refine zag rfl rfl (zac (.inl rfl) (ev1 rfl)) ?_
      refine zag rfl rfl (op_fa rfl fo32_0 (ev1 rfl)) ?_
      refine zag rfl rfl (zal rfl tb3 (ev1 rfl) rfl rfl) ?_
      refine zag rfl rfl (zac (.inl rfl) (ev1 rfl)) ?_
      refine zag rfl rfl (op_fa rfl fo32_0 (ev1 rfl)) ?_
      refine zag rfl rfl (zal rfl tb3 (ev1 rfl) rfl rfl) ?_
      refine zag rfl rfl ((op_lkdn mp164 it3 zv25 rfl (ev1 rfl) (ev1 rfl) rfl (fun _ => hk)).wk (Wk.slc0 3)) ?_
      refine zag rfl rfl (op_ldw rfl tb32 (ev1 rfl) rfl rfl) ?_
      refine zag rfl rfl (op_bs (ps := [(0, .tmp 28)]) rfl sl25 zr32 rfl (vc (ev1 rfl) vn) rfl (by decide) (by decide)) ?_
      refine lex_w rfl rfl (op_apc 3 rfl sl25 zr32 rfl (ev1 rfl) (ev1 rfl) src_slf rfl (fun _ => ⟨by decide, by omega, by omega⟩)) rfl (by simp only [upd, zaa, za]; exact rfl) ?_
      refine lex_s rfl rfl (op_mud mp164 it3 rfl (ev1 rfl) (ev1 rfl) (ev1 rfl) rfl (fun _ => hk)) rfl (by simp only [upd, zaa, za]; exact rfl) ?_
      refine lex_nil ?_
      refine dwp_absd (l' := ((g.nn ++ [g.Bs.length]).flatMap fun k => [.farr 1 k])) 0 g.nn.length 1 rfl (names_new) rfl rfl (names_add) (by simp only [List.cons_append, List.nil_append, zaa, za]; exact rfl) ?_
      refine zad ?_
      refine zab rfl rfl rfl (op_add' rfl (ev1 rfl) (ev1 rfl) (fun _ => IntWalk.i64_in _ (by omega))) ?_
      refine zab rfl rfl rfl (zac (.inl rfl) (ev1 rfl)) ?_
      refine zae ?_
      refine ⟨⟨g.i + 1, g.ks ++ [l[g.i].y], g.nn ++ [g.Bs.length], _⟩, [0, 1], hg.new hi hk rfl, by simp only []; omega, rfl, ⟨rfl, rfl, rfl, rfl, trivial⟩, ⟨mpd_fits rfl rfl (fun _ => rfl), rfl, trivial⟩⟩
  · try simp only [decide_eq_true_eq, decide_eq_false_iff_not, beq_iff_eq, bne_iff_ne, beq_eq_false_iff_ne, bne_eq_false_iff_eq, Bool.not_eq_true', Bool.not_eq_false', Bool.and_eq_true, Bool.or_eq_true, Bool.or_eq_false_iff, ne_eq, Decidable.not_not, Int.not_lt, Int.not_le] at c1
    refine dwp_exit ?_
    refine zaf ?_
    refine zad ?_
    refine zab rfl rfl rfl (zac (.inr rfl) (ev1 rfl)) ?_
    refine zae ?_
    refine zaf ?_
    refine zaf ?_
    have he : g.i = l.length := by have := hg.le; omega
    have hkl := hg.klen
    have hsr := keys_sorted hg.nd
    have hyl := hsr.2.length_eq
    have hkey : ∀ s ∈ l, s.y ∈ (g.ks.mergeSort leI) := fun s hs => hsr.2.mem_iff.2 ((hg.keys s.y).2 ⟨s, by rw [he, List.take_length]; exact hs, rfl⟩)
    have hrg : ∀ y ∈ g.ks, -9223372036854775808 ≤ y ∧ y ≤ 9223372036854775807 := fun y hy => by
      obtain ⟨s, hs, e⟩ := (hg.keys y).1 hy
      have := hb s (List.mem_of_mem_take hs)
      unfold bdS at this
      omega
    refine zah 2 (by simp only [holes, List.cons_append, List.nil_append]; exact rfl) ?_
    refine zad ?_
    refine zab rfl rfl rfl (zac (.inl rfl) (ev1 rfl)) ?_
    refine zak rfl rfl rfl (zai [0, 1] [] [2] rfl (ev1 rfl) (ec (ev1 rfl) en) rfl (by exact mfits _ _ ⟨mpd_fits rfl rfl (fun _ => rfl), rfl, trivial⟩) (mkeys_d _ _ _) rfl rfl rfl (by exact (wrc (sb_mpd (fun _ => rfl)) (wrc rfl (wrc rfl rfl)))) rfl rfl) (by simp only [upd, zaa, za]; exact rfl) ?_
    refine zak rfl rfl rfl (zai [2, 0, 1] [] [3] rfl (ev1 rfl) (ec (ev1 rfl) en) rfl (by exact mfits _ _ ⟨rfl, mpd_fits rfl rfl (fun _ => rfl), rfl, trivial⟩) (sortedK_d _ _ _ _ hg.nd (by omega) hrg) rfl rfl rfl (by exact (wrc rfl (wrc (sb_mpd (fun _ => rfl)) (wrc rfl (wrc rfl rfl))))) rfl rfl) (by simp only [upd, zaa, za]; exact rfl) ?_
    refine zab rfl rfl rfl (op_lena rfl sl165 (ev1 rfl) rfl) ?_
    refine zab rfl rfl rfl (zac (.inl rfl) (ev1 rfl)) ?_
    refine zae ?_
    refine dwp_block ?_
    refine dwp_adopt 6 32 3 rfl rfl rfl ?_
    refine dwp_loopS ⟨hs0, rfl⟩ (α := Nat × List Mem) (fun q => [(36, .val (.int .i64 (q.1 : Int)))]) [(3, _), (6, _), (34, _), (35, _)] (fun q => [(1, .fam q.2), (4, .arr 32 3 (gathR l ((g.ks.mergeSort leI).take q.1)).length ((gathR l ((g.ks.mergeSort leI).take q.1)).flatMap s3))]) [_, .hole, _, _, .hole] (fun q => q.1 ≤ g.ks.length ∧ LOk l g q.1 q.2) (fun q => g.ks.length - q.1) (0, g.Bs) [0, 1, 2, 3, 4] (⟨Nat.zero_le _, LOk.zero hg he⟩) rfl ⟨rfl, rfl, rfl, rfl, trivial⟩ ⟨rfl, trivial⟩ ⟨mpd_fits rfl rfl (fun _ => rfl), rfl, rfl, rfl, rfl, trivial⟩ ?_
    intro q hx
    simp only [upd, zaa, za, List.cons_append, List.nil_append]
    obtain ⟨i, Bs⟩ := q
    obtain ⟨hi0, hL⟩ := hx
    have hol := gathR_len (i := i) (hsr.1.imp fun h => (by omega)) hkey
    have hob := gathR_bd hb ((g.ks.mergeSort leI).take i)
    refine zaf ?_
    refine zad ?_
    refine zab rfl rfl rfl (op_lss rfl (ev1 rfl) (ev1 rfl)) ?_
    refine zae ?_
    refine zaf ?_
    refine dwp_cond rfl (fun c2 => ?_) (fun c2 => ?_)
    · try simp only [decide_eq_true_eq, decide_eq_false_iff_not, beq_iff_eq, bne_iff_ne, beq_eq_false_iff_ne, bne_eq_false_iff_eq, Bool.not_eq_true', Bool.not_eq_false', Bool.and_eq_true, Bool.or_eq_true, Bool.or_eq_false_iff, ne_eq, Decidable.not_not, Int.not_lt, Int.not_le] at c2
      refine dwp_skip ?_
      refine zaf ?_
      refine dwp_block ?_
      refine zaf ?_
      have hi : i < (g.ks.mergeSort leI).length := by omega
      obtain ⟨j, k, hj, hk⟩ := key_at hg hi
      have hB : Bs[k]? = some (rowB l (g.ks.mergeSort leI)[i]) := hL j _ k hj hk (by rw [List.drop_eq_getElem_cons hi]; exact List.mem_cons_self ..)
      have hne := row_ne hg he (hsr.2.mem_iff.1 (List.getElem_mem hi))
      have hrl := rowY_len l (g.ks.mergeSort leI)[i]
      have hsl := srtS_len (rowY l (g.ks.mergeSort leI)[i])
      refine zad ?_
      refine zab rfl rfl rfl (op_ixar (j := i) rfl sl165 (ev1 rfl) (ev1 rfl) rfl (fun _ => by first | rfl | omega) (fun _ => by omega)) ?_
      refine zab rfl rfl rfl (op_lda1 rfl tb3 (ev1 rfl) rfl (fun _ => rfl) (by omega) rfl) ?_
      refine zab rfl rfl rfl (zac (.inr rfl) (ev1 rfl)) ?_
      refine zae ?_
      refine zaf ?_
      refine zad ?_
      refine zab rfl rfl rfl (zac (.inl rfl) (ev1 rfl)) ?_
      refine zab rfl rfl rfl (zac (.inl rfl) (ev1 rfl)) ?_
      refine zab rfl rfl rfl (op_lkdy (j := j) mp164 it3 rfl (ev1 rfl) (ev1 rfl) rfl (fun _ => hg.nd) (fun _ => hj) (names_at hk)) ?_
      refine zab rfl rfl rfl (zac (.inr rfl) (ev1 rfl)) ?_
      refine zae ?_
      refine zaf ?_
      refine dwp_hole ?_
      refine dwp_rel 9 1 (j := 5) rfl rfl (hB) rfl (by simp only [List.cons_append, List.nil_append, zaa, za]; exact rfl) ?_
      refine zad ?_
      refine zab rfl rfl rfl (zac (.inl rfl) (ev1 rfl)) ?_
      refine zak rfl rfl rfl (zai [5] [] [] rfl (ev1 rfl) (ec (ev1 rfl) (ec (ev1 rfl) en)) rfl rfl (spSort_d _ hne (by omega)) rfl rfl rfl rfl rfl rfl) (by simp only [upd, zaa, za]; exact rfl) ?_
      refine zae ?_
      refine zaf ?_
      have hyy : ∀ s ∈ (gathR l ((g.ks.mergeSort leI).take i)), s.y < (g.ks.mergeSort leI)[i] := fun s hs => take_lt hsr.1 hi _ (gathR_y l _ s hs)
      have hry : ∀ s ∈ srtS (rowY l (g.ks.mergeSort leI)[i]), s.y = (g.ks.mergeSort leI)[i] := fun s hs => (rowY_mem.1 (srtS_mem.1 hs)).2
      have hrb : ∀ s ∈ srtS (rowY l (g.ks.mergeSort leI)[i]), bdS s := fun s hs => hb s (rowY_mem.1 (srtS_mem.1 hs)).1
      refine zad ?_
      refine zab rfl rfl rfl (zac (.inl rfl) (ev1 rfl)) ?_
      refine zab rfl rfl rfl (op_lena rfl sl25 (ev1 rfl) rfl) ?_
      refine zab rfl rfl rfl (zac (.inr rfl) (ev1 rfl)) ?_
      refine zae ?_
      refine zaf ?_
      refine zad ?_
      refine zab rfl rfl rfl (zac (.inl rfl) (ev1 rfl)) ?_
      refine zab rfl rfl rfl (op_lena rfl sl25 (ev1 rfl) rfl) ?_
      refine zab rfl rfl rfl (zac (.inl rfl) (ev1 rfl)) ?_
      refine zae ?_
      refine dwp_block ?_
      refine dwp_loopS ⟨hs0, rfl⟩ (α := Nat) (fun m => [(49, .val (.int .i64 (m : Int)))]) [(3, _), (6, _), (10, _), (34, _), (35, _), (36, _), (47, _), (48, _)] (fun m => [(4, .arr 32 3 ((((srtS (rowY l (g.ks.mergeSort leI)[i])).take m).foldl mergeS (gathR l ((g.ks.mergeSort leI).take i)))).length (((((srtS (rowY l (g.ks.mergeSort leI)[i])).take m).foldl mergeS (gathR l ((g.ks.mergeSort leI).take i)))).flatMap s3))]) [_, _, _, _, .hole, _] (fun m => m ≤ (srtS (rowY l (g.ks.mergeSort leI)[i])).length) (fun m => (srtS (rowY l (g.ks.mergeSort leI)[i])).length - m) 0 [0, 1, 2, 3, 4, 5] (Nat.zero_le _) rfl ⟨rfl, rfl, rfl, rfl, rfl, rfl, rfl, rfl, trivial⟩ ⟨rfl, trivial⟩ ⟨mpd_fits rfl rfl (fun _ => rfl), rfl, rfl, rfl, rfl, rfl, trivial⟩ ?_
      intro m hx
      simp only [upd, zaa, za, List.cons_append, List.nil_append]
      have hm := hx
      have hxb := merges_bd ((srtS (rowY l (g.ks.mergeSort leI)[i])).take m) _ hob (fun s hs => hrb s (List.mem_of_mem_take hs))
      have hxl := merges_len ((srtS (rowY l (g.ks.mergeSort leI)[i])).take m) (gathR l ((g.ks.mergeSort leI).take i))
      have htl := List.length_take_le m (srtS (rowY l (g.ks.mergeSort leI)[i]))
      refine zaf ?_
      refine zad ?_
      refine zab rfl rfl rfl (op_lss rfl (ev1 rfl) (ev1 rfl)) ?_
      refine zae ?_
      refine zaf ?_
      refine dwp_cond rfl (fun c3 => ?_) (fun c3 => ?_)
      · try simp only [decide_eq_true_eq, decide_eq_false_iff_not, beq_iff_eq, bne_iff_ne, beq_eq_false_iff_ne, bne_eq_false_iff_eq, Bool.not_eq_true', Bool.not_eq_false', Bool.and_eq_true, Bool.or_eq_true, Bool.or_eq_false_iff, ne_eq, Decidable.not_not, Int.not_lt, Int.not_le] at c3
        refine dwp_skip ?_
        refine zaf ?_
        refine dwp_block ?_
        refine zaf ?_
        have hmi : m < (srtS (rowY l (g.ks.mergeSort leI)[i])).length := by omega
        refine zah 1 (by simp only [holes, List.cons_append, List.nil_append]; exact rfl) ?_
        refine zad ?_
        refine zab rfl rfl rfl (op_ixar (j := m) rfl sl25 (ev1 rfl) (ev1 rfl) rfl (fun _ => by first | rfl | omega) (fun _ => by omega)) ?_
        refine zab rfl rfl rfl (op_ldar rfl tb32 (ev1 rfl) rfl (fun _ => rfl) (by omega)) ?_
        refine zak rfl rfl rfl (op_alloc 6 rfl zr32 rfl) (by simp only [upd, zaa, za]; exact rfl) ?_
        refine walk_s rfl rfl (op_stwa rfl tb32 (ev1 rfl) (ev1 rfl) rfl rfl rfl rfl) (by simp only [upd, zaa, za]; exact rfl) ?_
        refine zae ?_
        refine zaf ?_
        refine zad ?_
        refine zab rfl rfl rfl (zac (.inl rfl) (ev1 rfl)) ?_
        refine zab rfl rfl rfl (op_lena rfl sl25 (ev1 rfl) rfl) ?_
        refine zab rfl rfl rfl (op_sub' rfl (ev1 rfl) (ev1 rfl) (fun _ => IntWalk.i64_in _ (by omega))) ?_
        refine zab rfl rfl rfl (zac (.inr rfl) (ev1 rfl)) ?_
        refine zae ?_
        refine zaf ?_
        have hbl := bd_getD (i := (((srtS (rowY l (g.ks.mergeSort leI)[i])).take m).foldl mergeS (gathR l ((g.ks.mergeSort leI).take i))).length - 1) hxb
        refine dwp_draw [([], []), ([], []), ([], []), ([], []), ([], []), ([], []), ([4], []), ([4], []), ([6], []), ([], []), ([], []), ([], [])] mixed (by kernel_rfl) ?_
        refine zag rfl rfl (zac (.inl rfl) (ev1 rfl)) ?_
        refine zag rfl rfl (zac (.inl rfl) (ev1 rfl)) ?_
        refine zag rfl rfl (op_geq rfl (ev1 rfl) (ev1 rfl)) ?_
        refine zag rfl rfl (zac (.inl rfl) (ev1 rfl)) ?_
        refine lex_gr (gd_t rfl rfl rfl) rfl rfl (zac (.inl rfl) (ev1 rfl)) ?_
        refine lex_gr (gd_t rfl rfl rfl) rfl rfl (zac (.inl rfl) (ev1 rfl)) ?_
        refine lex_gr (gd_t rfl rfl rfl) rfl rfl (op_ixar (j := (((srtS (rowY l (g.ks.mergeSort leI)[i])).take m).foldl mergeS (gathR l ((g.ks.mergeSort leI).take i))).length - 1) rfl sl25 (ev2 rfl) (ev2 rfl) rfl (fun hp => by first | rfl | omega | (simp at hp; omega)) (fun hp => by first | omega | (simp at hp; omega))) ?_
        refine lex_gr (gd_t rfl rfl rfl) rfl rfl (op_ldarg (zSp) rfl tb32 (ev2 rfl) rfl (fun _ => rfl) (fun hp => by first | omega | (simp at hp; omega))) ?_
        refine lex_gr (gd_t rfl rfl rfl) rfl rfl (op_ldw rfl tb32 (ev1 rfl) rfl rfl) ?_
        refine lex_gr (gd_t rfl rfl rfl) rfl rfl (zai [] [] [] rfl (ev1 rfl) (ec (ev2 rfl) (ec (ev2 rfl) en)) rfl rfl (apart_d _ _ hbl) rfl rfl rfl rfl rfl rfl) ?_
        refine lex_gr (gd_t rfl rfl rfl) rfl rfl (op_not rfl (ev2 rfl)) ?_
        refine zag rfl rfl (op_and rfl (ev1 rfl) (ev3 rfl id)) ?_
        refine lex_nil ?_
        refine dwp_cond rfl (fun c3 => ?_) (fun c3 => ?_)
        · rw [Bool.and_eq_true] at c3
          have c4 := of_decide_eq_true c3.1
          have hna : ¬ apS (lastS (((srtS (rowY l (g.ks.mergeSort leI)[i])).take m).foldl mergeS (gathR l ((g.ks.mergeSort leI).take i)))) (srtS (rowY l (g.ks.mergeSort leI)[i]))[m] := by have := c3.2; simpa using this
          refine dwp_draw [([], []), ([], []), ([], []), ([], []), ([4], []), ([], []), ([4], []), ([], []), ([6], []), ([], []), ([4], []), ([], []), ([4], [4])] mixed (by kernel_rfl) ?_
          refine zag rfl rfl (zac (.inl rfl) (ev1 rfl)) ?_
          refine zag rfl rfl (zac (.inl rfl) (ev1 rfl)) ?_
          refine zag rfl rfl (zac (.inl rfl) (ev1 rfl)) ?_
          refine zag rfl rfl (zac (.inl rfl) (ev1 rfl)) ?_
          refine zag rfl rfl (op_ixar (j := (((srtS (rowY l (g.ks.mergeSort leI)[i])).take m).foldl mergeS (gathR l ((g.ks.mergeSort leI).take i))).length - 1) rfl sl25 (ev1 rfl) (ev1 rfl) rfl (fun _ => by first | rfl | omega) (fun _ => by omega)) ?_
          refine zag rfl rfl (op_faa rfl fo32_2 (ev1 rfl)) ?_
          refine zag rfl rfl (op_ldaf (j := (((srtS (rowY l (g.ks.mergeSort leI)[i])).take m).foldl mergeS (gathR l ((g.ks.mergeSort leI).take i))).length - 1) (c := 2) (zSp) rfl tb3 (ev1 rfl) rfl (fun _ => rfl) (fun _ => by omega) (by decide) rfl) ?_
          refine zag rfl rfl (op_fa rfl fo32_2 (ev1 rfl)) ?_
          refine zag rfl rfl (zal rfl tb3 (ev1 rfl) rfl rfl) ?_
          refine zag rfl rfl (op_max rfl (ev1 rfl) (ev1 rfl)) ?_
          refine zag rfl rfl (op_ixar (j := (((srtS (rowY l (g.ks.mergeSort leI)[i])).take m).foldl mergeS (gathR l ((g.ks.mergeSort leI).take i))).length - 1) rfl sl25 (ev1 rfl) (ev1 rfl) rfl (fun _ => by first | rfl | omega) (fun _ => by omega)) ?_
          refine zag rfl rfl (op_faa rfl fo32_2 (ev1 rfl)) ?_
          refine lex_s rfl rfl (op_staf (j := (((srtS (rowY l (g.ks.mergeSort leI)[i])).take m).foldl mergeS (gathR l ((g.ks.mergeSort leI).take i))).length - 1) (c := 2) (zSp) (⟨(lastS (((srtS (rowY l (g.ks.mergeSort leI)[i])).take m).foldl mergeS (gathR l ((g.ks.mergeSort leI).take i)))).y, (lastS (((srtS (rowY l (g.ks.mergeSort leI)[i])).take m).foldl mergeS (gathR l ((g.ks.mergeSort leI).take i)))).f, max (lastS (((srtS (rowY l (g.ks.mergeSort leI)[i])).take m).foldl mergeS (gathR l ((g.ks.mergeSort leI).take i)))).t (srtS (rowY l (g.ks.mergeSort leI)[i]))[m].t⟩) rfl tb3 (ev1 rfl) (ev1 rfl) rfl rfl rfl rfl (fun _ => rfl) (fun _ => by omega) (Nat.le_of_ble_eq_true rfl) rfl) rfl (by simp only [upd, zaa, za]; exact rfl) ?_
          refine lex_nil ?_
          refine zad ?_
          refine zab rfl rfl rfl (op_add' rfl (ev1 rfl) (ev1 rfl) (fun _ => IntWalk.i64_in _ (by omega))) ?_
          refine zab rfl rfl rfl (zac (.inl rfl) (ev1 rfl)) ?_
          refine zae ?_
          refine ⟨m + 1, [0, 1, 2, 3, 4, 5], by omega, by simp only []; omega, rfl, ⟨rfl, rfl, rfl, rfl, rfl, rfl, rfl, rfl, rfl, trivial⟩, ⟨mpd_fits rfl rfl (fun _ => rfl), rfl, rfl, rfl, (by rw [merges_take hmi, mergeS_set (by omega) hna, List.length_set]; rfl), rfl, trivial⟩⟩
        · have hpush := push_ok hyy hry hmi (fun h => by
            rw [Bool.and_eq_false_iff] at c3
            rcases c3 with c3 | c3
            · have := of_decide_eq_false c3
              omega
            · apply h.2
              simpa using c3)
          refine zah 1 (by simp only [holes, List.cons_append, List.nil_append]; exact rfl) ?_
          refine zad ?_
          refine zab rfl rfl rfl (zac (.inl rfl) (ev1 rfl)) ?_
          refine zab rfl rfl rfl (op_ldw rfl tb32 (ev1 rfl) rfl rfl) ?_
          refine zab rfl rfl rfl (op_bs (ps := [(0, .tmp 81)]) rfl sl25 zr32 rfl (vc (ev1 rfl) vn) rfl (by decide) (by decide)) ?_
          refine zak rfl rfl rfl (op_app (j := 7) rfl sl25 zr32 rfl (ev1 rfl) (ev1 rfl) src_slf rfl rfl (fun _ => rfl) (fun _ => ⟨by omega, by omega⟩)) (by simp only [upd, zaa, za]; exact rfl) ?_
          refine zab rfl rfl rfl (zac (.inr rfl) (ev1 rfl)) ?_
          refine zae ?_
          refine zad ?_
          refine zab rfl rfl rfl (op_add' rfl (ev1 rfl) (ev1 rfl) (fun _ => IntWalk.i64_in _ (by omega))) ?_
          refine zab rfl rfl rfl (zac (.inl rfl) (ev1 rfl)) ?_
          refine zae ?_
          refine ⟨m + 1, [0, 1, 2, 3, 7, 5], by omega, by simp only []; omega, rfl, ⟨rfl, rfl, rfl, rfl, rfl, rfl, rfl, rfl, rfl, trivial⟩, ⟨mpd_fits rfl rfl (fun _ => rfl), rfl, rfl, rfl, (by rw [merges_take hmi, mergeS_push hpush, List.length_append, List.flatMap_append]; rfl), rfl, trivial⟩⟩
      · try simp only [decide_eq_true_eq, decide_eq_false_iff_not, beq_iff_eq, bne_iff_ne, beq_eq_false_iff_ne, bne_eq_false_iff_eq, Bool.not_eq_true', Bool.not_eq_false', Bool.and_eq_true, Bool.or_eq_true, Bool.or_eq_false_iff, ne_eq, Decidable.not_not, Int.not_lt, Int.not_le] at c3
        refine dwp_exit ?_
        refine zad ?_
        refine zab rfl rfl rfl (op_add' rfl (ev1 rfl) (ev1 rfl) (fun _ => IntWalk.i64_in _ (by omega))) ?_
        refine zab rfl rfl rfl (zac (.inl rfl) (ev1 rfl)) ?_
        refine zae ?_
        have hfin : (srtS (rowY l (g.ks.mergeSort leI)[i])).take m = srtS (rowY l (g.ks.mergeSort leI)[i]) := take_all (by omega)
        refine ⟨(i + 1, _), [0, 1, 2, 3, 4], ⟨by omega, hL.step hg hi hj hk⟩, by simp only []; omega, rfl, ⟨rfl, rfl, rfl, rfl, rfl, trivial⟩, ⟨mpd_fits rfl rfl (fun _ => rfl), rfl, rfl, rfl, (by rw [gathR_add l _ hi, hfin]; rfl), trivial⟩⟩
    · try simp only [decide_eq_true_eq, decide_eq_false_iff_not, beq_iff_eq, bne_iff_ne, beq_eq_false_iff_ne, bne_eq_false_iff_eq, Bool.not_eq_true', Bool.not_eq_false', Bool.and_eq_true, Bool.or_eq_true, Bool.or_eq_false_iff, ne_eq, Decidable.not_not, Int.not_lt, Int.not_le] at c2
      refine dwp_exit ?_
      refine zaf ?_
      refine zad ?_
      refine zab rfl rfl rfl (zac (.inl rfl) (ev1 rfl)) ?_
      refine zab rfl rfl rfl (zac (.inr rfl) (ev1 rfl)) ?_
      refine zae ?_
      refine dwp_ret ?_
      refine kend [4] (rs1 rfl (rv_t rfl)) rfl rfl ?_ ⟨?_, trivial⟩
      rfl
      exact (by rw [show gathR l ((g.ks.mergeSort leI).take i) = normS l by rw [take_all (by omega)]; exact gathR_norm hv hsr.1 hkey]; rfl)
end Go.Proofs.YtjgnalfnginjbaaGreatDoor
namespace Go.Proofs.YtjgnalfnginjbaaGreatDoor
set_option maxRecDepth 4000
set_option linter.unusedVariables false
set_option linter.unusedSimpArgs false
open Go.RowKit
theorem fo147_0 : fdO Tryz.prog 147 0 = some 0 := by kernel_rfl
theorem fo147_1 : fdO Tryz.prog 147 1 = some 1 := by kernel_rfl
theorem fo147_2 : fdO Tryz.prog 147 2 = some 2 := by kernel_rfl
theorem fo147_3 : fdO Tryz.prog 147 3 = some 3 := by kernel_rfl
theorem sl142 : slE Tryz.prog 142 = some (25, 1, 24) := by kernel_rfl
theorem tb25 : tyB Tryz.prog 25 = some (false, 1) := by kernel_rfl
theorem gath_d (l : List Sp) (hv : ∀ s ∈ l, s.f ≤ s.t) (hb : ∀ s ∈ l, bdS s) (hn : l.length ≤ 1000000) : DFun Tryz.prog 98 [.slf 3 l.length (l.flatMap s3)] [] (.slf 3 (normS l).length ((normS l).flatMap s3)) [] := freeze (gath_o l hv hb hn) rfl
def allC (rr : List (List Sp)) : Bool := rr.all fun l => decide (chkS l)
def uniL (rr : List (List Sp)) : List Sp := if allC rr = true then normS rr.flatten else []
def uniE (rr : List (List Sp)) : Int := if allC rr = true then 0 else 160
theorem uni_ok {rr : List (List Sp)} (h : allC rr = true) : uniL rr = normS rr.flatten ∧ uniE rr = 0 := by unfold uniL uniE; rw [if_pos h, if_pos h]; exact ⟨rfl, rfl⟩
theorem uni_no {rr : List (List Sp)} (h : allC rr = false) : uniL rr = [] ∧ uniE rr = 160 := by unfold uniL uniE; rw [h]; exact ⟨rfl, rfl⟩
theorem allC_add {rr : List (List Sp)} {i : Nat} (hi : i < rr.length) (h : allC (rr.take i) = true) (hc : chkS rr[i]) : allC (rr.take (i + 1)) = true := by
  unfold allC at *
  rw [List.take_succ_eq_append_getElem hi, List.all_append, h]
  simp [hc]
theorem allC_at {rr : List (List Sp)} {i : Nat} (hi : i < rr.length) (hc : ¬ chkS rr[i]) : allC rr = false := by
  unfold allC
  refine List.all_eq_false.2 ⟨rr[i], List.getElem_mem hi, by simp [hc]⟩
theorem allC_mem {rr : List (List Sp)} (h : allC rr = true) {l : List Sp} (hl : l ∈ rr) : chkS l := by simpa using List.all_eq_true.1 h l hl
theorem flat_add {α : Type} {rr : List (List α)} {i : Nat} (hi : i < rr.length) : (rr.take (i + 1)).flatten = (rr.take i).flatten ++ rr[i] := by rw [List.take_succ_eq_append_getElem hi, List.flatten_append]; simp
theorem flat_le {α : Type} (rr : List (List α)) (i : Nat) : (rr.take i).flatten.length ≤ rr.flatten.length := by
  have : rr.flatten = (rr.take i).flatten ++ (rr.drop i).flatten := by rw [← List.flatten_append, List.take_append_drop]
  rw [this, List.length_append]; omega
theorem allC_flat {rr : List (List Sp)} (h : allC rr = true) : ∀ s ∈ rr.flatten, rchS s ∧ s.f ≤ s.t := fun s hs => by
  obtain ⟨l, hl, h1⟩ := List.mem_flatten.1 hs
  exact (allC_mem h hl).1 s h1
theorem oc3 (l : List Sp) : (l.flatMap s3).all (·.oneCell') = true := flat_oc (fun _ => rfl) l
set_option maxRecDepth 4000 in
set_option maxHeartbeats 1000000 in
theorem union_d (rr : List (List Sp)) (hn : rr.flatten.length ≤ 1000000) : DFun Tryz.prog 73 [.slm 1 (rr).length ((rr).flatMap fun l => [.slf 3 l.length (l.flatMap s3)])] [] (.tup [.slf 3 (uniL rr).length ((uniL rr).flatMap s3), .val (.int .i64 (uniE rr))]) [] := by
  refine zam (N := 25) 0 (by kernel_rfl) Tryz.func73 rfl rfl rfl (by simp only [fr0, Nat.zero_add, Nat.reduceAdd]; exact rfl) rfl fun s0 hs0 => ?_
  refine dwp_lenm (t := 0) rfl fun hl0 hL0 => ?_
  refine zaf ?_
  refine zad ?_
  refine zab rfl rfl rfl (zac (.inr rfl) (ev1 rfl)) ?_
  refine zab rfl rfl rfl (zac (.inr rfl) (ev1 rfl)) ?_
  refine zae ?_
  refine zaf ?_
  refine zad ?_
  refine zab rfl rfl rfl (zac (.inr rfl) (ev1 rfl)) ?_
  refine zae ?_
  refine zaf ?_
  refine zaf ?_
  refine zad ?_
  refine zab rfl rfl rfl (zac (.inl rfl) (ev1 rfl)) ?_
  refine zab rfl rfl rfl (op_lenm rfl sl142 (ev1 rfl)) ?_
  refine zab rfl rfl rfl (zac (.inl rfl) (ev1 rfl)) ?_
  refine zae ?_
  refine dwp_block ?_
  refine dwp_adopt 4 32 3 rfl rfl rfl ?_
  refine dwp_loopS ⟨hs0, rfl⟩ (α := Nat) (fun i => [(10, .val (.int .i64 (i : Int)))]) [(4, _), (8, _), (9, _)] (fun i => [(0, .arr 32 3 ((rr.take i).flatten).length (((rr.take i).flatten).flatMap s3))]) [.hole] (fun i => i ≤ rr.length ∧ allC (rr.take i) = true) (fun i => rr.length - i) 0 [0] (⟨Nat.zero_le _, rfl⟩) rfl ⟨rfl, rfl, rfl, trivial⟩ ⟨rfl, trivial⟩ ⟨rfl, trivial⟩ ?_
  intro i hx
  simp only [upd, zaa, za, List.cons_append, List.nil_append]
  obtain ⟨hi0, hok⟩ := hx
  have hfl := flat_le rr i
  refine zaf ?_
  refine zad ?_
  refine zab rfl rfl rfl (op_lss rfl (ev1 rfl) (ev1 rfl)) ?_
  refine zae ?_
  refine zaf ?_
  refine dwp_cond rfl (fun c1 => ?_) (fun c1 => ?_)
  · try simp only [decide_eq_true_eq, decide_eq_false_iff_not, beq_iff_eq, bne_iff_ne, beq_eq_false_iff_ne, bne_eq_false_iff_eq, Bool.not_eq_true', Bool.not_eq_false', Bool.and_eq_true, Bool.or_eq_true, Bool.or_eq_false_iff, ne_eq, Decidable.not_not, Int.not_lt, Int.not_le] at c1
    refine dwp_skip ?_
    refine zaf ?_
    refine dwp_block ?_
    refine zaf ?_
    have hi : i < rr.length := by omega
    refine zad ?_
    refine zab rfl rfl rfl (op_ixm (i) rfl sl142 (ev1 rfl) (ev1 rfl) (fun _ => rfl) (flat1_at (by omega))) ?_
    refine zab rfl rfl rfl (op_lddm rfl tb25 (ev1 rfl) rfl) ?_
    refine zab rfl rfl rfl (zac (.inr rfl) (ev1 rfl)) ?_
    refine zae ?_
    refine zaf ?_
    refine zaf ?_
    refine zad ?_
    refine zab rfl rfl rfl (zac (.inl rfl) (ev1 rfl)) ?_
    refine zab rfl rfl rfl (zai [] [] [] rfl (ev1 rfl) (ec (ev1 rfl) en) rfl rfl (check_d rr[i]) rfl rfl rfl rfl rfl rfl) ?_
    refine zab rfl rfl rfl (zac (.inr rfl) (ev1 rfl)) ?_
    refine zae ?_
    refine zaf ?_
    refine zad ?_
    refine zab rfl rfl rfl (zac (.inl rfl) (ev1 rfl)) ?_
    refine zab rfl rfl rfl (op_neq rfl (ev1 rfl) (ev1 rfl)) ?_
    refine zae ?_
    refine dwp_cond rfl (fun c2 => ?_) (fun c2 => ?_)
    · have hc : ¬ chkS rr[i] := fun h => by rw [chkE_ok h] at c2; simp at c2
      have hall := uni_no (allC_at hi hc)
      rw [chkE_no hc]
      refine zaf ?_
      refine zad ?_
      refine zab rfl rfl rfl (zac (.inl rfl) (ev1 rfl)) ?_
      refine zab rfl rfl rfl (zac (.inr rfl) (ev1 rfl)) ?_
      refine zab rfl rfl rfl (zac (.inr rfl) (ev1 rfl)) ?_
      refine zae ?_
      refine dwp_wk 2 rfl (Wk.slf0 3) ?_
      refine dwp_ret ?_
      refine kend0 (rs2 rfl (rv_t rfl) (rv_t rfl)) rfl ?_
      rw [hall.1, hall.2]
      rfl
    · have hc : chkS rr[i] := by
        by_cases h : chkS rr[i]
        · exact h
        · rw [chkE_no h] at c2; simp at c2
      have hfa := flat_le rr (i + 1)
      rw [flat_add hi, List.length_append] at hfa
      refine dwp_skip ?_
      refine zah 1 (by simp only [holes, List.cons_append, List.nil_append]; exact rfl) ?_
      refine zad ?_
      refine zab rfl rfl rfl (zac (.inl rfl) (ev1 rfl)) ?_
      refine zab rfl rfl rfl (zac (.inl rfl) (ev1 rfl)) ?_
      refine zak rfl rfl rfl (op_app (j := 1) rfl sl25 zr32 rfl (ev1 rfl) (ev1 rfl) src_slf rfl rfl (fun _ => oc3 _) (fun _ => ⟨by omega, by omega⟩)) (by simp only [upd, zaa, za]; exact rfl) ?_
      refine zab rfl rfl rfl (zac (.inr rfl) (ev1 rfl)) ?_
      refine zae ?_
      refine zad ?_
      refine zab rfl rfl rfl (op_add' rfl (ev1 rfl) (ev1 rfl) (fun _ => IntWalk.i64_in _ (by omega))) ?_
      refine zab rfl rfl rfl (zac (.inl rfl) (ev1 rfl)) ?_
      refine zae ?_
      refine ⟨i + 1, [1], ⟨by omega, allC_add hi hok hc⟩, by simp only []; omega, rfl, ⟨rfl, rfl, rfl, rfl, trivial⟩, ⟨(by rw [flat_add hi, List.length_append, List.flatMap_append]; rfl), trivial⟩⟩
  · try simp only [decide_eq_true_eq, decide_eq_false_iff_not, beq_iff_eq, bne_iff_ne, beq_eq_false_iff_ne, bne_eq_false_iff_eq, Bool.not_eq_true', Bool.not_eq_false', Bool.and_eq_true, Bool.or_eq_true, Bool.or_eq_false_iff, ne_eq, Decidable.not_not, Int.not_lt, Int.not_le] at c1
    refine dwp_exit ?_
    refine zaf ?_
    refine dwp_giveA 4 rfl rfl (by simp only [zaa, za]; exact rfl) ?_
    rw [take_all (by omega)] at hok
    have hall := uni_ok hok
    have hvf := allC_flat hok
    rw [show (rr.take i).flatten = rr.flatten by rw [take_all (by omega)]]
    refine zad ?_
    refine zab rfl rfl rfl (zac (.inl rfl) (ev1 rfl)) ?_
    refine zab rfl rfl rfl (zai [] [] [] rfl (ev1 rfl) (ec (ev1 rfl) en) rfl rfl (gath_d _ (fun s hs => (hvf s hs).2) (fun s hs => rch_bd (hvf s hs).1) hn) rfl rfl rfl rfl rfl rfl) ?_
    refine zab rfl rfl rfl (zac (.inr rfl) (ev1 rfl)) ?_
    refine zab rfl rfl rfl (zac (.inr rfl) (ev1 rfl)) ?_
    refine zae ?_
    refine dwp_ret ?_
    refine kend0 (rs2 rfl (rv_t rfl) (rv_t rfl)) rfl ?_
    rw [hall.1, hall.2]
def clipL (c : Bx) (l : List Sp) : List Sp := if chkS l then clipS c l else []
theorem clipL_ok {c : Bx} {l : List Sp} (h : chkS l) : clipL c l = clipS c l := if_pos h
theorem clipL_no {c : Bx} {l : List Sp} (h : ¬ chkS l) : clipL c l = [] := if_neg h
def inBx (c : Bx) (s : Sp) : Bool := decide (c.y ≤ s.y) && decide (s.y ≤ c.y2) && decide (max s.f c.x ≤ min s.t c.x2)
theorem clipS_add {c : Bx} {l : List Sp} {i : Nat} (hi : i < l.length) : clipS c (l.take (i + 1)) = clipS c (l.take i) ++ (if inBx c l[i] = true then [l[i].clip c] else []) := by
  unfold clipS
  rw [List.take_succ_eq_append_getElem hi, List.map_append, List.filter_append]
  congr 1
  have e : inBx c l[i] = decide (c.y ≤ (l[i].clip c).y ∧ (l[i].clip c).y ≤ c.y2 ∧ (l[i].clip c).f ≤ (l[i].clip c).t) := by
    unfold inBx Sp.clip
    rw [Bool.eq_iff_iff]
    simp [and_assoc]
  rw [e]
  simp only [List.map_cons, List.map_nil, List.filter_cons, List.filter_nil]
theorem clipS_len (c : Bx) (l : List Sp) : (clipS c l).length ≤ l.length := by
  unfold clipS
  refine Nat.le_trans (List.length_filter_le ..) ?_
  simp
set_option maxRecDepth 4000 in
set_option maxHeartbeats 1000000 in
theorem clip_d (l : List Sp) (c : Bx) (hn : l.length ≤ 1000000) : DFun Tryz.prog 105 [.slf 3 l.length (l.flatMap s3), .val (.agg #[.int .i64 c.x, .int .i64 c.y, .int .i64 c.x2, .int .i64 c.y2])] [] (.tup [.slf 3 (clipL c l).length ((clipL c l).flatMap s3), .val (.int .i64 (chkE l))]) [] := by
  refine zam (N := 58) 0 (by kernel_rfl) Tryz.func105 rfl rfl rfl (by simp only [fr0, Nat.zero_add, Nat.reduceAdd]; exact rfl) rfl fun s0 hs0 => ?_
  refine dwp_len (t := 0) rfl fun hl0 hL0 => ?_
  refine zaf ?_
  refine zah 1 (by simp only [holes, List.cons_append, List.nil_append]; exact rfl) ?_
  refine zad ?_
  refine zak rfl rfl rfl (op_boxa 0 rfl (ev1 rfl) rfl) (by simp only [upd, zaa, za]; exact rfl) ?_
  refine zab rfl rfl rfl (zac (.inr rfl) (ev1 rfl)) ?_
  refine zab rfl rfl rfl (zac (.inr rfl) (ev1 rfl)) ?_
  refine zae ?_
  refine zaf ?_
  refine zaf ?_
  refine zad ?_
  refine zab rfl rfl rfl (zac (.inl rfl) (ev1 rfl)) ?_
  refine zab rfl rfl rfl (zai [] [] [] rfl (ev1 rfl) (ec (ev1 rfl) en) rfl rfl (check_d l) rfl rfl rfl rfl rfl rfl) ?_
  refine zab rfl rfl rfl (zac (.inr rfl) (ev1 rfl)) ?_
  refine zae ?_
  refine zaf ?_
  refine zad ?_
  refine zab rfl rfl rfl (zac (.inl rfl) (ev1 rfl)) ?_
  refine zab rfl rfl rfl (op_neq rfl (ev1 rfl) (ev1 rfl)) ?_
  refine zae ?_
  refine dwp_cond rfl (fun c1 => ?_) (fun c1 => ?_)
  · have hc : ¬ chkS l := fun h => by rw [chkE_ok h] at c1; simp at c1
    have hcl := clipL_no (c := c) hc
    refine zaf ?_
    refine zad ?_
    refine zab rfl rfl rfl (zac (.inl rfl) (ev1 rfl)) ?_
    refine zab rfl rfl rfl (zac (.inr rfl) (ev1 rfl)) ?_
    refine zab rfl rfl rfl (zac (.inr rfl) (ev1 rfl)) ?_
    refine zae ?_
    refine dwp_wk 4 rfl (Wk.slf0 3) ?_
    refine dwp_ret ?_
    refine kend0 (rs2 rfl (rv_t rfl) (rv_t rfl)) rfl ?_
    rw [hcl]
    rfl
  · have hc : chkS l := by
      by_cases h : chkS l
      · exact h
      · rw [chkE_no h] at c1; simp at c1
    have hcl := clipL_ok (c := c) hc
    refine dwp_skip ?_
    refine zaf ?_
    refine zad ?_
    refine zab rfl rfl rfl (zac (.inr rfl) (ev1 rfl)) ?_
    refine zae ?_
    refine zaf ?_
    refine zaf ?_
    refine zad ?_
    refine zab rfl rfl rfl (zac (.inl rfl) (ev1 rfl)) ?_
    refine zab rfl rfl rfl (op_len rfl sl25 (ev1 rfl)) ?_
    refine zab rfl rfl rfl (zac (.inl rfl) (ev1 rfl)) ?_
    refine zae ?_
    refine dwp_block ?_
    refine dwp_adopt 7 32 3 rfl rfl rfl ?_
    refine dwp_loopS ⟨hs0, rfl⟩ (α := Nat) (fun i => [(17, .val (.int .i64 (i : Int)))]) [(3, _), (7, _), (15, _), (16, _)] (fun i => [(1, .arr 32 3 ((clipS c (l.take i))).length (((clipS c (l.take i))).flatMap s3))]) [_, .hole] (fun i => i ≤ l.length) (fun i => l.length - i) 0 [0, 1] (Nat.zero_le _) rfl ⟨rfl, rfl, rfl, rfl, trivial⟩ ⟨rfl, trivial⟩ ⟨rfl, rfl, trivial⟩ ?_
    intro i hx
    simp only [upd, zaa, za, List.cons_append, List.nil_append]
    have hi0 := hx
    have hcl2 := clipS_len c (l.take i)
    rw [List.length_take] at hcl2
    refine zaf ?_
    refine zad ?_
    refine zab rfl rfl rfl (op_lss rfl (ev1 rfl) (ev1 rfl)) ?_
    refine zae ?_
    refine zaf ?_
    refine dwp_cond rfl (fun c2 => ?_) (fun c2 => ?_)
    · try simp only [decide_eq_true_eq, decide_eq_false_iff_not, beq_iff_eq, bne_iff_ne, beq_eq_false_iff_ne, bne_eq_false_iff_eq, Bool.not_eq_true', Bool.not_eq_false', Bool.and_eq_true, Bool.or_eq_true, Bool.or_eq_false_iff, ne_eq, Decidable.not_not, Int.not_lt, Int.not_le] at c2
      refine dwp_skip ?_
      refine zaf ?_
      refine dwp_block ?_
      refine zaf ?_
      have hi : i < l.length := by omega
      refine zah 1 (by simp only [holes, List.cons_append, List.nil_append]; exact rfl) ?_
      refine zad ?_
      refine zab rfl rfl rfl (op_ixsr (j := i) rfl sl25 (ev1 rfl) (ev1 rfl) (fun _ => rfl) (by decide) (by omega) (by omega)) ?_
      refine zab rfl rfl rfl (op_ldwd rfl tb32 (ev1 rfl) rfl) ?_
      refine zak rfl rfl rfl (op_alloc 2 rfl zr32 rfl) (by simp only [upd, zaa, za]; exact rfl) ?_
      refine walk_s rfl rfl (op_stwa rfl tb32 (ev1 rfl) (ev1 rfl) rfl rfl rfl rfl) (by simp only [upd, zaa, za]; exact rfl) ?_
      refine zae ?_
      refine zaf ?_
      refine dwp_draw [([], []), ([2], []), ([], []), ([0], []), ([], []), ([], []), ([2], []), ([], []), ([0], []), ([], []), ([], []), ([2], [2]), ([], []), ([2], [2])] mixed (by kernel_rfl) ?_
      refine zag rfl rfl (op_fa rfl fo32_1 (ev1 rfl)) ?_
      refine zag rfl rfl (zal rfl tb3 (ev1 rfl) rfl rfl) ?_
      refine zag rfl rfl (op_fa rfl fo147_0 (ev1 rfl)) ?_
      refine zag rfl rfl (zal rfl tb3 (ev1 rfl) rfl rfl) ?_
      refine zag rfl rfl (op_max rfl (ev1 rfl) (ev1 rfl)) ?_
      refine zag rfl rfl (op_fa rfl fo32_2 (ev1 rfl)) ?_
      refine zag rfl rfl (zal rfl tb3 (ev1 rfl) rfl rfl) ?_
      refine zag rfl rfl (op_fa rfl fo147_2 (ev1 rfl)) ?_
      refine zag rfl rfl (zal rfl tb3 (ev1 rfl) rfl rfl) ?_
      refine zag rfl rfl (op_min rfl (ev1 rfl) (ev1 rfl)) ?_
      refine zag rfl rfl (op_fa rfl fo32_1 (ev1 rfl)) ?_
      refine lex_s rfl rfl (op_st1 rfl tb3 (ev1 rfl) (ev1 rfl) rfl (Nat.le_of_ble_eq_true rfl) rfl) rfl (by simp only [upd, zaa, za]; exact rfl) ?_
      refine zag rfl rfl (op_fa rfl fo32_2 (ev1 rfl)) ?_
      refine lex_s rfl rfl (op_st1 rfl tb3 (ev1 rfl) (ev1 rfl) rfl (Nat.le_of_ble_eq_true rfl) rfl) rfl (by simp only [upd, zaa, za]; exact rfl) ?_
      refine lex_nil ?_
      refine zaf ?_
      refine zad ?_
      refine zab rfl rfl rfl (op_fa rfl fo32_0 (ev1 rfl)) ?_
      refine zab rfl rfl rfl (zal rfl tb3 (ev1 rfl) rfl rfl) ?_
      refine zab rfl rfl rfl (op_fa rfl fo147_1 (ev1 rfl)) ?_
      refine zab rfl rfl rfl (zal rfl tb3 (ev1 rfl) rfl rfl) ?_
      refine zab rfl rfl rfl (op_geq rfl (ev1 rfl) (ev1 rfl)) ?_
      refine zab rfl rfl rfl (zac (.inl rfl) (ev1 rfl)) ?_
      refine zaj (gd_t rfl rfl rfl) rfl rfl rfl (op_fa rfl fo32_0 (ev1 rfl)) ?_
      refine zaj (gd_t rfl rfl rfl) rfl rfl rfl (zal rfl tb3 (ev2 rfl) rfl rfl) ?_
      refine zaj (gd_t rfl rfl rfl) rfl rfl rfl (op_fa rfl fo147_3 (ev1 rfl)) ?_
      refine zaj (gd_t rfl rfl rfl) rfl rfl rfl (zal rfl tb3 (ev2 rfl) rfl rfl) ?_
      refine zaj (gd_t rfl rfl rfl) rfl rfl rfl (op_leq rfl (ev2 rfl) (ev2 rfl)) ?_
      refine zab rfl rfl rfl (op_and rfl (ev1 rfl) (ev3 rfl id)) ?_
      refine zab rfl rfl rfl (zac (.inl rfl) (ev1 rfl)) ?_
      refine zaj (gd_t rfl rfl rfl) rfl rfl rfl (op_fa rfl fo32_1 (ev1 rfl)) ?_
      refine zaj (gd_t rfl rfl rfl) rfl rfl rfl (zal rfl tb3 (ev2 rfl) rfl rfl) ?_
      refine zaj (gd_t rfl rfl rfl) rfl rfl rfl (op_fa rfl fo32_2 (ev1 rfl)) ?_
      refine zaj (gd_t rfl rfl rfl) rfl rfl rfl (zal rfl tb3 (ev2 rfl) rfl rfl) ?_
      refine zaj (gd_t rfl rfl rfl) rfl rfl rfl (op_leq rfl (ev2 rfl) (ev2 rfl)) ?_
      refine zab rfl rfl rfl (op_and rfl (ev1 rfl) (ev3 rfl id)) ?_
      refine zae ?_
      refine dwp_cond rfl (fun c2 => ?_) (fun c2 => ?_)
      · have hin : inBx c l[i] = true := by unfold inBx; rw [Bool.and_assoc] at *; simpa using c2
        refine zah 1 (by simp only [holes, List.cons_append, List.nil_append]; exact rfl) ?_
        refine zad ?_
        refine zab rfl rfl rfl (zac (.inl rfl) (ev1 rfl)) ?_
        refine zab rfl rfl rfl (op_ldw rfl tb32 (ev1 rfl) rfl rfl) ?_
        refine zab rfl rfl rfl (op_bs (ps := [(0, .tmp 53)]) rfl sl25 zr32 rfl (vc (ev1 rfl) vn) rfl (by decide) (by decide)) ?_
        refine zak rfl rfl rfl (op_app (j := 3) rfl sl25 zr32 rfl (ev1 rfl) (ev1 rfl) src_slf rfl rfl (fun _ => rfl) (fun _ => ⟨by omega, by omega⟩)) (by simp only [upd, zaa, za]; exact rfl) ?_
        refine zab rfl rfl rfl (zac (.inr rfl) (ev1 rfl)) ?_
        refine zae ?_
        refine zad ?_
        refine zab rfl rfl rfl (op_add' rfl (ev1 rfl) (ev1 rfl) (fun _ => IntWalk.i64_in _ (by omega))) ?_
        refine zab rfl rfl rfl (zac (.inl rfl) (ev1 rfl)) ?_
        refine zae ?_
        refine ⟨i + 1, [0, 3], by omega, by simp only []; omega, rfl, ⟨rfl, rfl, rfl, rfl, rfl, trivial⟩, ⟨rfl, (by rw [clipS_add hi, if_pos hin, List.length_append, List.flatMap_append]; rfl), trivial⟩⟩
      · have hin : inBx c l[i] = false := by rw [← c2]; unfold inBx; simp
        refine dwp_skip ?_
        refine zad ?_
        refine zab rfl rfl rfl (op_add' rfl (ev1 rfl) (ev1 rfl) (fun _ => IntWalk.i64_in _ (by omega))) ?_
        refine zab rfl rfl rfl (zac (.inl rfl) (ev1 rfl)) ?_
        refine zae ?_
        refine ⟨i + 1, [0, 1], by omega, by simp only []; omega, rfl, ⟨rfl, rfl, rfl, rfl, rfl, trivial⟩, ⟨rfl, (by rw [clipS_add hi, if_neg (by rw [hin]; decide), List.append_nil]; rfl), trivial⟩⟩
    · try simp only [decide_eq_true_eq, decide_eq_false_iff_not, beq_iff_eq, bne_iff_ne, beq_eq_false_iff_ne, bne_eq_false_iff_eq, Bool.not_eq_true', Bool.not_eq_false', Bool.and_eq_true, Bool.or_eq_true, Bool.or_eq_false_iff, ne_eq, Decidable.not_not, Int.not_lt, Int.not_le] at c2
      refine dwp_exit ?_
      refine zaf ?_
      refine zad ?_
      refine zab rfl rfl rfl (zac (.inl rfl) (ev1 rfl)) ?_
      refine zab rfl rfl rfl (zac (.inr rfl) (ev1 rfl)) ?_
      refine zab rfl rfl rfl (zac (.inr rfl) (ev1 rfl)) ?_
      refine zae ?_
      refine dwp_ret ?_
      rw [show clipS c (l.take i) = clipS c l by rw [take_all (by omega)]]
      refine kend0 (rs2 rfl (rv_t rfl) (rv_t rfl)) rfl ?_
      rw [hcl, chkE_ok hc]
end Go.Proofs.YtjgnalfnginjbaaGreatDoor
namespace Go.Proofs.YtjgnalfnginjbaaGreatDoor
set_option maxRecDepth 4000
set_option linter.unusedVariables false
set_option linter.unusedSimpArgs false
open Go.RowKit
set_option maxRecDepth 4000 in
set_option maxHeartbeats 1000000 in
theorem told_d (l : List Sp) : DFun Tryz.prog 80 [.slf 3 l.length (l.flatMap s3)] [] (.fn (.func 103) [] [.loc 0 0]) [.mix 25 [.slf 3 l.length (l.flatMap s3)]] := by
  refine zam (N := 4) 0 (by kernel_rfl) Tryz.func80 rfl rfl rfl (by simp only [fr0, Nat.zero_add, Nat.reduceAdd]; exact rfl) rfl fun s0 hs0 => ?_
  refine dwp_len (t := 0) rfl fun hl0 hL0 => ?_
  refine zaf ?_
  refine zah 1 (by simp only [holes, List.cons_append, List.nil_append]; exact rfl) ?_
  refine zad ?_
  refine zak rfl rfl rfl (op_boxm 0 rfl (ev1 rfl) (fun s v h => by cases h <;> rfl) rfl) (by simp only [upd, zaa, za]; exact rfl) ?_
  refine zab rfl rfl rfl (zac (.inr rfl) (ev1 rfl)) ?_
  refine zae ?_
  refine zaf ?_
  refine zad ?_
  refine zab rfl rfl rfl (op_mkf rfl en (ec (ev1 rfl) en)) ?_
  refine zab rfl rfl rfl (zac (.inr rfl) (ev1 rfl)) ?_
  refine zae ?_
  refine dwp_ret ?_
  refine kend [0] (rs1 rfl (rv_t rfl)) rfl rfl ?_ ⟨rfl, trivial⟩
  rfl
theorem cnt_le {l : List Sp} (h : chkS l) (i : Nat) : cntS (l.take i) ≤ l.length * 512 := by
  have h1 : ∀ (m : List Sp), (∀ s ∈ m, rchS s ∧ s.f ≤ s.t) → cntS m ≤ m.length * 512 := fun m => by
    induction m with
    | nil => intro _; exact Nat.le_refl _
    | cons a m ih =>
      intro hm
      have h2 := ih fun s hs => hm s (List.mem_cons_of_mem _ hs)
      have h3 := hm a (List.mem_cons_self ..)
      unfold rchS at h3
      have h4 : a.wd ≤ 512 := by unfold Sp.wd; omega
      unfold cntS at *
      rw [List.map_cons, List.sum_cons, List.length_cons]
      omega
  have h2 := h1 (l.take i) fun s hs => h.1 s (List.mem_of_mem_take hs)
  rw [List.length_take] at h2
  have : min i l.length * 512 ≤ l.length * 512 := Nat.mul_le_mul_right _ (Nat.min_le_right _ _)
  omega
end Go.Proofs.YtjgnalfnginjbaaGreatDoor
namespace Go.Proofs.YtjgnalfnginjbaaGreatDoor
set_option maxRecDepth 4000
set_option linter.unusedVariables false
set_option linter.unusedSimpArgs false
open Go.RowKit
theorem fl141 : fdL Tryz.prog 141 = some [(0, 2), (2, 2), (4, 2), (6, 1)] := by kernel_rfl
theorem fl32 : fdL Tryz.prog 32 = some [(0, 1), (1, 1), (2, 1)] := by kernel_rfl
theorem fo141_0 : fdO Tryz.prog 141 0 = some 0 := by kernel_rfl
theorem fo141_1 : fdO Tryz.prog 141 1 = some 2 := by kernel_rfl
theorem fo141_2 : fdO Tryz.prog 141 2 = some 4 := by kernel_rfl
theorem fo141_3 : fdO Tryz.prog 141 3 = some 6 := by kernel_rfl
theorem tb141 : tyB Tryz.prog 141 = some (true, 7) := by kernel_rfl
theorem zr141 : zrC Tryz.prog 141 = some [.int .i64 0, .int .i64 0, .int .i64 0, .int .i64 0, .int .i64 0, .int .i64 0, .int .i64 0] := by kernel_rfl
theorem far_int {n k w : Nat} {m : Int} (h : m = 2 * (k : Int) * (w : Int) + (n : Int)) : m / (2 * (n : Int)) = (farN n k w : Nat) := by
  subst h
  unfold farN
  push_cast
  rfl
set_option maxRecDepth 4000 in
set_option maxHeartbeats 1000000 in
theorem along_d (a b : P2) (x y f t : Int) (n k : Nat) (hn : 0 < n) (h1 : n ≤ 1000) (hk : k ≤ 1000) (hf : -1000 ≤ f ∧ f ≤ 1000) (ht : -1000 ≤ t ∧ t ≤ 1000) : DFun Tryz.prog 124 [.loc 0 0, .val (.int .i64 f), .val (.int .i64 t), .val (.int .i64 (n : Int))] [.flat 141 [.int .i64 x, .int .i64 y, .int .i64 a.x, .int .i64 a.y, .int .i64 b.x, .int .i64 b.y, .int .i64 (k : Int)]] (.val (.int .i64 (alongZ n k f t))) [.flat 141 [.int .i64 x, .int .i64 y, .int .i64 a.x, .int .i64 a.y, .int .i64 b.x, .int .i64 b.y, .int .i64 (k : Int)]] := by
  have hw := wayN_eq f t
  have hw2 : wayN f t ≤ 2000 := by omega
  have hmul : (0 : Int) ≤ 2 * (k : Int) * (wayN f t : Int) ∧ 2 * (k : Int) * (wayN f t : Int) ≤ 2000 * 2000 := ⟨Int.mul_nonneg (by omega) (by omega), Int.mul_le_mul (by omega) (by omega) (by omega) (by omega)⟩
  have hfar : farN n k (wayN f t) ≤ 5000000 := by
    unfold farN
    refine Nat.le_trans (Nat.div_le_self _ _) ?_
    have : 2 * k * wayN f t ≤ 2000 * 2000 := Nat.mul_le_mul (by omega) hw2
    omega
  refine zam (N := 33) 1 (by kernel_rfl) Tryz.func124 rfl rfl rfl (by simp only [fr0, Nat.zero_add, Nat.reduceAdd]; exact rfl) rfl fun s0 hs0 => ?_
  refine zaf ?_
  refine zad ?_
  refine zab rfl rfl rfl (zac (.inr rfl) (ev1 rfl)) ?_
  refine zae ?_
  refine zaf ?_
  refine dwp_draw [([], []), ([], []), ([], []), ([0], []), ([], []), ([], []), ([], []), ([], []), ([], []), ([], []), ([], []), ([], []), ([], []), ([], []), ([], [])] mixed (by kernel_rfl) ?_
  refine zag rfl rfl (zac (.inl rfl) (ev1 rfl)) ?_
  refine zag rfl rfl (op_nc rfl (ev1 rfl) (fun s v h => by cases h; exact ⟨_, rfl⟩)) ?_
  refine zag rfl rfl (op_fa rfl fo141_3 (ev1 rfl)) ?_
  refine zag rfl rfl (zal rfl tb3 (ev1 rfl) rfl rfl) ?_
  refine zag rfl rfl (op_mul' rfl (ev1 rfl) (ev1 rfl) (fun _ => IntWalk.i64_in _ (by omega))) ?_
  refine zag rfl rfl (zac (.inl rfl) (ev1 rfl)) ?_
  refine zag rfl rfl (zac (.inl rfl) (ev1 rfl)) ?_
  refine zag rfl rfl (zai [] [] [] rfl (ev1 rfl) (ec (ev1 rfl) (ec (ev1 rfl) en)) rfl rfl (way_d f t (by omega) (by omega)) rfl rfl rfl rfl rfl rfl) ?_
  refine zag rfl rfl (op_mul' rfl (ev1 rfl) (ev1 rfl) (fun _ => IntWalk.i64_in _ (by omega))) ?_
  refine zag rfl rfl (zac (.inl rfl) (ev1 rfl)) ?_
  refine zag rfl rfl (op_add' rfl (ev1 rfl) (ev1 rfl) (fun _ => IntWalk.i64_in _ (by omega))) ?_
  refine zag rfl rfl (zac (.inl rfl) (ev1 rfl)) ?_
  refine zag rfl rfl (op_mul' rfl (ev1 rfl) (ev1 rfl) (fun _ => IntWalk.i64_in _ (by omega))) ?_
  refine zag rfl rfl ((op_quo' rfl (ev1 rfl) (ev1 rfl) (fun _ => ⟨by omega, by omega, by rw [far_int (k := k) (w := wayN f t) rfl]; exact IntWalk.i64_in _ (by omega)⟩)).cast (d' := .val (.int .i64 (farN n k (wayN f t) : Int))) (by rw [far_int (k := k) (w := wayN f t) rfl])) ?_
  refine zag rfl rfl (zac (.inr rfl) (ev1 rfl)) ?_
  refine lex_nil ?_
  refine zaf ?_
  refine zaf ?_
  refine zad ?_
  refine zab rfl rfl rfl (zac (.inl rfl) (ev1 rfl)) ?_
  refine zab rfl rfl rfl (zac (.inl rfl) (ev1 rfl)) ?_
  refine zab rfl rfl rfl (op_lss rfl (ev1 rfl) (ev1 rfl)) ?_
  refine zae ?_
  refine dwp_cond rfl (fun c1 => ?_) (fun c1 => ?_)
  · have c2 : t < f := by simpa using c1
    refine zaf ?_
    refine zad ?_
    refine zab rfl rfl rfl (zac (.inl rfl) (ev1 rfl)) ?_
    refine zab rfl rfl rfl (zac (.inl rfl) (ev1 rfl)) ?_
    refine zab rfl rfl rfl (op_sub' rfl (ev1 rfl) (ev1 rfl) (fun _ => IntWalk.i64_in _ (by omega))) ?_
    refine zab rfl rfl rfl (zac (.inr rfl) (ev1 rfl)) ?_
    refine zae ?_
    refine dwp_ret ?_
    refine kend [0] (rs1 rfl (rv_t rfl)) rfl rfl ?_ ⟨rfl, trivial⟩
    unfold alongZ
    rw [if_pos c2]
  · have c2 : ¬ t < f := by simpa using c1
    refine dwp_skip ?_
    refine zaf ?_
    refine zad ?_
    refine zab rfl rfl rfl (zac (.inl rfl) (ev1 rfl)) ?_
    refine zab rfl rfl rfl (zac (.inl rfl) (ev1 rfl)) ?_
    refine zab rfl rfl rfl (op_add' rfl (ev1 rfl) (ev1 rfl) (fun _ => IntWalk.i64_in _ (by omega))) ?_
    refine zab rfl rfl rfl (zac (.inr rfl) (ev1 rfl)) ?_
    refine zae ?_
    refine dwp_ret ?_
    refine kend [0] (rs1 rfl (rv_t rfl)) rfl rfl ?_ ⟨rfl, trivial⟩
    unfold alongZ
    rw [if_neg c2]
set_option maxRecDepth 4000 in
set_option maxHeartbeats 1000000 in
theorem pmove_d (a b : P2) (k : Nat) (hk : k < gr2 a b) (ha : drwB a = true) (hb : drwB b = true) : DFun Tryz.prog 99 [.loc 0 0] [.flat 141 [.int .i64 (lineP a b k).x, .int .i64 (lineP a b k).y, .int .i64 a.x, .int .i64 a.y, .int .i64 b.x, .int .i64 b.y, .int .i64 (k : Int)]] (.tup []) [.flat 141 [.int .i64 (lineP a b (k + 1)).x, .int .i64 (lineP a b (k + 1)).y, .int .i64 a.x, .int .i64 a.y, .int .i64 b.x, .int .i64 b.y, .int .i64 ((k + 1 : Nat) : Int)]] := by
  have hA := drwB_iff.1 ha
  have hB := drwB_iff.1 hb
  have hwx := wayN_eq a.x b.x
  have hwy := wayN_eq a.y b.y
  have hgr : gr2 a b ≤ 200 := by unfold gr2; omega
  have hmx : (max (wayN a.x b.x : Int) (wayN a.y b.y : Int)) = (gr2 a b : Nat) := by unfold gr2; omega
  refine zam (N := 67) 1 (by kernel_rfl) Tryz.func99 rfl rfl rfl (by simp only [fr0, Nat.zero_add, Nat.reduceAdd]; exact rfl) rfl fun s0 hs0 => ?_
  refine zaf ?_
  refine zad ?_
  refine zab rfl rfl rfl (zac (.inl rfl) (ev1 rfl)) ?_
  refine zab rfl rfl rfl (op_nc rfl (ev1 rfl) (fun s v h => by cases h; exact ⟨_, rfl⟩)) ?_
  refine zab rfl rfl rfl (op_fa rfl fo141_3 (ev1 rfl)) ?_
  refine zab rfl rfl rfl (zal rfl tb3 (ev1 rfl) rfl rfl) ?_
  refine zab rfl rfl rfl (op_add' rfl (ev1 rfl) (ev1 rfl) (fun _ => IntWalk.i64_in _ (by omega))) ?_
  refine zab rfl rfl rfl (op_nc rfl (ev1 rfl) (fun s v h => by cases h; exact ⟨_, rfl⟩)) ?_
  refine zab rfl rfl rfl (op_fa rfl fo141_3 (ev1 rfl)) ?_
  refine walk_s rfl rfl (op_st1 rfl tb3 (ev1 rfl) (ev1 rfl) rfl (Nat.le_of_ble_eq_true rfl) rfl) (by simp only [upd, zaa, za]; exact rfl) ?_
  refine zae ?_
  refine zaf ?_
  refine dwp_draw [([], []), ([], []), ([], []), ([], []), ([0], []), ([], []), ([], []), ([], []), ([], []), ([0], []), ([], []), ([], []), ([], []), ([], []), ([], []), ([0], []), ([], []), ([], []), ([], []), ([], []), ([0], []), ([], []), ([], []), ([], [])] mixed (by kernel_rfl) ?_
  refine zag rfl rfl (zac (.inl rfl) (ev1 rfl)) ?_
  refine zag rfl rfl (op_nc rfl (ev1 rfl) (fun s v h => by cases h; exact ⟨_, rfl⟩)) ?_
  refine zag rfl rfl (op_fa rfl fo141_1 (ev1 rfl)) ?_
  refine zag rfl rfl (op_fa rfl fo51_0 (ev1 rfl)) ?_
  refine zag rfl rfl (zal rfl tb3 (ev1 rfl) rfl rfl) ?_
  refine zag rfl rfl (zac (.inl rfl) (ev1 rfl)) ?_
  refine zag rfl rfl (op_nc rfl (ev1 rfl) (fun s v h => by cases h; exact ⟨_, rfl⟩)) ?_
  refine zag rfl rfl (op_fa rfl fo141_2 (ev1 rfl)) ?_
  refine zag rfl rfl (op_fa rfl fo51_0 (ev1 rfl)) ?_
  refine zag rfl rfl (zal rfl tb3 (ev1 rfl) rfl rfl) ?_
  refine zag rfl rfl (zai [] [] [] rfl (ev1 rfl) (ec (ev1 rfl) (ec (ev1 rfl) en)) rfl rfl (way_d a.x b.x (by omega) (by omega)) rfl rfl rfl rfl rfl rfl) ?_
  refine zag rfl rfl (zac (.inl rfl) (ev1 rfl)) ?_
  refine zag rfl rfl (op_nc rfl (ev1 rfl) (fun s v h => by cases h; exact ⟨_, rfl⟩)) ?_
  refine zag rfl rfl (op_fa rfl fo141_1 (ev1 rfl)) ?_
  refine zag rfl rfl (op_fa rfl fo51_1 (ev1 rfl)) ?_
  refine zag rfl rfl (zal rfl tb3 (ev1 rfl) rfl rfl) ?_
  refine zag rfl rfl (zac (.inl rfl) (ev1 rfl)) ?_
  refine zag rfl rfl (op_nc rfl (ev1 rfl) (fun s v h => by cases h; exact ⟨_, rfl⟩)) ?_
  refine zag rfl rfl (op_fa rfl fo141_2 (ev1 rfl)) ?_
  refine zag rfl rfl (op_fa rfl fo51_1 (ev1 rfl)) ?_
  refine zag rfl rfl (zal rfl tb3 (ev1 rfl) rfl rfl) ?_
  refine zag rfl rfl (zai [] [] [] rfl (ev1 rfl) (ec (ev1 rfl) (ec (ev1 rfl) en)) rfl rfl (way_d a.y b.y (by omega) (by omega)) rfl rfl rfl rfl rfl rfl) ?_
  refine zag rfl rfl ((op_max rfl (ev1 rfl) (ev1 rfl)).cast (d' := .val (.int .i64 (gr2 a b : Int))) (by rw [hmx])) ?_
  refine zag rfl rfl (zac (.inr rfl) (ev1 rfl)) ?_
  refine lex_nil ?_
  refine zaf ?_
  refine dwp_draw [([], []), ([], []), ([], []), ([], []), ([], []), ([], []), ([0], []), ([], []), ([], []), ([], []), ([], []), ([0], []), ([], []), ([0], [0]), ([], []), ([], []), ([], []), ([0], [0])] mixed (by kernel_rfl) ?_
  refine zag rfl rfl (zac (.inl rfl) (ev1 rfl)) ?_
  refine zag rfl rfl (zac (.inl rfl) (ev1 rfl)) ?_
  refine zag rfl rfl (zac (.inl rfl) (ev1 rfl)) ?_
  refine zag rfl rfl (op_nc rfl (ev1 rfl) (fun s v h => by cases h; exact ⟨_, rfl⟩)) ?_
  refine zag rfl rfl (op_fa rfl fo141_1 (ev1 rfl)) ?_
  refine zag rfl rfl (op_fa rfl fo51_0 (ev1 rfl)) ?_
  refine zag rfl rfl (zal rfl tb3 (ev1 rfl) rfl rfl) ?_
  refine zag rfl rfl (zac (.inl rfl) (ev1 rfl)) ?_
  refine zag rfl rfl (op_nc rfl (ev1 rfl) (fun s v h => by cases h; exact ⟨_, rfl⟩)) ?_
  refine zag rfl rfl (op_fa rfl fo141_2 (ev1 rfl)) ?_
  refine zag rfl rfl (op_fa rfl fo51_0 (ev1 rfl)) ?_
  refine zag rfl rfl (zal rfl tb3 (ev1 rfl) rfl rfl) ?_
  refine zag rfl rfl (zac (.inl rfl) (ev1 rfl)) ?_
  refine lex_w rfl rfl (zai [0] [] [] rfl (ev1 rfl) (ec (ev1 rfl) (ec (ev1 rfl) (ec (ev1 rfl) (ec (ev1 rfl) en)))) rfl rfl (along_d a b _ _ a.x b.x (gr2 a b) (k + 1) (by omega) (by omega) (by omega) (by omega) (by omega)) rfl rfl rfl rfl rfl rfl) rfl (by simp only [upd, zaa, za]; exact rfl) ?_
  refine zag rfl rfl (op_nc rfl (ev1 rfl) (fun s v h => by cases h; exact ⟨_, rfl⟩)) ?_
  refine zag rfl rfl (op_fa rfl fo141_0 (ev1 rfl)) ?_
  refine zag rfl rfl (op_fa rfl fo51_0 (ev1 rfl)) ?_
  refine lex_s rfl rfl (op_st1 rfl tb3 (ev1 rfl) (ev1 rfl) rfl (Nat.le_of_ble_eq_true rfl) rfl) rfl (by simp only [upd, zaa, za]; exact rfl) ?_
  refine lex_nil ?_
  refine dwp_draw [([], []), ([], []), ([], []), ([], []), ([], []), ([], []), ([0], []), ([], []), ([], []), ([], []), ([], []), ([0], []), ([], []), ([0], [0]), ([], []), ([], []), ([], []), ([0], [0])] mixed (by kernel_rfl) ?_
  refine zag rfl rfl (zac (.inl rfl) (ev1 rfl)) ?_
  refine zag rfl rfl (zac (.inl rfl) (ev1 rfl)) ?_
  refine zag rfl rfl (zac (.inl rfl) (ev1 rfl)) ?_
  refine zag rfl rfl (op_nc rfl (ev1 rfl) (fun s v h => by cases h; exact ⟨_, rfl⟩)) ?_
  refine zag rfl rfl (op_fa rfl fo141_1 (ev1 rfl)) ?_
  refine zag rfl rfl (op_fa rfl fo51_1 (ev1 rfl)) ?_
  refine zag rfl rfl (zal rfl tb3 (ev1 rfl) rfl rfl) ?_
  refine zag rfl rfl (zac (.inl rfl) (ev1 rfl)) ?_
  refine zag rfl rfl (op_nc rfl (ev1 rfl) (fun s v h => by cases h; exact ⟨_, rfl⟩)) ?_
  refine zag rfl rfl (op_fa rfl fo141_2 (ev1 rfl)) ?_
  refine zag rfl rfl (op_fa rfl fo51_1 (ev1 rfl)) ?_
  refine zag rfl rfl (zal rfl tb3 (ev1 rfl) rfl rfl) ?_
  refine zag rfl rfl (zac (.inl rfl) (ev1 rfl)) ?_
  refine lex_w rfl rfl (zai [0] [] [] rfl (ev1 rfl) (ec (ev1 rfl) (ec (ev1 rfl) (ec (ev1 rfl) (ec (ev1 rfl) en)))) rfl rfl (along_d a b _ _ a.y b.y (gr2 a b) (k + 1) (by omega) (by omega) (by omega) (by omega) (by omega)) rfl rfl rfl rfl rfl rfl) rfl (by simp only [upd, zaa, za]; exact rfl) ?_
  refine zag rfl rfl (op_nc rfl (ev1 rfl) (fun s v h => by cases h; exact ⟨_, rfl⟩)) ?_
  refine zag rfl rfl (op_fa rfl fo141_0 (ev1 rfl)) ?_
  refine zag rfl rfl (op_fa rfl fo51_1 (ev1 rfl)) ?_
  refine lex_s rfl rfl (op_st1 rfl tb3 (ev1 rfl) (ev1 rfl) rfl (Nat.le_of_ble_eq_true rfl) rfl) rfl (by simp only [upd, zaa, za]; exact rfl) ?_
  refine lex_nil ?_
  refine kend [0] (res_none rfl) rfl rfl ?_ ⟨rfl, trivial⟩
  rfl
def lineK (a b : P2) (k : Nat) : List P2 := (List.range k).map (lineP a b)
theorem lineK_succ (a b : P2) (k : Nat) : lineK a b (k + 1) = lineK a b k ++ [lineP a b k] := by unfold lineK; rw [List.range_succ, List.map_append]; rfl
theorem lineK_len (a b : P2) (k : Nat) : (lineK a b k).length = k := by unfold lineK; simp
theorem lineK_all (a b : P2) : lineK a b (gr2 a b + 1) = lineL a b := rfl
def linL (a b : P2) : List P2 := if (drwB a && drwB b) = true then lineL a b else []
def drwE (a b : P2) : Int := if (drwB a && drwB b) = true then 0 else 2
theorem lin_ok {a b : P2} (h : (drwB a && drwB b) = true) : linL a b = lineL a b ∧ drwE a b = 0 := by unfold linL drwE; rw [if_pos h, if_pos h]; exact ⟨rfl, rfl⟩
theorem lin_no {a b : P2} (h : (drwB a && drwB b) = false) : linL a b = [] ∧ drwE a b = 2 := by unfold linL drwE; rw [h]; exact ⟨rfl, rfl⟩
theorem line_lt {a b : P2} {k : Nat} (hk : k ≤ gr2 a b) (h : lineP a b k ≠ b) : k < gr2 a b := by
  rcases Nat.lt_or_eq_of_le hk with e | e
  · exact e
  · subst e; exact absurd (line_end a b) h
theorem line_eq {a b : P2} {k : Nat} (hk : k ≤ gr2 a b) (h : lineP a b k = b) : k = gr2 a b := by
  rcases Nat.lt_or_eq_of_le hk with e | e
  · exact absurd h (line_ne e)
  · exact e
theorem pmove0_d (a b : P2) (hk : 0 < gr2 a b) (ha : drwB a = true) (hb : drwB b = true) : DFun Tryz.prog 99 [.loc 0 0] [.flat 141 [.int .i64 a.x, .int .i64 a.y, .int .i64 a.x, .int .i64 a.y, .int .i64 b.x, .int .i64 b.y, .int .i64 (0 : Int)]] (.tup []) [.flat 141 [.int .i64 (lineP a b (0 + 1)).x, .int .i64 (lineP a b (0 + 1)).y, .int .i64 a.x, .int .i64 a.y, .int .i64 b.x, .int .i64 b.y, .int .i64 ((0 + 1 : Nat) : Int)]] := by
  have h := pmove_d a b 0 hk ha hb
  rw [line_zero] at h
  exact h
theorem lineK_one (a b : P2) : lineK a b 1 = [a] := by show [lineP a b 0] = [a]; rw [line_zero]
set_option maxRecDepth 4000 in
set_option maxHeartbeats 1000000 in
theorem line_no (a b : P2) (h : (drwB a && drwB b) = false) : DFun Tryz.prog 69 [.val (.agg #[.int .i64 a.x, .int .i64 a.y]), .val (.agg #[.int .i64 b.x, .int .i64 b.y])] [] (.tup [.val (.slice none 0 0), .val (.int .i64 2)]) [] := by
  refine zam (N := 30) 0 (by kernel_rfl) Tryz.func69 rfl rfl rfl (by simp only [fr0, Nat.zero_add, Nat.reduceAdd]; exact rfl) rfl fun s0 hs0 => ?_
  refine zaf ?_
  refine zah 2 (by simp only [holes, List.cons_append, List.nil_append]; exact rfl) ?_
  refine zad ?_
  refine zak rfl rfl rfl (op_boxa 0 rfl (ev1 rfl) rfl) (by simp only [upd, zaa, za]; exact rfl) ?_
  refine zak rfl rfl rfl (op_boxa 1 rfl (ev1 rfl) rfl) (by simp only [upd, zaa, za]; exact rfl) ?_
  refine zab rfl rfl rfl (zac (.inr rfl) (ev1 rfl)) ?_
  refine zab rfl rfl rfl (zac (.inr rfl) (ev1 rfl)) ?_
  refine zae ?_
  refine dwp_scope ?_
  refine zaf ?_
  refine zaf ?_
  refine zad ?_
  refine zab rfl rfl rfl (op_ldw rfl tb51 (ev1 rfl) rfl rfl) ?_
  refine zab rfl rfl rfl (op_ldw rfl tb51 (ev1 rfl) rfl rfl) ?_
  refine zab rfl rfl rfl (op_bs (ps := [(0, .tmp 9), (1, .tmp 10)]) rfl sl48 zr51 rfl (vc (ev1 rfl) (vc (ev1 rfl) vn)) rfl (by decide) (by decide)) ?_
  refine zab rfl rfl rfl (zai [] [] [] rfl (ev1 rfl) (ec (ev1 rfl) en) rfl rfl (undrawn_d [a, b]) rfl rfl rfl rfl rfl rfl) ?_
  refine zae ?_
  refine dwp_if_t rfl (by unfold drwL; rcases Bool.and_eq_false_iff.1 h with h | h <;> simp [h]) ?_
  refine zaf ?_
  refine zad ?_
  refine zab rfl rfl rfl (zac (.inr rfl) (ev1 rfl)) ?_
  refine zab rfl rfl rfl (zac (.inr rfl) (ev1 rfl)) ?_
  refine zae ?_
  refine dwp_ret ?_
  refine kend0 (rs2 rfl (rv_t rfl) (rv_t rfl)) rfl ?_
  rfl
set_option maxRecDepth 4000 in
set_option maxHeartbeats 1000000 in
theorem line_o (a b : P2) (ha : drwB a = true) (hb : drwB b = true) : DFun Tryz.prog 69 [.val (.agg #[.int .i64 a.x, .int .i64 a.y]), .val (.agg #[.int .i64 b.x, .int .i64 b.y])] [] (.tup [.arr 0, .val (.int .i64 0)]) [.arr 51 2 (lineL a b).length ((lineL a b).flatMap p2)] := by
  have hA := drwB_iff.1 ha
  have hB := drwB_iff.1 hb
  have hwx := wayN_eq a.x b.x
  have hwy := wayN_eq a.y b.y
  have hgr : gr2 a b ≤ 200 := by unfold gr2; omega
  refine zam (N := 30) 0 (by kernel_rfl) Tryz.func69 rfl rfl rfl (by simp only [fr0, Nat.zero_add, Nat.reduceAdd]; exact rfl) rfl fun s0 hs0 => ?_
  refine zaf ?_
  refine zah 2 (by simp only [holes, List.cons_append, List.nil_append]; exact rfl) ?_
  refine zad ?_
  refine zak rfl rfl rfl (op_boxa 0 rfl (ev1 rfl) rfl) (by simp only [upd, zaa, za]; exact rfl) ?_
  refine zak rfl rfl rfl (op_boxa 1 rfl (ev1 rfl) rfl) (by simp only [upd, zaa, za]; exact rfl) ?_
  refine zab rfl rfl rfl (zac (.inr rfl) (ev1 rfl)) ?_
  refine zab rfl rfl rfl (zac (.inr rfl) (ev1 rfl)) ?_
  refine zae ?_
  refine dwp_jumps (α := Nat) 0 rfl (fun k => [] ++ [(3, .loc 1 0), (6, .loc 2 0), (7, .fn (.func 99) [.loc 2 0] []), (8, .arr 3)]) (fun k => upd [.flat 51 [.int .i64 a.x, .int .i64 a.y], .flat 51 [.int .i64 b.x, .int .i64 b.y], .hole, .hole] [(2, .flat 141 [.int .i64 (lineP a b k).x, .int .i64 (lineP a b k).y, .int .i64 a.x, .int .i64 a.y, .int .i64 b.x, .int .i64 b.y, .int .i64 ((k : Nat) : Int)]), (3, .arr 51 2 (lineK a b k).length ((lineK a b k).flatMap p2))]) (fun k => k ≤ gr2 a b) (fun k => gr2 a b - k) ?_ (fun k hx => ?_)
  · refine zaf ?_
    refine zaf ?_
    refine zad ?_
    refine zab rfl rfl rfl (op_ldw rfl tb51 (ev1 rfl) rfl rfl) ?_
    refine zab rfl rfl rfl (op_ldw rfl tb51 (ev1 rfl) rfl rfl) ?_
    refine zab rfl rfl rfl (op_bs (ps := [(0, .tmp 9), (1, .tmp 10)]) rfl sl48 zr51 rfl (vc (ev1 rfl) (vc (ev1 rfl) vn)) rfl (by decide) (by decide)) ?_
    refine zab rfl rfl rfl (zai [] [] [] rfl (ev1 rfl) (ec (ev1 rfl) en) rfl rfl (undrawn_d [a, b]) rfl rfl rfl rfl rfl rfl) ?_
    refine zae ?_
    refine dwp_if_f rfl (by unfold drwL; simp [ha, hb]) ?_
    refine dwp_skip ?_
    refine zaf ?_
    refine zah 1 (by simp only [holes, List.cons_append, List.nil_append]; exact rfl) ?_
    refine zad ?_
    refine zab rfl rfl rfl (op_ldw rfl tb51 (ev1 rfl) rfl rfl) ?_
    refine zab rfl rfl rfl (op_ldw rfl tb51 (ev1 rfl) rfl rfl) ?_
    refine zab rfl rfl rfl (op_ldw rfl tb51 (ev1 rfl) rfl rfl) ?_
    refine zab rfl rfl rfl ((op_build (ps := [(0, .tmp 13), (1, .tmp 14), (2, .tmp 15)]) rfl fl141 zr141 (vc (ev1 rfl) (vc (ev1 rfl) (vc (ev1 rfl) vn))) rfl rfl).cast (d' := .val (.agg #[.int .i64 a.x, .int .i64 a.y, .int .i64 a.x, .int .i64 a.y, .int .i64 b.x, .int .i64 b.y, .int .i64 0])) (by kernel_rfl)) ?_
    refine zak rfl rfl rfl (op_alloc 2 rfl zr141 rfl) (by simp only [upd, zaa, za]; exact rfl) ?_
    refine walk_s rfl rfl (op_stwa rfl tb141 (ev1 rfl) (ev1 rfl) rfl rfl rfl rfl) (by simp only [upd, zaa, za]; exact rfl) ?_
    refine zae ?_
    refine zaf ?_
    refine zad ?_
    refine zab rfl rfl rfl (op_mkf rfl (ec (ev1 rfl) en) en) ?_
    refine zab rfl rfl rfl (zac (.inr rfl) (ev1 rfl)) ?_
    refine zae ?_
    refine zaf ?_
    refine zad ?_
    refine zab rfl rfl rfl (zac (.inr rfl) (ev1 rfl)) ?_
    refine zae ?_
    refine zaf ?_
    refine dwp_label ?_
    refine zaf ?_
    refine dwp_adopt 8 51 2 rfl rfl rfl ?_
    refine zah 1 (by simp only [holes, List.cons_append, List.nil_append]; exact rfl) ?_
    refine zad ?_
    refine zab rfl rfl rfl (zac (.inl rfl) (ev1 rfl)) ?_
    refine zab rfl rfl rfl (op_fa rfl fo141_0 (ev1 rfl)) ?_
    refine zab rfl rfl rfl (op_ldr rfl tb51 (ev1 rfl) rfl rfl rfl) ?_
    refine zab rfl rfl rfl (op_bs (ps := [(0, .tmp 20)]) rfl sl48 zr51 rfl (vc (ev1 rfl) vn) rfl (by decide) (by decide)) ?_
    refine zak rfl rfl rfl (op_app (j := 4) rfl sl48 zr51 rfl (ev1 rfl) (ev1 rfl) src_slf rfl rfl (fun _ => rfl) (fun _ => ⟨by omega, by omega⟩)) (by simp only [upd, zaa, za]; exact rfl) ?_
    refine zab rfl rfl rfl (zac (.inr rfl) (ev1 rfl)) ?_
    refine zae ?_
    refine zaf ?_
    refine zaf ?_
    refine zad ?_
    refine zab rfl rfl rfl (op_fa rfl fo141_0 (ev1 rfl)) ?_
    refine zab rfl rfl rfl (op_ldr rfl tb51 (ev1 rfl) rfl rfl rfl) ?_
    refine zab rfl rfl rfl (op_ldw rfl tb51 (ev1 rfl) rfl rfl) ?_
    refine zab rfl rfl rfl (op_ner eq51 rfl gd51 tb51 (ev1 rfl) (ev1 rfl)) ?_
    refine zae ?_
    refine dwp_cond rfl (fun c1 => ?_) (fun c1 => ?_)
    · have hlt : 0 < gr2 a b := line_lt (Nat.zero_le _) (by rw [line_zero]; simpa using c1)
      refine zaf ?_
      refine zad ?_
      refine zab rfl rfl rfl (zac (.inl rfl) (ev1 rfl)) ?_
      refine zak rfl rfl rfl (zai [2] [] [] rfl (ev1 rfl) en rfl rfl (pmove0_d a b hlt ha hb) rfl rfl rfl rfl rfl rfl) (by simp only [upd, zaa, za]; exact rfl) ?_
      refine zae ?_
      refine dwp_goto ⟨rfl, 1, by omega, fun a w hi => inv_ren (σ := [0, 1, 2, 4]) hi ⟨hs0, rfl⟩ rfl ⟨rfl, rfl, rfl, rfl, trivial⟩ ⟨rfl, rfl, rfl, (by rw [lineK_one]; rfl), trivial⟩⟩
    · have hab : a = b := by simpa using c1
      have hge : 0 = gr2 a b := line_eq (Nat.zero_le _) (by rw [line_zero]; exact hab)
      refine dwp_skip ?_
      refine zaf ?_
      refine zad ?_
      refine zab rfl rfl rfl (zac (.inl rfl) (ev1 rfl)) ?_
      refine zab rfl rfl rfl (zac (.inr rfl) (ev1 rfl)) ?_
      refine zab rfl rfl rfl (zac (.inr rfl) (ev1 rfl)) ?_
      refine zae ?_
      refine dwp_ret ?_
      refine kend [4] (rs2 rfl (rv_t rfl) (rv_t rfl)) rfl rfl ?_ ⟨?_, trivial⟩
      rfl
      exact (by rw [← lineK_all, ← hge, lineK_one]; rfl)
  · simp only [upd, zaa, za, List.cons_append, List.nil_append]
    have hk := hx
    have hkl := lineK_len a b k
    refine zaf ?_
    refine dwp_skip ?_
    refine zaf ?_
    refine zah 1 (by simp only [holes, List.cons_append, List.nil_append]; exact rfl) ?_
    refine zad ?_
    refine zab rfl rfl rfl (zac (.inl rfl) (ev1 rfl)) ?_
    refine zab rfl rfl rfl (op_fa rfl fo141_0 (ev1 rfl)) ?_
    refine zab rfl rfl rfl (op_ldr rfl tb51 (ev1 rfl) rfl rfl rfl) ?_
    refine zab rfl rfl rfl (op_bs (ps := [(0, .tmp 20)]) rfl sl48 zr51 rfl (vc (ev1 rfl) vn) rfl (by decide) (by decide)) ?_
    refine zak rfl rfl rfl (op_app (j := 4) rfl sl48 zr51 rfl (ev1 rfl) (ev1 rfl) src_slf rfl rfl (fun _ => rfl) (fun _ => ⟨by omega, by omega⟩)) (by simp only [upd, zaa, za]; exact rfl) ?_
    refine zab rfl rfl rfl (zac (.inr rfl) (ev1 rfl)) ?_
    refine zae ?_
    refine zaf ?_
    refine zaf ?_
    refine zad ?_
    refine zab rfl rfl rfl (op_fa rfl fo141_0 (ev1 rfl)) ?_
    refine zab rfl rfl rfl (op_ldr rfl tb51 (ev1 rfl) rfl rfl rfl) ?_
    refine zab rfl rfl rfl (op_ldw rfl tb51 (ev1 rfl) rfl rfl) ?_
    refine zab rfl rfl rfl (op_ner eq51 rfl gd51 tb51 (ev1 rfl) (ev1 rfl)) ?_
    refine zae ?_
    refine dwp_cond rfl (fun c2 => ?_) (fun c2 => ?_)
    · have hlt := line_lt hk (by simpa using c2)
      refine zaf ?_
      refine zad ?_
      refine zab rfl rfl rfl (zac (.inl rfl) (ev1 rfl)) ?_
      refine zak rfl rfl rfl (zai [2] [] [] rfl (ev1 rfl) en rfl rfl (pmove_d a b k hlt ha hb) rfl rfl rfl rfl rfl rfl) (by simp only [upd, zaa, za]; exact rfl) ?_
      refine zae ?_
      refine dwp_goto ⟨rfl, k + 1, by omega, by omega, fun a w hi => inv_ren (σ := [0, 1, 2, 4]) hi ⟨hs0, rfl⟩ rfl ⟨rfl, rfl, rfl, rfl, trivial⟩ ⟨rfl, rfl, rfl, (by rw [lineK_succ, List.length_append, List.flatMap_append]; rfl), trivial⟩⟩
    · have hke := line_eq hk (by simpa using c2)
      refine dwp_skip ?_
      refine zaf ?_
      refine zad ?_
      refine zab rfl rfl rfl (zac (.inl rfl) (ev1 rfl)) ?_
      refine zab rfl rfl rfl (zac (.inr rfl) (ev1 rfl)) ?_
      refine zab rfl rfl rfl (zac (.inr rfl) (ev1 rfl)) ?_
      refine zae ?_
      refine dwp_ret ?_
      refine kend [4] (rs2 rfl (rv_t rfl) (rv_t rfl)) rfl rfl ?_ ⟨?_, trivial⟩
      rfl
      exact (by rw [← lineK_all, ← hke, lineK_succ, List.length_append, List.flatMap_append]; rfl)
theorem line_d (a b : P2) : DFun Tryz.prog 69 [.val (.agg #[.int .i64 a.x, .int .i64 a.y]), .val (.agg #[.int .i64 b.x, .int .i64 b.y])] [] (.tup [.slf 2 (linL a b).length ((linL a b).flatMap p2), .val (.int .i64 (drwE a b))]) [] := by
  cases h : (drwB a && drwB b) with
  | true =>
    obtain ⟨e1, e2⟩ := lin_ok h
    obtain ⟨ha, hb⟩ := Bool.and_eq_true_iff.1 h
    rw [e1, e2]
    exact freeze (line_o a b ha hb) rfl
  | false =>
    obtain ⟨e1, e2⟩ := lin_no h
    rw [e1, e2]
    exact (line_no a b h).wk (Wk.tup (WkL.cons (Wk.slf0 2) (WkL.cons (Wk.refl _) WkL.nil)))
def rctL (a b : P2) : List Sp := if (drwB a && drwB b) = true then rectL a b else []
theorem rct_ok {a b : P2} (h : (drwB a && drwB b) = true) : rctL a b = rectL a b ∧ drwE a b = 0 := by unfold rctL drwE; rw [if_pos h, if_pos h]; exact ⟨rfl, rfl⟩
theorem rct_no {a b : P2} (h : (drwB a && drwB b) = false) : rctL a b = [] ∧ drwE a b = 2 := by unfold rctL drwE; rw [h]; exact ⟨rfl, rfl⟩
def rectK (a b : P2) (k : Nat) : List Sp := (List.range k).map fun j : Nat => ⟨min a.y b.y + (j : Int), min a.x b.x, max a.x b.x⟩
theorem rectK_succ (a b : P2) (k : Nat) : rectK a b (k + 1) = rectK a b k ++ [⟨min a.y b.y + (k : Int), min a.x b.x, max a.x b.x⟩] := by unfold rectK; rw [List.range_succ, List.map_append]; rfl
theorem rectK_len (a b : P2) (k : Nat) : (rectK a b k).length = k := by unfold rectK; simp
theorem rectK_all (a b : P2) : rectK a b (wayN a.y b.y + 1) = rectL a b := rfl
set_option maxRecDepth 4000 in
set_option maxHeartbeats 1000000 in
theorem rect_no (a b : P2) (h : (drwB a && drwB b) = false) : DFun Tryz.prog 71 [.val (.agg #[.int .i64 a.x, .int .i64 a.y]), .val (.agg #[.int .i64 b.x, .int .i64 b.y])] [] (.tup [.val (.slice none 0 0), .val (.int .i64 2)]) [] := by
  refine zam (N := 42) 0 (by kernel_rfl) Tryz.func71 rfl rfl rfl (by simp only [fr0, Nat.zero_add, Nat.reduceAdd]; exact rfl) rfl fun s0 hs0 => ?_
  refine zaf ?_
  refine zah 2 (by simp only [holes, List.cons_append, List.nil_append]; exact rfl) ?_
  refine zad ?_
  refine zak rfl rfl rfl (op_boxa 0 rfl (ev1 rfl) rfl) (by simp only [upd, zaa, za]; exact rfl) ?_
  refine zak rfl rfl rfl (op_boxa 1 rfl (ev1 rfl) rfl) (by simp only [upd, zaa, za]; exact rfl) ?_
  refine zab rfl rfl rfl (zac (.inr rfl) (ev1 rfl)) ?_
  refine zab rfl rfl rfl (zac (.inr rfl) (ev1 rfl)) ?_
  refine zae ?_
  refine zaf ?_
  refine zaf ?_
  refine zad ?_
  refine zab rfl rfl rfl (op_ldw rfl tb51 (ev1 rfl) rfl rfl) ?_
  refine zab rfl rfl rfl (op_ldw rfl tb51 (ev1 rfl) rfl rfl) ?_
  refine zab rfl rfl rfl (op_bs (ps := [(0, .tmp 8), (1, .tmp 9)]) rfl sl48 zr51 rfl (vc (ev1 rfl) (vc (ev1 rfl) vn)) rfl (by decide) (by decide)) ?_
  refine zab rfl rfl rfl (zai [] [] [] rfl (ev1 rfl) (ec (ev1 rfl) en) rfl rfl (undrawn_d [a, b]) rfl rfl rfl rfl rfl rfl) ?_
  refine zae ?_
  refine dwp_if_t rfl (by unfold drwL; rcases Bool.and_eq_false_iff.1 h with h | h <;> simp [h]) ?_
  refine zaf ?_
  refine zad ?_
  refine zab rfl rfl rfl (zac (.inr rfl) (ev1 rfl)) ?_
  refine zab rfl rfl rfl (zac (.inr rfl) (ev1 rfl)) ?_
  refine zae ?_
  refine dwp_ret ?_
  refine kend0 (rs2 rfl (rv_t rfl) (rv_t rfl)) rfl ?_
  rfl
set_option maxRecDepth 4000 in
set_option maxHeartbeats 1000000 in
theorem rect_o (a b : P2) (ha : drwB a = true) (hb : drwB b = true) : DFun Tryz.prog 71 [.val (.agg #[.int .i64 a.x, .int .i64 a.y]), .val (.agg #[.int .i64 b.x, .int .i64 b.y])] [] (.tup [.arr 0, .val (.int .i64 0)]) [.arr 32 3 (rectL a b).length ((rectL a b).flatMap s3)] := by
  have hA := drwB_iff.1 ha
  have hB := drwB_iff.1 hb
  have hwy := wayN_eq a.y b.y
  refine zam (N := 42) 0 (by kernel_rfl) Tryz.func71 rfl rfl rfl (by simp only [fr0, Nat.zero_add, Nat.reduceAdd]; exact rfl) rfl fun s0 hs0 => ?_
  refine zaf ?_
  refine zah 2 (by simp only [holes, List.cons_append, List.nil_append]; exact rfl) ?_
  refine zad ?_
  refine zak rfl rfl rfl (op_boxa 0 rfl (ev1 rfl) rfl) (by simp only [upd, zaa, za]; exact rfl) ?_
  refine zak rfl rfl rfl (op_boxa 1 rfl (ev1 rfl) rfl) (by simp only [upd, zaa, za]; exact rfl) ?_
  refine zab rfl rfl rfl (zac (.inr rfl) (ev1 rfl)) ?_
  refine zab rfl rfl rfl (zac (.inr rfl) (ev1 rfl)) ?_
  refine zae ?_
  refine zaf ?_
  refine zaf ?_
  refine zad ?_
  refine zab rfl rfl rfl (op_ldw rfl tb51 (ev1 rfl) rfl rfl) ?_
  refine zab rfl rfl rfl (op_ldw rfl tb51 (ev1 rfl) rfl rfl) ?_
  refine zab rfl rfl rfl (op_bs (ps := [(0, .tmp 8), (1, .tmp 9)]) rfl sl48 zr51 rfl (vc (ev1 rfl) (vc (ev1 rfl) vn)) rfl (by decide) (by decide)) ?_
  refine zab rfl rfl rfl (zai [] [] [] rfl (ev1 rfl) (ec (ev1 rfl) en) rfl rfl (undrawn_d [a, b]) rfl rfl rfl rfl rfl rfl) ?_
  refine zae ?_
  refine dwp_if_f rfl (by unfold drwL; simp [ha, hb]) ?_
  refine dwp_skip ?_
  refine zaf ?_
  refine zad ?_
  refine zab rfl rfl rfl (zac (.inr rfl) (ev1 rfl)) ?_
  refine zae ?_
  refine zaf ?_
  refine zaf ?_
  refine zad ?_
  refine zab rfl rfl rfl (op_fa rfl fo51_1 (ev1 rfl)) ?_
  refine zab rfl rfl rfl (zal rfl tb3 (ev1 rfl) rfl rfl) ?_
  refine zab rfl rfl rfl (op_fa rfl fo51_1 (ev1 rfl)) ?_
  refine zab rfl rfl rfl (zal rfl tb3 (ev1 rfl) rfl rfl) ?_
  refine zab rfl rfl rfl (op_min rfl (ev1 rfl) (ev1 rfl)) ?_
  refine zab rfl rfl rfl (zac (.inr rfl) (ev1 rfl)) ?_
  refine zae ?_
  refine dwp_block ?_
  refine dwp_adopt 6 32 3 rfl rfl rfl ?_
  refine dwp_loopS ⟨hs0, rfl⟩ (α := Nat) (fun k => [(7, .val (.int .i64 (min a.y b.y + (k : Int))))]) [(2, _), (3, _), (6, _)] (fun k => [(2, .arr 32 3 (rectK a b k).length ((rectK a b k).flatMap s3))]) [_, _, .hole] (fun k => k ≤ wayN a.y b.y + 1) (fun k => wayN a.y b.y + 1 - k) 0 [0, 1, 2] (Nat.zero_le _) rfl ⟨rfl, rfl, rfl, trivial⟩ ⟨congrArg (fun z => some (D.val (.int .i64 z))) (Int.add_zero _).symm, trivial⟩ ⟨rfl, rfl, rfl, trivial⟩ ?_
  intro k hx
  simp only [upd, zaa, za, List.cons_append, List.nil_append]
  have hk := hx
  have hkl := rectK_len a b k
  refine zaf ?_
  refine zaf ?_
  refine zad ?_
  refine zab rfl rfl rfl (zac (.inl rfl) (ev1 rfl)) ?_
  refine zab rfl rfl rfl (op_fa rfl fo51_1 (ev1 rfl)) ?_
  refine zab rfl rfl rfl (zal rfl tb3 (ev1 rfl) rfl rfl) ?_
  refine zab rfl rfl rfl (op_fa rfl fo51_1 (ev1 rfl)) ?_
  refine zab rfl rfl rfl (zal rfl tb3 (ev1 rfl) rfl rfl) ?_
  refine zab rfl rfl rfl (op_max rfl (ev1 rfl) (ev1 rfl)) ?_
  refine zab rfl rfl rfl (op_leq rfl (ev1 rfl) (ev1 rfl)) ?_
  refine zae ?_
  refine dwp_cond rfl (fun c2 => ?_) (fun c2 => ?_)
  · try simp only [decide_eq_true_eq, decide_eq_false_iff_not, beq_iff_eq, bne_iff_ne, beq_eq_false_iff_ne, bne_eq_false_iff_eq, Bool.not_eq_true', Bool.not_eq_false', Bool.and_eq_true, Bool.or_eq_true, Bool.or_eq_false_iff, ne_eq, Decidable.not_not, Int.not_lt, Int.not_le] at c2
    refine dwp_skip ?_
    refine zaf ?_
    refine dwp_block ?_
    refine zah 1 (by simp only [holes, List.cons_append, List.nil_append]; exact rfl) ?_
    refine zad ?_
    refine zab rfl rfl rfl (zac (.inl rfl) (ev1 rfl)) ?_
    refine zab rfl rfl rfl (zac (.inl rfl) (ev1 rfl)) ?_
    refine zab rfl rfl rfl (op_fa rfl fo51_0 (ev1 rfl)) ?_
    refine zab rfl rfl rfl (zal rfl tb3 (ev1 rfl) rfl rfl) ?_
    refine zab rfl rfl rfl (op_fa rfl fo51_0 (ev1 rfl)) ?_
    refine zab rfl rfl rfl (zal rfl tb3 (ev1 rfl) rfl rfl) ?_
    refine zab rfl rfl rfl (op_min rfl (ev1 rfl) (ev1 rfl)) ?_
    refine zab rfl rfl rfl (op_fa rfl fo51_0 (ev1 rfl)) ?_
    refine zab rfl rfl rfl (zal rfl tb3 (ev1 rfl) rfl rfl) ?_
    refine zab rfl rfl rfl (op_fa rfl fo51_0 (ev1 rfl)) ?_
    refine zab rfl rfl rfl (zal rfl tb3 (ev1 rfl) rfl rfl) ?_
    refine zab rfl rfl rfl (op_max rfl (ev1 rfl) (ev1 rfl)) ?_
    refine zab rfl rfl rfl (op_build (ps := [(0, .tmp 27), (1, .tmp 32), (2, .tmp 37)]) rfl fl32 zr32 (vc (ev1 rfl) (vc (ev1 rfl) (vc (ev1 rfl) vn))) rfl rfl) ?_
    refine zab rfl rfl rfl (op_bs (ps := [(0, .tmp 38)]) rfl sl25 zr32 rfl (vc (ev1 rfl) vn) rfl (by decide) (by decide)) ?_
    refine zak rfl rfl rfl (op_app (j := 3) rfl sl25 zr32 rfl (ev1 rfl) (ev1 rfl) src_slf rfl rfl (fun _ => rfl) (fun _ => ⟨by omega, by omega⟩)) (by simp only [upd, zaa, za]; exact rfl) ?_
    refine zab rfl rfl rfl (zac (.inr rfl) (ev1 rfl)) ?_
    refine zae ?_
    refine zad ?_
    refine zab rfl rfl rfl (zac (.inl rfl) (ev1 rfl)) ?_
    refine zab rfl rfl rfl (op_add' rfl (ev1 rfl) (ev1 rfl) (fun _ => IntWalk.i64_in _ (by omega))) ?_
    refine zab rfl rfl rfl (zac (.inr rfl) (ev1 rfl)) ?_
    refine zae ?_
    refine ⟨k + 1, [0, 1, 3], by omega, by simp only []; omega, rfl, ⟨congrArg (fun z => some (D.val (.int .i64 z))) (by omega), rfl, rfl, rfl, trivial⟩, ⟨rfl, rfl, (by rw [rectK_succ, List.length_append, List.flatMap_append]; rfl), trivial⟩⟩
  · try simp only [decide_eq_true_eq, decide_eq_false_iff_not, beq_iff_eq, bne_iff_ne, beq_eq_false_iff_ne, bne_eq_false_iff_eq, Bool.not_eq_true', Bool.not_eq_false', Bool.and_eq_true, Bool.or_eq_true, Bool.or_eq_false_iff, ne_eq, Decidable.not_not, Int.not_lt, Int.not_le] at c2
    refine dwp_exit ?_
    refine zaf ?_
    refine zad ?_
    refine zab rfl rfl rfl (zac (.inl rfl) (ev1 rfl)) ?_
    refine zab rfl rfl rfl (zac (.inr rfl) (ev1 rfl)) ?_
    refine zab rfl rfl rfl (zac (.inr rfl) (ev1 rfl)) ?_
    refine zae ?_
    refine dwp_ret ?_
    refine kend [2] (rs2 rfl (rv_t rfl) (rv_t rfl)) rfl rfl ?_ ⟨?_, trivial⟩
    rfl
    exact (by rw [← rectK_all, show wayN a.y b.y + 1 = k by omega]; rfl)
theorem rect_d (a b : P2) : DFun Tryz.prog 71 [.val (.agg #[.int .i64 a.x, .int .i64 a.y]), .val (.agg #[.int .i64 b.x, .int .i64 b.y])] [] (.tup [.slf 3 (rctL a b).length ((rctL a b).flatMap s3), .val (.int .i64 (drwE a b))]) [] := by
  cases h : (drwB a && drwB b) with
  | true =>
    obtain ⟨e1, e2⟩ := rct_ok h
    obtain ⟨ha, hb⟩ := Bool.and_eq_true_iff.1 h
    rw [e1, e2]
    exact freeze (rect_o a b ha hb) rfl
  | false =>
    obtain ⟨e1, e2⟩ := rct_no h
    rw [e1, e2]
    exact (rect_no a b h).wk (Wk.tup (WkL.cons (Wk.slf0 3) (WkL.cons (Wk.refl _) WkL.nil)))
end Go.Proofs.YtjgnalfnginjbaaGreatDoor
namespace Go.Proofs.YtjgnalfnginjbaaGreatDoor
set_option maxRecDepth 4000
set_option linter.unusedVariables false
set_option linter.unusedSimpArgs false
open Go.RowKit
theorem tb53 : tyB Tryz.prog 53 = some (false, 1) := by kernel_rfl
theorem zr25 : zrC Tryz.prog 25 = some [.slice none 0 0] := by kernel_rfl
set_option maxRecDepth 4000 in
set_option maxHeartbeats 1000000 in
theorem near_d (n : Nat) : DFun Tryz.prog 132 [.val (.int .i64 (n : Int))] [] (.fn (.func 139) [] [.loc 0 0]) [.flat 3 [.int .i64 (n : Int)]] := by
  refine zam (N := 4) 0 (by kernel_rfl) Tryz.func132 rfl rfl rfl (by simp only [fr0, Nat.zero_add, Nat.reduceAdd]; exact rfl) rfl fun s0 hs0 => ?_
  refine zaf ?_
  refine zah 1 (by simp only [holes, List.cons_append, List.nil_append]; exact rfl) ?_
  refine zad ?_
  refine zak rfl rfl rfl (op_boxi 0 rfl (ev1 rfl) rfl) (by simp only [upd, zaa, za]; exact rfl) ?_
  refine zab rfl rfl rfl (zac (.inr rfl) (ev1 rfl)) ?_
  refine zae ?_
  refine zaf ?_
  refine zad ?_
  refine zab rfl rfl rfl (op_mkf rfl en (ec (ev1 rfl) en)) ?_
  refine zab rfl rfl rfl (zac (.inr rfl) (ev1 rfl)) ?_
  refine zae ?_
  refine dwp_ret ?_
  refine kend [0] (rs1 rfl (rv_t rfl)) rfl rfl ?_ ⟨rfl, trivial⟩
  rfl
def inBr (r : Bool) (n : Nat) (p : P2) : Bool := !r || decide (p.x * p.x + p.y * p.y ≤ (n : Int) * n)
abbrev rowM (l : List Sp) : Mem := .arr 32 3 l.length (l.flatMap s3)
def fmS (l : List Sp) : List Mem := List.replicate l.length .gone ++ [rowM l]
theorem fmS_at (l : List Sp) : (fmS l)[l.length]? = some (rowM l) := by
  unfold fmS
  rw [List.getElem?_append_right (by simp)]
  simp
theorem fmS_len (l : List Sp) : (fmS l).length = (l.length) + 1 := by simp [fmS]
theorem fmS_add (l : List Sp) (p : Sp) : (fmS l).set l.length .gone ++ [Mem.arr 32 3 (l.length + 1) (l.flatMap s3 ++ s3 p)] = fmS (l ++ [p]) := by
  unfold fmS
  rw [List.set_append_right _ _ (by simp), List.length_append, List.length_replicate, Nat.sub_self, show l.length + [p].length = l.length + 1 from rfl, List.replicate_succ']
  simp [rowM, List.flatMap_append]
def brK (r : Bool) (n k : Nat) : List Sp := ((fieldN (2 * n + 1) k (-(n : Int)) (-(n : Int))).filter (inBr r n)).map pt1
theorem fieldN_len (w k : Nat) (X Y : Int) : (fieldN w k X Y).length = k := by unfold fieldN; simp
theorem brK_len (r : Bool) (n k : Nat) : (brK r n k).length ≤ k := by
  unfold brK
  rw [List.length_map]
  refine Nat.le_trans (List.length_filter_le ..) ?_
  rw [fieldN_len]
  exact Nat.le_refl _
theorem brK_add {r : Bool} {n y x : Nat} (hx : x < 2 * n + 1) : brK r n (y * (2 * n + 1) + (x + 1)) = brK r n (y * (2 * n + 1) + x) ++ (if inBr r n ⟨-(n : Int) + x, -(n : Int) + y⟩ = true then [pt1 ⟨-(n : Int) + x, -(n : Int) + y⟩] else []) := by
  unfold brK
  rw [field_at hx, List.filter_append, List.map_append]
  congr 1
  by_cases e : inBr r n ⟨-(n : Int) + x, -(n : Int) + y⟩ = true <;> simp [e]
def brS (r : Bool) (n : Nat) : List Sp := normS (brK r n ((2 * n + 1) * (2 * n + 1)))
theorem brK_valid (r : Bool) (n k : Nat) : ∀ s ∈ brK r n k, s.f ≤ s.t := fun s hs => by
  obtain ⟨p, _, rfl⟩ := List.mem_map.1 hs
  exact Int.le_refl _
theorem brK_in {r : Bool} {n : Nat} {s : Sp} (hs : s ∈ brK r n ((2 * n + 1) * (2 * n + 1))) : (-(n : Int) ≤ s.y ∧ s.y ≤ n) ∧ (-(n : Int) ≤ s.f ∧ s.f ≤ n) ∧ s.t = s.f := by
  obtain ⟨p, hp, rfl⟩ := List.mem_map.1 hs
  have := (field_mem (w := 2 * n + 1) (h := 2 * n + 1) (by omega)).1 (List.mem_filter.1 hp).1
  show (-(n : Int) ≤ p.y ∧ p.y ≤ n) ∧ (-(n : Int) ≤ p.x ∧ p.x ≤ n) ∧ p.x = p.x
  omega
theorem brS_ok (r : Bool) (n : Nat) : okS (brS r n) ∧ ∀ x y, hasS (brS r n) x y ↔ ((-(n : Int) ≤ x ∧ x ≤ n) ∧ -(n : Int) ≤ y ∧ y ≤ n) ∧ inBr r n ⟨x, y⟩ = true := by
  have h := norm_ok (brK_valid r n ((2 * n + 1) * (2 * n + 1)))
  refine ⟨h.1, fun x y => ?_⟩
  rw [brS, h.2, brK, hasS_pts, List.mem_filter, field_mem (by omega)]
  simp only
  constructor
  · rintro ⟨h1, h2⟩; exact ⟨by omega, h2⟩
  · rintro ⟨h1, h2⟩; exact ⟨by omega, h2⟩
theorem sq15 {n : Nat} (h : n ≤ 15) : (2 * n + 1) * (2 * n + 1) ≤ 961 := Nat.mul_le_mul (show 2 * n + 1 ≤ 31 by omega) (show 2 * n + 1 ≤ 31 by omega)
theorem brS_len {r : Bool} {n : Nat} (h : n ≤ 15) : (brS r n).length ≤ 961 := Nat.le_trans (norm_len _) (Nat.le_trans (brK_len ..) (sq15 h))
theorem has_bd {l m : List Sp} (hl : ∀ s ∈ l, s.f ≤ s.t) {A B C D' : Int} (h : ∀ x y, hasS l x y ↔ hasS m x y) (hm : ∀ s ∈ m, (A ≤ s.y ∧ s.y ≤ B) ∧ C ≤ s.f ∧ s.t ≤ D') : ∀ s ∈ l, (A ≤ s.y ∧ s.y ≤ B) ∧ C ≤ s.f ∧ s.t ≤ D' := fun s hs => by
  have hv := hl s hs
  obtain ⟨a, ha, h1, h2, h3⟩ := (h s.f s.y).1 ⟨s, hs, rfl, Int.le_refl _, hv⟩
  obtain ⟨b, hb, h4, h5, h6⟩ := (h s.t s.y).1 ⟨s, hs, rfl, hv, Int.le_refl _⟩
  have := hm a ha
  have := hm b hb
  omega
theorem brS_in {r : Bool} {n : Nat} : ∀ s ∈ brS r n, (-(n : Int) ≤ s.y ∧ s.y ≤ n) ∧ -(n : Int) ≤ s.f ∧ s.t ≤ n :=
  has_bd (brS_ok r n).1.1 (fun x y => (norm_ok (brK_valid r n ((2 * n + 1) * (2 * n + 1)))).2 x y) fun s hs => by
    have := brK_in hs
    omega
set_option maxRecDepth 4000 in
set_option maxHeartbeats 1000000 in
theorem br1_d (r : Bool) (n : Nat) (p : P2) (hn : n ≤ 15) (hx : -15 ≤ p.x ∧ p.x ≤ 15) (hy : -15 ≤ p.y ∧ p.y ≤ 15) : DFun Tryz.prog 117 [.val (.agg #[.int .i64 p.x, .int .i64 p.y]), .loc 0 0, .loc 1 0] [.flat 4 [.bool r], .flat 3 [.int .i64 (n : Int)]] (.val (.bool (inBr r n p))) [.flat 4 [.bool r], .flat 3 [.int .i64 (n : Int)]] := by
  have sq : ∀ z : Int, -15 ≤ z → z ≤ 15 → 0 ≤ z * z ∧ z * z ≤ 225 := fun z h1 h2 => ⟨by rcases Int.le_total 0 z with h | h; exact Int.mul_nonneg h h; exact Int.mul_nonneg_of_nonpos_of_nonpos h h, by rcases Int.le_total 0 z with h | h; exact Int.mul_le_mul h2 h2 h (by omega); have := Int.mul_le_mul (a := -z) (b := -z) (c := 15) (d := 15) (by omega) (by omega) (by omega) (by omega); rwa [Int.neg_mul_neg] at this⟩
  have h1 := sq p.x hx.1 hx.2
  have h2 := sq p.y hy.1 hy.2
  have h3 := sq (n : Int) (by omega) (by omega)
  refine zam (N := 24) 2 (by kernel_rfl) Tryz.func117 rfl rfl rfl (by simp only [fr0, Nat.zero_add, Nat.reduceAdd]; exact rfl) rfl fun s0 hs0 => ?_
  refine zaf ?_
  refine zah 1 (by simp only [holes, List.cons_append, List.nil_append]; exact rfl) ?_
  refine zad ?_
  refine zak rfl rfl rfl (op_boxa 2 rfl (ev1 rfl) rfl) (by simp only [upd, zaa, za]; exact rfl) ?_
  refine zab rfl rfl rfl (zac (.inr rfl) (ev1 rfl)) ?_
  refine zae ?_
  refine zaf ?_
  refine zad ?_
  refine zab rfl rfl rfl (zal rfl tb4 (ev1 rfl) rfl rfl) ?_
  refine zab rfl rfl rfl (op_not rfl (ev1 rfl)) ?_
  refine zab rfl rfl rfl (zac (.inl rfl) (ev1 rfl)) ?_
  refine zaj (gd_f rfl rfl rfl) rfl rfl rfl (op_fa rfl fo51_0 (ev1 rfl)) ?_
  refine zaj (gd_f rfl rfl rfl) rfl rfl rfl (zal rfl tb3 (ev2 rfl) rfl rfl) ?_
  refine zaj (gd_f rfl rfl rfl) rfl rfl rfl (op_fa rfl fo51_0 (ev1 rfl)) ?_
  refine zaj (gd_f rfl rfl rfl) rfl rfl rfl (zal rfl tb3 (ev2 rfl) rfl rfl) ?_
  refine zaj (gd_f rfl rfl rfl) rfl rfl rfl (op_mul' rfl (ev2 rfl) (ev2 rfl) (fun _ => IntWalk.i64_in _ (by omega))) ?_
  refine zaj (gd_f rfl rfl rfl) rfl rfl rfl (op_fa rfl fo51_1 (ev1 rfl)) ?_
  refine zaj (gd_f rfl rfl rfl) rfl rfl rfl (zal rfl tb3 (ev2 rfl) rfl rfl) ?_
  refine zaj (gd_f rfl rfl rfl) rfl rfl rfl (op_fa rfl fo51_1 (ev1 rfl)) ?_
  refine zaj (gd_f rfl rfl rfl) rfl rfl rfl (zal rfl tb3 (ev2 rfl) rfl rfl) ?_
  refine zaj (gd_f rfl rfl rfl) rfl rfl rfl (op_mul' rfl (ev2 rfl) (ev2 rfl) (fun _ => IntWalk.i64_in _ (by omega))) ?_
  refine zaj (gd_f rfl rfl rfl) rfl rfl rfl (op_add' rfl (ev2 rfl) (ev2 rfl) (fun _ => IntWalk.i64_in _ (by omega))) ?_
  refine zaj (gd_f rfl rfl rfl) rfl rfl rfl (zal rfl tb3 (ev1 rfl) rfl rfl) ?_
  refine zaj (gd_f rfl rfl rfl) rfl rfl rfl (zal rfl tb3 (ev1 rfl) rfl rfl) ?_
  refine zaj (gd_f rfl rfl rfl) rfl rfl rfl (op_mul' rfl (ev2 rfl) (ev2 rfl) (fun _ => IntWalk.i64_in _ (by omega))) ?_
  refine zaj (gd_f rfl rfl rfl) rfl rfl rfl (op_leq rfl (ev2 rfl) (ev2 rfl)) ?_
  refine zab rfl rfl rfl (op_or rfl (ev1 rfl) (ev3 rfl id)) ?_
  refine zab rfl rfl rfl (zac (.inr rfl) (ev1 rfl)) ?_
  refine zae ?_
  refine dwp_ret ?_
  refine kend [0, 1] (rs1 rfl (rv_t rfl)) rfl rfl ?_ ⟨rfl, rfl, trivial⟩
  unfold inBr
  cases r <;> simp
noncomputable def aboA : Code := rfA (pth [1, 1, 0, 1, 0] (bodyOf Tryz.f116))
noncomputable def aboB : Code := rfB (pth [1, 1, 0, 1, 0] (bodyOf Tryz.f116))
set_option maxRecDepth 4000 in
set_option maxHeartbeats 1000000 in
theorem aboRound_yes (r : Bool) (n : Nat) (p : P2) (hn : n ≤ 15) (hx : -15 ≤ p.x ∧ p.x ≤ 15) (hy : -15 ≤ p.y ∧ p.y ≤ 15) (l : List Sp) (hl : l.length ≤ 5000) (h1 : inBr r n p = true) : DRound Tryz.prog 0 [.val (.agg #[.int .i64 p.x, .int .i64 p.y])] [.lp 25 [(3, .loc 1 0), (5, .loc 2 0)] #[9] aboA aboB .ready none, .mix 53 [.fn (.func 117) [] [.loc 4 0, .loc 5 0]], .mix 25 [.farr 3 (l).length], .fam (fmS (l)), .flat 4 [.bool r], .flat 3 [.int .i64 (n : Int)]] true [.lp 25 [(3, .loc 1 0), (5, .loc 2 0)] #[9] aboA aboB .ready none, .mix 53 [.fn (.func 117) [] [.loc 4 0, .loc 5 0]], .mix 25 [.farr 3 (l ++ [pt1 p]).length], .fam (fmS (l ++ [pt1 p])), .flat 4 [.bool r], .flat 3 [.int .i64 (n : Int)]] := by
  refine dround_go 6 rfl rfl (by simp) rfl rfl fun s0 hs0 => ?_
  refine zah 1 (by simp only [holes, List.cons_append, List.nil_append]; exact rfl) ?_
  refine zad ?_
  refine zak rfl rfl rfl (op_alloc 6 rfl zr51 rfl) (by simp only [upd, zaa, za]; exact rfl) ?_
  refine walk_s rfl rfl (op_stwa rfl tb51 (ev1 rfl) (ev1 rfl) rfl rfl rfl rfl) (by simp only [upd, zaa, za]; exact rfl) ?_
  refine zae ?_
  refine ⟨rfl, ?_⟩
  simp only [zaa, za]
  refine dwp_block ?_
  refine zaf ?_
  refine zad ?_
  refine zab rfl rfl rfl (op_ldm rfl tb53 (ev1 rfl) rfl rfl) ?_
  refine zab rfl rfl rfl (op_ldw rfl tb51 (ev1 rfl) rfl rfl) ?_
  refine zak rfl rfl rfl (zai [4, 5] [] [] rfl (ev1 rfl) (ec (ev1 rfl) en) rfl rfl (br1_d r n p hn hx hy) rfl rfl rfl rfl rfl rfl) (by simp only [upd, zaa, za]; exact rfl) ?_
  refine zae ?_
  refine dwp_if_t rfl (h1) ?_
  refine zah 2 (by simp only [holes, List.cons_append, List.nil_append]; exact rfl) ?_
  refine zad ?_
  refine zab rfl rfl rfl (op_ldm rfl tb25 (ev1 rfl) rfl rfl) ?_
  refine zab rfl rfl rfl (op_fa rfl fo51_1 (ev1 rfl)) ?_
  refine zab rfl rfl rfl (zal rfl tb3 (ev1 rfl) rfl rfl) ?_
  refine zab rfl rfl rfl (op_fa rfl fo51_0 (ev1 rfl)) ?_
  refine zab rfl rfl rfl (zal rfl tb3 (ev1 rfl) rfl rfl) ?_
  refine zab rfl rfl rfl (op_fa rfl fo51_0 (ev1 rfl)) ?_
  refine zab rfl rfl rfl (zal rfl tb3 (ev1 rfl) rfl rfl) ?_
  refine zab rfl rfl rfl (op_build (ps := [(0, .tmp 15), (1, .tmp 17), (2, .tmp 19)]) rfl fl32 zr32 (vc (ev1 rfl) (vc (ev1 rfl) (vc (ev1 rfl) vn))) rfl rfl) ?_
  refine zab rfl rfl rfl (op_bs (ps := [(0, .tmp 20)]) rfl sl25 zr32 rfl (vc (ev1 rfl) vn) rfl (by decide) (by decide)) ?_
  refine zak rfl rfl rfl (op_appF (j1 := 7) (j2 := 8) rfl rfl sl25 zr32 rfl (ev1 rfl) (ev1 rfl) rfl (fmS_at l) rfl rfl rfl (fun _ => rfl) (fun _ => ⟨by omega, by omega⟩)) (by simp only [upd, zaa, za]; exact rfl) ?_
  refine walk_s rfl rfl (op_stm rfl tb25 (ev1 rfl) (ev1 rfl) (fun s v h => by cases h <;> exact ⟨rfl, rfl⟩) rfl (by first | decide | exact Nat.le_of_ble_eq_true rfl | simp)) (by simp only [upd, zaa, za]; exact rfl) ?_
  refine zae ?_
  refine ⟨by first | rfl | assumption | simp_all, rfl, [0, 1, 2, 3, 4, 5], rfl, ⟨rfl, rfl, by rw [fmS_len, List.length_append]; rfl, by rw [← fmS_add]; rfl, rfl, rfl, trivial⟩⟩
set_option maxRecDepth 4000 in
set_option maxHeartbeats 1000000 in
theorem aboRound_no (r : Bool) (n : Nat) (p : P2) (hn : n ≤ 15) (hx : -15 ≤ p.x ∧ p.x ≤ 15) (hy : -15 ≤ p.y ∧ p.y ≤ 15) (l : List Sp) (hl : l.length ≤ 5000) (h1 : inBr r n p = false) : DRound Tryz.prog 0 [.val (.agg #[.int .i64 p.x, .int .i64 p.y])] [.lp 25 [(3, .loc 1 0), (5, .loc 2 0)] #[9] aboA aboB .ready none, .mix 53 [.fn (.func 117) [] [.loc 4 0, .loc 5 0]], .mix 25 [.farr 3 (l).length], .fam (fmS (l)), .flat 4 [.bool r], .flat 3 [.int .i64 (n : Int)]] true [.lp 25 [(3, .loc 1 0), (5, .loc 2 0)] #[9] aboA aboB .ready none, .mix 53 [.fn (.func 117) [] [.loc 4 0, .loc 5 0]], .mix 25 [.farr 3 (l).length], .fam (fmS (l)), .flat 4 [.bool r], .flat 3 [.int .i64 (n : Int)]] := by
  refine dround_go 6 rfl rfl (by simp) rfl rfl fun s0 hs0 => ?_
  refine zah 1 (by simp only [holes, List.cons_append, List.nil_append]; exact rfl) ?_
  refine zad ?_
  refine zak rfl rfl rfl (op_alloc 6 rfl zr51 rfl) (by simp only [upd, zaa, za]; exact rfl) ?_
  refine walk_s rfl rfl (op_stwa rfl tb51 (ev1 rfl) (ev1 rfl) rfl rfl rfl rfl) (by simp only [upd, zaa, za]; exact rfl) ?_
  refine zae ?_
  refine ⟨rfl, ?_⟩
  simp only [zaa, za]
  refine dwp_block ?_
  refine zaf ?_
  refine zad ?_
  refine zab rfl rfl rfl (op_ldm rfl tb53 (ev1 rfl) rfl rfl) ?_
  refine zab rfl rfl rfl (op_ldw rfl tb51 (ev1 rfl) rfl rfl) ?_
  refine zak rfl rfl rfl (zai [4, 5] [] [] rfl (ev1 rfl) (ec (ev1 rfl) en) rfl rfl (br1_d r n p hn hx hy) rfl rfl rfl rfl rfl rfl) (by simp only [upd, zaa, za]; exact rfl) ?_
  refine zae ?_
  refine dwp_if_f rfl (h1) ?_
  refine dwp_skip ?_
  refine ⟨by first | rfl | assumption | simp_all, rfl, [0, 1, 2, 3, 4, 5], rfl, ⟨rfl, rfl, rfl, rfl, rfl, rfl, trivial⟩⟩
set_option maxRecDepth 4000 in
set_option maxHeartbeats 1000000 in
theorem near_abo (r : Bool) (n : Nat) (hn : n ≤ 15) : DFun Tryz.prog 139 [.yld 0, .loc 6 0] [.lp 25 [(3, .loc 1 0), (5, .loc 2 0)] #[9] aboA aboB .ready none, .mix 53 [.fn (.func 117) [] [.loc 4 0, .loc 5 0]], .mix 25 [.farr 3 (([] : List Sp)).length], .fam (fmS (([] : List Sp))), .flat 4 [.bool r], .flat 3 [.int .i64 (n : Int)], .flat 3 [.int .i64 (n : Int)]] (.tup []) [.lp 25 [(3, .loc 1 0), (5, .loc 2 0)] #[9] aboA aboB .ready none, .mix 53 [.fn (.func 117) [] [.loc 4 0, .loc 5 0]], .mix 25 [.farr 3 (brK r n ((2 * n + 1) * (2 * n + 1))).length], .fam (fmS (brK r n ((2 * n + 1) * (2 * n + 1)))), .flat 4 [.bool r], .flat 3 [.int .i64 (n : Int)], .flat 3 [.int .i64 (n : Int)]] := by
  have hq := sq15 hn
  refine zam (N := 25) 7 (by kernel_rfl) Tryz.func139 rfl rfl rfl (by simp only [fr0, Nat.zero_add, Nat.reduceAdd]; exact rfl) rfl fun s0 hs0 => ?_
  refine zaf ?_
  refine zad ?_
  refine zab rfl rfl rfl (zal rfl tb3 (ev1 rfl) rfl rfl) ?_
  refine zab rfl rfl rfl (op_neg' rfl (ev1 rfl) (fun _ => IntWalk.i64_in _ (by omega))) ?_
  refine zab rfl rfl rfl (zac (.inr rfl) (ev1 rfl)) ?_
  refine zae ?_
  refine dwp_block ?_
  refine dwp_loopS ⟨hs0, rfl⟩ (α := Nat) (fun y => [(3, .val (.int .i64 (-(n : Int) + (y : Int))))]) [(0, _), (1, _)] (fun y => [(2, .mix 25 [.farr 3 (brK r n (y * (2 * n + 1))).length]), (3, .fam (fmS (brK r n (y * (2 * n + 1)))))]) [_, _, .hole, .hole, _, _, _] (fun y => y ≤ 2 * n + 1) (fun y => 2 * n + 1 - y) 0 [0, 1, 2, 3, 4, 5, 6] (Nat.zero_le _) rfl ⟨rfl, rfl, trivial⟩ ⟨congrArg (fun z => some (D.val (.int .i64 z))) (by omega), trivial⟩ ⟨rfl, rfl, by rw [Nat.zero_mul]; rfl, by rw [Nat.zero_mul]; rfl, rfl, rfl, rfl, trivial⟩ ?_
  intro y hx
  simp only [upd, zaa, za, List.cons_append, List.nil_append]
  have hy0 := hx
  have hbu := brK_len r n (y * (2 * n + 1))
  have hyq : y * (2 * n + 1) ≤ 31 * 31 := Nat.mul_le_mul (by omega) (by omega)
  refine zaf ?_
  refine zaf ?_
  refine zad ?_
  refine zab rfl rfl rfl (zac (.inl rfl) (ev1 rfl)) ?_
  refine zab rfl rfl rfl (zal rfl tb3 (ev1 rfl) rfl rfl) ?_
  refine zab rfl rfl rfl (op_leq rfl (ev1 rfl) (ev1 rfl)) ?_
  refine zae ?_
  refine dwp_cond rfl (fun c1 => ?_) (fun c1 => ?_)
  · try simp only [decide_eq_true_eq, decide_eq_false_iff_not, beq_iff_eq, bne_iff_ne, beq_eq_false_iff_ne, bne_eq_false_iff_eq, Bool.not_eq_true', Bool.not_eq_false', Bool.and_eq_true, Bool.or_eq_true, Bool.or_eq_false_iff, ne_eq, Decidable.not_not, Int.not_lt, Int.not_le] at c1
    refine dwp_skip ?_
    refine zaf ?_
    refine dwp_block ?_
    refine zaf ?_
    refine zad ?_
    refine zab rfl rfl rfl (zal rfl tb3 (ev1 rfl) rfl rfl) ?_
    refine zab rfl rfl rfl (op_neg' rfl (ev1 rfl) (fun _ => IntWalk.i64_in _ (by omega))) ?_
    refine zab rfl rfl rfl (zac (.inr rfl) (ev1 rfl)) ?_
    refine zae ?_
    refine dwp_block ?_
    refine dwp_loopS ⟨hs0, rfl⟩ (α := Nat) (fun x => [(4, .val (.int .i64 (-(n : Int) + (x : Int))))]) [(0, _), (1, _), (3, _)] (fun x => [(2, .mix 25 [.farr 3 (brK r n (y * (2 * n + 1) + x)).length]), (3, .fam (fmS (brK r n (y * (2 * n + 1) + x))))]) [_, _, .hole, .hole, _, _, _] (fun x => x ≤ 2 * n + 1) (fun x => 2 * n + 1 - x) 0 [0, 1, 2, 3, 4, 5, 6] (Nat.zero_le _) rfl ⟨rfl, rfl, rfl, trivial⟩ ⟨congrArg (fun z => some (D.val (.int .i64 z))) (by omega), trivial⟩ ⟨rfl, rfl, by rw [Nat.add_zero]; rfl, by rw [Nat.add_zero]; rfl, rfl, rfl, rfl, trivial⟩ ?_
    intro x hx
    simp only [upd, zaa, za, List.cons_append, List.nil_append]
    have hx0 := hx
    have hbl := brK_len r n (y * (2 * n + 1) + x)
    refine zaf ?_
    refine zaf ?_
    refine zad ?_
    refine zab rfl rfl rfl (zac (.inl rfl) (ev1 rfl)) ?_
    refine zab rfl rfl rfl (zal rfl tb3 (ev1 rfl) rfl rfl) ?_
    refine zab rfl rfl rfl (op_leq rfl (ev1 rfl) (ev1 rfl)) ?_
    refine zae ?_
    refine dwp_cond rfl (fun c2 => ?_) (fun c2 => ?_)
    · try simp only [decide_eq_true_eq, decide_eq_false_iff_not, beq_iff_eq, bne_iff_ne, beq_eq_false_iff_ne, bne_eq_false_iff_eq, Bool.not_eq_true', Bool.not_eq_false', Bool.and_eq_true, Bool.or_eq_true, Bool.or_eq_false_iff, ne_eq, Decidable.not_not, Int.not_lt, Int.not_le] at c2
      refine dwp_skip ?_
      refine zaf ?_
      refine dwp_block ?_
      refine zaf ?_
      by_cases hin : inBr r n ⟨-(n : Int) + (x : Int), -(n : Int) + (y : Int)⟩ = true
      · refine zad ?_
        refine zab rfl rfl rfl (zac (.inl rfl) (ev1 rfl)) ?_
        refine zab rfl rfl rfl (zac (.inl rfl) (ev1 rfl)) ?_
        refine zab rfl rfl rfl (zac (.inl rfl) (ev1 rfl)) ?_
        refine zab rfl rfl rfl (op_build (ps := [(0, .tmp 20), (1, .tmp 21)]) rfl fl51 zr51 (vc (ev1 rfl) (vc (ev1 rfl) vn)) rfl rfl) ?_
        refine zak rfl rfl rfl (op_y (i := 0) [0, 1, 2, 3, 4, 5] [] [] rfl (ev1 rfl) (ec (ev1 rfl) en) rfl rfl rfl (aboRound_yes r n ⟨-(n : Int) + (x : Int), -(n : Int) + (y : Int)⟩ hn (by simp only; omega) (by simp only; omega) _ (by omega) hin) rfl rfl rfl rfl rfl) (by simp only [upd, zaa, za]; exact rfl) ?_
        refine zab rfl rfl rfl (op_not rfl (ev1 rfl)) ?_
        refine zae ?_
        refine dwp_if_f rfl (rfl) ?_
        refine dwp_skip ?_
        refine zad ?_
        refine zab rfl rfl rfl (zac (.inl rfl) (ev1 rfl)) ?_
        refine zab rfl rfl rfl (op_add' rfl (ev1 rfl) (ev1 rfl) (fun _ => IntWalk.i64_in _ (by omega))) ?_
        refine zab rfl rfl rfl (zac (.inr rfl) (ev1 rfl)) ?_
        refine zae ?_
        refine ⟨x + 1, [0, 1, 2, 3, 4, 5, 6], by omega, by simp only []; omega, rfl, ⟨congrArg (fun z => some (D.val (.int .i64 z))) (by omega), rfl, rfl, rfl, trivial⟩, ⟨rfl, rfl, by rw [brK_add (by omega), if_pos hin]; rfl, by rw [brK_add (by omega), if_pos hin]; rfl, rfl, rfl, rfl, trivial⟩⟩
      · refine zad ?_
        refine zab rfl rfl rfl (zac (.inl rfl) (ev1 rfl)) ?_
        refine zab rfl rfl rfl (zac (.inl rfl) (ev1 rfl)) ?_
        refine zab rfl rfl rfl (zac (.inl rfl) (ev1 rfl)) ?_
        refine zab rfl rfl rfl (op_build (ps := [(0, .tmp 20), (1, .tmp 21)]) rfl fl51 zr51 (vc (ev1 rfl) (vc (ev1 rfl) vn)) rfl rfl) ?_
        refine zak rfl rfl rfl (op_y (i := 0) [0, 1, 2, 3, 4, 5] [] [] rfl (ev1 rfl) (ec (ev1 rfl) en) rfl rfl rfl (aboRound_no r n ⟨-(n : Int) + (x : Int), -(n : Int) + (y : Int)⟩ hn (by simp only; omega) (by simp only; omega) _ (by omega) (by simpa using hin)) rfl rfl rfl rfl rfl) (by simp only [upd, zaa, za]; exact rfl) ?_
        refine zab rfl rfl rfl (op_not rfl (ev1 rfl)) ?_
        refine zae ?_
        refine dwp_if_f rfl (rfl) ?_
        refine dwp_skip ?_
        refine zad ?_
        refine zab rfl rfl rfl (zac (.inl rfl) (ev1 rfl)) ?_
        refine zab rfl rfl rfl (op_add' rfl (ev1 rfl) (ev1 rfl) (fun _ => IntWalk.i64_in _ (by omega))) ?_
        refine zab rfl rfl rfl (zac (.inr rfl) (ev1 rfl)) ?_
        refine zae ?_
        refine ⟨x + 1, [0, 1, 2, 3, 4, 5, 6], by omega, by simp only []; omega, rfl, ⟨congrArg (fun z => some (D.val (.int .i64 z))) (by omega), rfl, rfl, rfl, trivial⟩, ⟨rfl, rfl, by rw [brK_add (by omega), if_neg hin, List.append_nil]; rfl, by rw [brK_add (by omega), if_neg hin, List.append_nil]; rfl, rfl, rfl, rfl, trivial⟩⟩
    · try simp only [decide_eq_true_eq, decide_eq_false_iff_not, beq_iff_eq, bne_iff_ne, beq_eq_false_iff_ne, bne_eq_false_iff_eq, Bool.not_eq_true', Bool.not_eq_false', Bool.and_eq_true, Bool.or_eq_true, Bool.or_eq_false_iff, ne_eq, Decidable.not_not, Int.not_lt, Int.not_le] at c2
      refine dwp_exit ?_
      refine zad ?_
      refine zab rfl rfl rfl (zac (.inl rfl) (ev1 rfl)) ?_
      refine zab rfl rfl rfl (op_add' rfl (ev1 rfl) (ev1 rfl) (fun _ => IntWalk.i64_in _ (by omega))) ?_
      refine zab rfl rfl rfl (zac (.inr rfl) (ev1 rfl)) ?_
      refine zae ?_
      obtain rfl : x = 2 * n + 1 := by omega
      refine ⟨y + 1, [0, 1, 2, 3, 4, 5, 6], by omega, by simp only []; omega, rfl, ⟨congrArg (fun z => some (D.val (.int .i64 z))) (by omega), rfl, rfl, trivial⟩, ⟨rfl, rfl, by rw [show (y + 1) * (2 * n + 1) = y * (2 * n + 1) + (2 * n + 1) from Nat.succ_mul ..]; rfl, by rw [show (y + 1) * (2 * n + 1) = y * (2 * n + 1) + (2 * n + 1) from Nat.succ_mul ..]; rfl, rfl, rfl, rfl, trivial⟩⟩
  · try simp only [decide_eq_true_eq, decide_eq_false_iff_not, beq_iff_eq, bne_iff_ne, beq_eq_false_iff_ne, bne_eq_false_iff_eq, Bool.not_eq_true', Bool.not_eq_false', Bool.and_eq_true, Bool.or_eq_true, Bool.or_eq_false_iff, ne_eq, Decidable.not_not, Int.not_lt, Int.not_le] at c1
    refine dwp_exit ?_
    obtain rfl : y = 2 * n + 1 := by omega
    refine kend [0, 1, 2, 3, 4, 5, 6] (res_none rfl) rfl rfl ?_ ⟨rfl, rfl, rfl, rfl, rfl, rfl, rfl, trivial⟩
    rfl
set_option maxRecDepth 4000 in
set_option maxHeartbeats 1000000 in
theorem about_d (r : Bool) (n : Nat) (hn : n ≤ 15) : DFun Tryz.prog 116 [.val (.int .i64 (n : Int)), .fn (.func 117) [] [.loc 0 0, .loc 1 0]] [.flat 4 [.bool r], .flat 3 [.int .i64 (n : Int)]] (.slf 3 (brS r n).length ((brS r n).flatMap s3)) [.flat 4 [.bool r], .flat 3 [.int .i64 (n : Int)]] := by
  have hq := sq15 hn
  have hbl := brK_len r n ((2 * n + 1) * (2 * n + 1))
  refine zam (N := 25) 2 (by kernel_rfl) Tryz.func116 rfl rfl rfl (by simp only [fr0, Nat.zero_add, Nat.reduceAdd]; exact rfl) rfl fun s0 hs0 => ?_
  refine zaf ?_
  refine zah 1 (by simp only [holes, List.cons_append, List.nil_append]; exact rfl) ?_
  refine zad ?_
  refine zak rfl rfl rfl (op_boxm 2 rfl (ev1 rfl) (fun s v h => by cases h <;> rfl) rfl) (by simp only [upd, zaa, za]; exact rfl) ?_
  refine zab rfl rfl rfl (zac (.inr rfl) (ev1 rfl)) ?_
  refine zae ?_
  refine zaf ?_
  refine zah 1 (by simp only [holes, List.cons_append, List.nil_append]; exact rfl) ?_
  refine zad ?_
  refine zak rfl rfl rfl (op_alloc 3 rfl zr25 rfl) (by simp only [upd, zaa, za]; exact rfl) ?_
  refine zae ?_
  refine zaf ?_
  refine zaf ?_
  refine zah 1 (by simp only [holes, List.cons_append, List.nil_append]; exact rfl) ?_
  refine zad ?_
  refine zab rfl rfl rfl (zac (.inl rfl) (ev1 rfl)) ?_
  refine zak rfl rfl rfl (zai [] [] [4] rfl (ev1 rfl) (ec (ev1 rfl) en) rfl rfl (near_d n) rfl rfl rfl rfl rfl rfl) (by simp only [upd, zaa, za]; exact rfl) ?_
  refine zae ?_
  refine dwp_block ?_
  refine dwp_adoptm 3 32 3 rfl (by simp only [List.cons_append, List.nil_append, zaa, za, List.length_cons, List.length_nil, Nat.zero_add, Nat.reduceAdd]; exact rfl) ?_
  refine dwp_hole ?_
  refine dwp_fam 6 rfl (by simp only [List.cons_append, List.nil_append, zaa, za]; exact rfl) ?_
  refine dwp_absc 3 0 6 rfl rfl rfl rfl (by simp only [List.cons_append, List.nil_append, zaa, za]; exact rfl) ?_
  refine dwp_hole ?_
  simp only [List.cons_append, List.nil_append]
  refine dwp_rf (FL := [(3, _), (5, _)]) (st := .ready) (pe := none) [7, 2, 3, 6, 0, 1, 4] [] [] 7 rfl rfl (ev1 rfl) rfl (subF_lk ⟨rfl, rfl, trivial⟩) rfl rfl rfl (near_abo r n hn) rfl rfl rfl rfl rfl rfl rfl (by simp) (fun e => ?_) (fun c e => ?_)
  · simp only [upd, zaa, za]
    refine zaf ?_
    refine zah 1 (by simp only [holes, List.cons_append, List.nil_append]; exact rfl) ?_
    refine zad ?_
    refine zab rfl rfl rfl (op_ldm rfl tb25 (ev1 rfl) rfl rfl) ?_
    refine walk_givf 23 6 8 rfl rfl (fmS_at _) rfl (by simp only [zaa, za]; exact rfl) ?_
    refine zab rfl rfl rfl (zai [] [] [] rfl (ev1 rfl) (ec (ev1 rfl) en) rfl rfl (gath_d (brK r n ((2 * n + 1) * (2 * n + 1))) (brK_valid r n _) (fun s hs => by have := brK_in hs; unfold bdS; omega) (by omega)) rfl rfl rfl rfl rfl rfl) ?_
    refine zab rfl rfl rfl (zac (.inr rfl) (ev1 rfl)) ?_
    refine zae ?_
    refine dwp_ret ?_
    refine kend [0, 1] (rs1 rfl (rv_t rfl)) rfl rfl ?_ ⟨rfl, rfl, trivial⟩
    rfl
  · cases e
end Go.Proofs.YtjgnalfnginjbaaGreatDoor
namespace Go.Proofs.YtjgnalfnginjbaaGreatDoor
set_option maxRecDepth 4000
set_option linter.unusedVariables false
set_option linter.unusedSimpArgs false
open Go.RowKit
set_option maxRecDepth 4000 in
set_option maxHeartbeats 1000000 in
theorem brush_d (r : Bool) (n : Nat) (hn : n ≤ 15) : DFun Tryz.prog 95 [.val (.int .i64 (n : Int)), .val (.bool r)] [] (.slf 3 (brS r n).length ((brS r n).flatMap s3)) [] := by
  refine zam (N := 8) 0 (by kernel_rfl) Tryz.func95 rfl rfl rfl (by simp only [fr0, Nat.zero_add, Nat.reduceAdd]; exact rfl) rfl fun s0 hs0 => ?_
  refine zaf ?_
  refine zah 2 (by simp only [holes, List.cons_append, List.nil_append]; exact rfl) ?_
  refine zad ?_
  refine zak rfl rfl rfl (op_boxi 0 rfl (ev1 rfl) rfl) (by simp only [upd, zaa, za]; exact rfl) ?_
  refine zak rfl rfl rfl (op_boxb 1 rfl (ev1 rfl) rfl) (by simp only [upd, zaa, za]; exact rfl) ?_
  refine zab rfl rfl rfl (zac (.inr rfl) (ev1 rfl)) ?_
  refine zae ?_
  refine zaf ?_
  refine zad ?_
  refine zab rfl rfl rfl (zal rfl tb3 (ev1 rfl) rfl rfl) ?_
  refine zab rfl rfl rfl (op_mkf rfl en (ec (ev1 rfl) (ec (ev1 rfl) en))) ?_
  refine zak rfl rfl rfl (zai [1, 0] [] [] rfl (ev1 rfl) (ec (ev1 rfl) (ec (ev1 rfl) en)) rfl rfl (about_d r n hn) rfl rfl rfl rfl rfl rfl) (by simp only [upd, zaa, za]; exact rfl) ?_
  refine zab rfl rfl rfl (zac (.inr rfl) (ev1 rfl)) ?_
  refine zae ?_
  refine dwp_ret ?_
  refine kend0 (rs1 rfl (rv_t rfl)) rfl ?_
  rfl
def Sp.sh (p : P2) (s : Sp) : Sp := ⟨s.y + p.y, s.f + p.x, s.t + p.x⟩
def swK (r : Bool) (n : Nat) (l : List P2) : List Sp := l.flatMap fun p => (brS r n).map (Sp.sh p)
def swA (r : Bool) (n : Nat) (l : List P2) : List Sp := normS (swK r n l)
theorem swK_add {r : Bool} {n : Nat} {l : List P2} {i : Nat} (hi : i < l.length) : swK r n (l.take (i + 1)) = swK r n (l.take i) ++ (brS r n).map (Sp.sh l[i]) := by
  unfold swK
  rw [List.take_succ_eq_append_getElem hi, List.flatMap_append]
  simp
theorem swK_len {r : Bool} {n : Nat} (hn : n ≤ 15) : ∀ l : List P2, (swK r n l).length ≤ l.length * 961
  | [] => Nat.le_refl _
  | p :: l => by
    have h1 := swK_len (r := r) hn l
    have h2 := brS_len (r := r) hn
    unfold swK at *
    rw [List.flatMap_cons, List.length_append, List.length_map, List.length_cons, Nat.succ_mul]
    omega
theorem swK_mem {r : Bool} {n : Nat} {l : List P2} {s : Sp} (hs : s ∈ swK r n l) : ∃ p ∈ l, ∃ b ∈ brS r n, s = b.sh p := by
  obtain ⟨p, hp, h⟩ := List.mem_flatMap.1 hs
  obtain ⟨b, hb, rfl⟩ := List.mem_map.1 h
  exact ⟨p, hp, b, hb, rfl⟩
theorem swK_valid (r : Bool) (n : Nat) (l : List P2) : ∀ s ∈ swK r n l, s.f ≤ s.t := fun s hs => by
  obtain ⟨p, hp, b, hb, rfl⟩ := swK_mem hs
  have := (brS_ok r n).1.1 b hb
  show b.f + p.x ≤ b.t + p.x
  omega
theorem drwL_mem {l : List P2} (h : drwL l = true) {p : P2} (hp : p ∈ l) : (-64 ≤ p.x ∧ p.x ≤ 127) ∧ -64 ≤ p.y ∧ p.y ≤ 127 := drwB_iff.1 (List.all_eq_true.1 h p hp)
theorem swK_bd {r : Bool} {n : Nat} (hn : n ≤ 15) {l : List P2} (hd : drwL l = true) : ∀ s ∈ swK r n l, ((-79 ≤ s.y ∧ s.y ≤ 142) ∧ -79 ≤ s.f ∧ s.t ≤ 142) ∧ bdS s := fun s hs => by
  have hv := swK_valid r n l s hs
  obtain ⟨p, hp, b, hb, rfl⟩ := swK_mem hs
  have h1 := brS_in b hb
  have h2 := drwL_mem hd hp
  unfold bdS
  unfold Sp.sh at *
  simp only at *
  omega
theorem swA_ok (r : Bool) (n : Nat) (l : List P2) : okS (swA r n l) ∧ ∀ x y, hasS (swA r n l) x y ↔ ∃ p ∈ l, ((-(n : Int) ≤ x - p.x ∧ x - p.x ≤ n) ∧ -(n : Int) ≤ y - p.y ∧ y - p.y ≤ n) ∧ inBr r n ⟨x - p.x, y - p.y⟩ = true := by
  have h := norm_ok (swK_valid r n l)
  refine ⟨h.1, fun x y => (h.2 x y).trans ?_⟩
  constructor
  · rintro ⟨s, hs, h1, h2, h3⟩
    obtain ⟨p, hp, b, hb, rfl⟩ := swK_mem hs
    refine ⟨p, hp, ((brS_ok r n).2 (x - p.x) (y - p.y)).1 ⟨b, hb, ?_⟩⟩
    unfold Sp.sh at *
    unfold Sp.has
    simp only at *
    omega
  · rintro ⟨p, hp, h1⟩
    obtain ⟨b, hb, h2, h3, h4⟩ := ((brS_ok r n).2 (x - p.x) (y - p.y)).2 h1
    refine ⟨b.sh p, List.mem_flatMap.2 ⟨p, hp, List.mem_map.2 ⟨b, hb, rfl⟩⟩, ?_⟩
    unfold Sp.has Sp.sh
    simp only
    omega
theorem swA_bd {r : Bool} {n : Nat} (hn : n ≤ 15) {l : List P2} (hd : drwL l = true) : ∀ s ∈ swA r n l, (-79 ≤ s.y ∧ s.y ≤ 142) ∧ -79 ≤ s.f ∧ s.t ≤ 142 :=
  has_bd (swA_ok r n l).1.1 (norm_ok (swK_valid r n l)).2 fun s hs => (swK_bd hn hd s hs).1
theorem swA_chk {r : Bool} {n : Nat} (hn : n ≤ 15) {l : List P2} (hd : drwL l = true) : chkS (swA r n l) := by
  refine ⟨fun s hs => ?_, (swA_ok r n l).1.2⟩
  have h1 := swA_bd hn hd s hs
  have h2 := (swA_ok r n l).1.1 s hs
  unfold rchS
  omega
def swB (n : Int) (l : List P2) : Bool := (decide (0 ≤ n) && decide (n ≤ 15)) && drwL l
def swL (r : Bool) (n : Int) (l : List P2) : List Sp := if swB n l = true then swA r n.toNat l else []
def swE (n : Int) (l : List P2) : Int := if swB n l = true then 0 else 2
theorem sw_ok {r : Bool} {n : Int} {l : List P2} (h : swB n l = true) : swL r n l = swA r n.toNat l ∧ swE n l = 0 ∧ (0 ≤ n ∧ n ≤ 15) ∧ drwL l = true := by
  refine ⟨if_pos h, if_pos h, ?_⟩
  unfold swB at h
  simp only [Bool.and_eq_true, decide_eq_true_eq] at h
  exact h
theorem sw_no {r : Bool} {n : Int} {l : List P2} (h : swB n l = false) : swL r n l = [] ∧ swE n l = 2 := by unfold swL swE; rw [h]; exact ⟨rfl, rfl⟩
set_option maxRecDepth 4000 in
set_option maxHeartbeats 1000000 in
theorem sw1_d (p : P2) (s : Sp) (hp : (-64 ≤ p.x ∧ p.x ≤ 127) ∧ -64 ≤ p.y ∧ p.y ≤ 127) (hs : bdS s) : DFun Tryz.prog 97 [.val (.agg #[.int .i64 s.y, .int .i64 s.f, .int .i64 s.t]), .loc 0 0] [.flat 51 [.int .i64 p.x, .int .i64 p.y]] (.val (.agg (s3 (s.sh p)).toArray)) [.flat 51 [.int .i64 p.x, .int .i64 p.y]] := by
  have hb := hs
  unfold bdS at hb
  refine zam (N := 20) 1 (by kernel_rfl) Tryz.func97 rfl rfl rfl (by simp only [fr0, Nat.zero_add, Nat.reduceAdd]; exact rfl) rfl fun s0 hs0 => ?_
  refine zaf ?_
  refine zah 2 (by simp only [holes, List.cons_append, List.nil_append]; exact rfl) ?_
  refine zad ?_
  refine zak rfl rfl rfl (op_boxa 1 rfl (ev1 rfl) rfl) (by simp only [upd, zaa, za]; exact rfl) ?_
  refine zak rfl rfl rfl (op_alloc 2 rfl zr32 rfl) (by simp only [upd, zaa, za]; exact rfl) ?_
  refine zae ?_
  refine zaf ?_
  refine zad ?_
  refine zab rfl rfl rfl (op_fa rfl fo32_0 (ev1 rfl)) ?_
  refine zab rfl rfl rfl (zal rfl tb3 (ev1 rfl) rfl rfl) ?_
  refine zab rfl rfl rfl (op_fa rfl fo51_1 (ev1 rfl)) ?_
  refine zab rfl rfl rfl (zal rfl tb3 (ev1 rfl) rfl rfl) ?_
  refine zab rfl rfl rfl (op_add' rfl (ev1 rfl) (ev1 rfl) (fun _ => IntWalk.i64_in _ (by omega))) ?_
  refine zab rfl rfl rfl (op_fa rfl fo32_1 (ev1 rfl)) ?_
  refine zab rfl rfl rfl (zal rfl tb3 (ev1 rfl) rfl rfl) ?_
  refine zab rfl rfl rfl (op_fa rfl fo51_0 (ev1 rfl)) ?_
  refine zab rfl rfl rfl (zal rfl tb3 (ev1 rfl) rfl rfl) ?_
  refine zab rfl rfl rfl (op_add' rfl (ev1 rfl) (ev1 rfl) (fun _ => IntWalk.i64_in _ (by omega))) ?_
  refine zab rfl rfl rfl (op_fa rfl fo32_2 (ev1 rfl)) ?_
  refine zab rfl rfl rfl (zal rfl tb3 (ev1 rfl) rfl rfl) ?_
  refine zab rfl rfl rfl (op_fa rfl fo51_0 (ev1 rfl)) ?_
  refine zab rfl rfl rfl (zal rfl tb3 (ev1 rfl) rfl rfl) ?_
  refine zab rfl rfl rfl (op_add' rfl (ev1 rfl) (ev1 rfl) (fun _ => IntWalk.i64_in _ (by omega))) ?_
  refine zab rfl rfl rfl (op_build (ps := [(0, .tmp 8), (1, .tmp 13), (2, .tmp 18)]) rfl fl32 zr32 (vc (ev1 rfl) (vc (ev1 rfl) (vc (ev1 rfl) vn))) rfl rfl) ?_
  refine walk_s rfl rfl (op_stwa rfl tb32 (ev1 rfl) (ev1 rfl) rfl rfl rfl rfl) (by simp only [upd, zaa, za]; exact rfl) ?_
  refine zae ?_
  refine dwp_ret ?_
  refine kend [0] (rs1 rfl (rv_w tb32 rfl rfl rfl)) rfl rfl ?_ ⟨rfl, trivial⟩
  rfl
set_option maxRecDepth 4000 in
set_option maxHeartbeats 1000000 in
theorem each_o (l : List Sp) (p : P2) (hp : (-64 ≤ p.x ∧ p.x ≤ 127) ∧ -64 ≤ p.y ∧ p.y ≤ 127) (hb : ∀ s ∈ l, bdS s) (hn : l.length ≤ 1000) : DFun Tryz.prog 96 [.slf 3 l.length (l.flatMap s3), .fn (.func 97) [] [.loc 0 0]] [.flat 51 [.int .i64 p.x, .int .i64 p.y]] (.arr 1) [.flat 51 [.int .i64 p.x, .int .i64 p.y], .arr 32 3 (l.map (Sp.sh p)).length ((l.map (Sp.sh p)).flatMap s3)] := by
  refine zam (N := 25) 1 (by kernel_rfl) Tryz.func96 rfl rfl rfl (by simp only [fr0, Nat.zero_add, Nat.reduceAdd]; exact rfl) rfl fun s0 hs0 => ?_
  refine dwp_len (t := 0) rfl fun hl0 hL0 => ?_
  refine zaf ?_
  refine zad ?_
  refine zab rfl rfl rfl (zac (.inr rfl) (ev1 rfl)) ?_
  refine zae ?_
  refine zaf ?_
  refine zah 1 (by simp only [holes, List.cons_append, List.nil_append]; exact rfl) ?_
  refine zad ?_
  refine zab rfl rfl rfl (zac (.inl rfl) (ev1 rfl)) ?_
  refine zab rfl rfl rfl (op_len rfl sl25 (ev1 rfl)) ?_
  refine zak rfl rfl rfl (op_mk0 1 (l.length) rfl sl25 zr32 (ev1 rfl) (ev1 rfl) (fun _ => rfl) (fun _ => rfl) rfl (fun _ => by omega)) (by simp only [upd, zaa, za]; exact rfl) ?_
  refine zab rfl rfl rfl (zac (.inr rfl) (ev1 rfl)) ?_
  refine zae ?_
  refine zaf ?_
  refine zaf ?_
  refine zad ?_
  refine zab rfl rfl rfl (zac (.inl rfl) (ev1 rfl)) ?_
  refine zab rfl rfl rfl (op_len rfl sl25 (ev1 rfl)) ?_
  refine zab rfl rfl rfl (zac (.inl rfl) (ev1 rfl)) ?_
  refine zae ?_
  refine dwp_block ?_
  refine dwp_loopS ⟨hs0, rfl⟩ (α := Nat) (fun i => [(13, .val (.int .i64 (i : Int)))]) [(1, _), (5, _), (11, _), (12, _)] (fun i => [(1, .arr 32 3 ((l.take i).map (Sp.sh p)).length (((l.take i).map (Sp.sh p)).flatMap s3))]) [_, .hole] (fun i => i ≤ l.length) (fun i => l.length - i) 0 [0, 1] (Nat.zero_le _) rfl ⟨rfl, rfl, rfl, rfl, trivial⟩ ⟨rfl, trivial⟩ ⟨rfl, rfl, trivial⟩ ?_
  intro i hx
  simp only [upd, zaa, za, List.cons_append, List.nil_append]
  have hi0 := hx
  have hml : ((l.take i).map (Sp.sh p)).length ≤ 1000 := by rw [List.length_map, List.length_take]; omega
  refine zaf ?_
  refine zad ?_
  refine zab rfl rfl rfl (op_lss rfl (ev1 rfl) (ev1 rfl)) ?_
  refine zae ?_
  refine zaf ?_
  refine dwp_cond rfl (fun c1 => ?_) (fun c1 => ?_)
  · try simp only [decide_eq_true_eq, decide_eq_false_iff_not, beq_iff_eq, bne_iff_ne, beq_eq_false_iff_ne, bne_eq_false_iff_eq, Bool.not_eq_true', Bool.not_eq_false', Bool.and_eq_true, Bool.or_eq_true, Bool.or_eq_false_iff, ne_eq, Decidable.not_not, Int.not_lt, Int.not_le] at c1
    refine dwp_skip ?_
    refine zaf ?_
    refine dwp_block ?_
    refine zaf ?_
    have hi : i < l.length := by omega
    refine zah 1 (by simp only [holes, List.cons_append, List.nil_append]; exact rfl) ?_
    refine zad ?_
    refine zab rfl rfl rfl (op_ixsr (j := i) rfl sl25 (ev1 rfl) (ev1 rfl) (fun _ => rfl) (by decide) (by omega) (by omega)) ?_
    refine zab rfl rfl rfl (op_ldwd rfl tb32 (ev1 rfl) rfl) ?_
    refine zak rfl rfl rfl (op_alloc 2 rfl zr32 rfl) (by simp only [upd, zaa, za]; exact rfl) ?_
    refine walk_s rfl rfl (op_stwa rfl tb32 (ev1 rfl) (ev1 rfl) rfl rfl rfl rfl) (by simp only [upd, zaa, za]; exact rfl) ?_
    refine zae ?_
    refine zah 1 (by simp only [holes, List.cons_append, List.nil_append]; exact rfl) ?_
    refine zad ?_
    refine zab rfl rfl rfl (zac (.inl rfl) (ev1 rfl)) ?_
    refine zab rfl rfl rfl (zac (.inl rfl) (ev1 rfl)) ?_
    refine zab rfl rfl rfl (op_ldw rfl tb32 (ev1 rfl) rfl rfl) ?_
    refine zak rfl rfl rfl (zai [0] [] [] rfl (ev1 rfl) (ec (ev1 rfl) en) rfl rfl (sw1_d p l[i] hp (hb _ (List.getElem_mem hi))) rfl rfl rfl rfl rfl rfl) (by simp only [upd, zaa, za]; exact rfl) ?_
    refine zab rfl rfl rfl (op_bs (ps := [(0, .tmp 20)]) rfl sl25 zr32 rfl (vc (ev1 rfl) vn) rfl (by decide) (by decide)) ?_
    refine zak rfl rfl rfl (op_app (j := 3) rfl sl25 zr32 rfl (ev1 rfl) (ev1 rfl) src_slf rfl rfl (fun _ => rfl) (fun _ => ⟨by omega, by omega⟩)) (by simp only [upd, zaa, za]; exact rfl) ?_
    refine zab rfl rfl rfl (zac (.inr rfl) (ev1 rfl)) ?_
    refine zae ?_
    refine zad ?_
    refine zab rfl rfl rfl (op_add' rfl (ev1 rfl) (ev1 rfl) (fun _ => IntWalk.i64_in _ (by omega))) ?_
    refine zab rfl rfl rfl (zac (.inl rfl) (ev1 rfl)) ?_
    refine zae ?_
    refine ⟨i + 1, [0, 3], by omega, by simp only []; omega, rfl, ⟨rfl, rfl, rfl, rfl, rfl, trivial⟩, ⟨rfl, (by rw [List.take_succ_eq_append_getElem hi, List.map_append, List.length_append, List.flatMap_append]; rfl), trivial⟩⟩
  · try simp only [decide_eq_true_eq, decide_eq_false_iff_not, beq_iff_eq, bne_iff_ne, beq_eq_false_iff_ne, bne_eq_false_iff_eq, Bool.not_eq_true', Bool.not_eq_false', Bool.and_eq_true, Bool.or_eq_true, Bool.or_eq_false_iff, ne_eq, Decidable.not_not, Int.not_lt, Int.not_le] at c1
    refine dwp_exit ?_
    refine zaf ?_
    refine zad ?_
    refine zab rfl rfl rfl (zac (.inl rfl) (ev1 rfl)) ?_
    refine zab rfl rfl rfl (zac (.inr rfl) (ev1 rfl)) ?_
    refine zae ?_
    refine dwp_ret ?_
    refine kend [0, 1] (rs1 rfl (rv_t rfl)) rfl rfl ?_ ⟨?_, ?_, trivial⟩
    rfl
    all_goals first | exact rfl | exact (by rw [take_all (by omega)]; rfl)
set_option maxRecDepth 4000 in
set_option maxHeartbeats 1000000 in
theorem sweep_no (l : List P2) (n : Int) (r : Bool) (h : swB n l = false) : DFun Tryz.prog 65 [.slf 2 l.length (l.flatMap p2), .val (.int .i64 n), .val (.bool r)] [] (.tup [.val (.slice none 0 0), .val (.int .i64 2)]) [] := by
  refine zam (N := 42) 0 (by kernel_rfl) Tryz.func65 rfl rfl rfl (by simp only [fr0, Nat.zero_add, Nat.reduceAdd]; exact rfl) rfl fun s0 hs0 => ?_
  refine dwp_len (t := 0) rfl fun hl0 hL0 => ?_
  refine zaf ?_
  refine zad ?_
  refine zab rfl rfl rfl (zac (.inr rfl) (ev1 rfl)) ?_
  refine zab rfl rfl rfl (zac (.inr rfl) (ev1 rfl)) ?_
  refine zae ?_
  refine zaf ?_
  refine zaf ?_
  refine zad ?_
  refine zab rfl rfl rfl (zac (.inl rfl) (ev1 rfl)) ?_
  refine zab rfl rfl rfl (zai [] [] [] rfl (ev1 rfl) (ec (ev1 rfl) en) rfl rfl (isSize_d _) rfl rfl rfl rfl rfl rfl) ?_
  refine zab rfl rfl rfl (op_not rfl (ev1 rfl)) ?_
  refine zab rfl rfl rfl (zac (.inl rfl) (ev1 rfl)) ?_
  refine zaj (gd_f rfl rfl rfl) rfl rfl rfl (zac (.inl rfl) (ev1 rfl)) ?_
  refine zaj (gd_f rfl rfl rfl) rfl rfl rfl (zai [] [] [] rfl (ev1 rfl) (ec (ev2 rfl) en) rfl rfl (undrawn_d l) rfl rfl rfl rfl rfl rfl) ?_
  refine zab rfl rfl rfl (op_or rfl (ev1 rfl) (ev3 rfl id)) ?_
  refine zae ?_
  refine dwp_if_t rfl (by unfold swB at h; cases h1 : drwL l <;> simp_all <;> omega) ?_
  refine zaf ?_
  refine zad ?_
  refine zab rfl rfl rfl (zac (.inr rfl) (ev1 rfl)) ?_
  refine zab rfl rfl rfl (zac (.inr rfl) (ev1 rfl)) ?_
  refine zae ?_
  refine dwp_ret ?_
  refine kend0 (rs2 rfl (rv_t rfl) (rv_t rfl)) rfl ?_
  rfl
set_option maxRecDepth 4000 in
set_option maxHeartbeats 1000000 in
theorem sweep_o (l : List P2) (n : Nat) (r : Bool) (hn : n ≤ 15) (hd : drwL l = true) (hl : l.length ≤ 1000) : DFun Tryz.prog 65 [.slf 2 l.length (l.flatMap p2), .val (.int .i64 (n : Int)), .val (.bool r)] [] (.tup [.slf 3 (swA r n l).length ((swA r n l).flatMap s3), .val (.int .i64 0)]) [] := by
  have hbl := brS_len (r := r) hn
  have hbm : (brS r n).length * l.length ≤ 961 * 1000 := Nat.mul_le_mul hbl hl
  have hbz : ((brS r n).length : Int) * (l.length : Int) = (((brS r n).length * l.length : Nat) : Int) := by push_cast; rfl
  have hbd : ∀ s ∈ brS r n, bdS s := fun s hs => by
    have h1 := brS_in s hs
    have h2 := (brS_ok r n).1.1 s hs
    unfold bdS
    omega
  refine zam (N := 42) 0 (by kernel_rfl) Tryz.func65 rfl rfl rfl (by simp only [fr0, Nat.zero_add, Nat.reduceAdd]; exact rfl) rfl fun s0 hs0 => ?_
  refine dwp_len (t := 0) rfl fun hl0 hL0 => ?_
  refine zaf ?_
  refine zad ?_
  refine zab rfl rfl rfl (zac (.inr rfl) (ev1 rfl)) ?_
  refine zab rfl rfl rfl (zac (.inr rfl) (ev1 rfl)) ?_
  refine zae ?_
  refine zaf ?_
  refine zaf ?_
  refine zad ?_
  refine zab rfl rfl rfl (zac (.inl rfl) (ev1 rfl)) ?_
  refine zab rfl rfl rfl (zai [] [] [] rfl (ev1 rfl) (ec (ev1 rfl) en) rfl rfl (isSize_d _) rfl rfl rfl rfl rfl rfl) ?_
  refine zab rfl rfl rfl (op_not rfl (ev1 rfl)) ?_
  refine zab rfl rfl rfl (zac (.inl rfl) (ev1 rfl)) ?_
  refine zaj (gd_f rfl rfl rfl) rfl rfl rfl (zac (.inl rfl) (ev1 rfl)) ?_
  refine zaj (gd_f rfl rfl rfl) rfl rfl rfl (zai [] [] [] rfl (ev1 rfl) (ec (ev2 rfl) en) rfl rfl (undrawn_d l) rfl rfl rfl rfl rfl rfl) ?_
  refine zab rfl rfl rfl (op_or rfl (ev1 rfl) (ev3 rfl id)) ?_
  refine zae ?_
  refine dwp_if_f rfl (by rw [hd]; simp; omega) ?_
  refine dwp_skip ?_
  refine zaf ?_
  refine zad ?_
  refine zab rfl rfl rfl (zac (.inl rfl) (ev1 rfl)) ?_
  refine zab rfl rfl rfl (zac (.inl rfl) (ev1 rfl)) ?_
  refine zab rfl rfl rfl (zai [] [] [] rfl (ev1 rfl) (ec (ev1 rfl) (ec (ev1 rfl) en)) rfl rfl (brush_d r n hn) rfl rfl rfl rfl rfl rfl) ?_
  refine zab rfl rfl rfl (zac (.inr rfl) (ev1 rfl)) ?_
  refine zae ?_
  refine zaf ?_
  refine zah 1 (by simp only [holes, List.cons_append, List.nil_append]; exact rfl) ?_
  refine zad ?_
  refine zab rfl rfl rfl (zac (.inl rfl) (ev1 rfl)) ?_
  refine zab rfl rfl rfl (op_len rfl sl25 (ev1 rfl)) ?_
  refine zab rfl rfl rfl (zac (.inl rfl) (ev1 rfl)) ?_
  refine zab rfl rfl rfl (op_len rfl sl48 (ev1 rfl)) ?_
  refine zab rfl rfl rfl (op_mul' rfl (ev1 rfl) (ev1 rfl) (fun _ => IntWalk.i64_in _ (by omega))) ?_
  refine zak rfl rfl rfl (op_mk0 0 ((brS r n).length * l.length) rfl sl25 zr32 (ev1 rfl) (ev1 rfl) (fun _ => rfl) (fun _ => by rw [hbz]) rfl (fun _ => by omega)) (by simp only [upd, zaa, za]; exact rfl) ?_
  refine zab rfl rfl rfl (zac (.inr rfl) (ev1 rfl)) ?_
  refine zae ?_
  refine zaf ?_
  refine zaf ?_
  refine zad ?_
  refine zab rfl rfl rfl (zac (.inl rfl) (ev1 rfl)) ?_
  refine zab rfl rfl rfl (op_len rfl sl48 (ev1 rfl)) ?_
  refine zab rfl rfl rfl (zac (.inl rfl) (ev1 rfl)) ?_
  refine zae ?_
  refine dwp_block ?_
  refine dwp_loopS ⟨hs0, rfl⟩ (α := Nat) (fun i => [(30, .val (.int .i64 (i : Int)))]) [(8, _), (9, _), (28, _), (29, _)] (fun i => [(0, .arr 32 3 (swK r n (l.take i)).length ((swK r n (l.take i)).flatMap s3))]) [.hole] (fun i => i ≤ l.length) (fun i => l.length - i) 0 [0] (Nat.zero_le _) rfl ⟨rfl, rfl, rfl, rfl, trivial⟩ ⟨rfl, trivial⟩ ⟨rfl, trivial⟩ ?_
  intro i hx
  simp only [upd, zaa, za, List.cons_append, List.nil_append]
  have hi0 := hx
  have hsl := swK_len (r := r) hn (l.take i)
  rw [List.length_take] at hsl
  have hs2 : min i l.length * 961 ≤ 1000 * 961 := Nat.mul_le_mul_right _ (by omega)
  refine zaf ?_
  refine zad ?_
  refine zab rfl rfl rfl (op_lss rfl (ev1 rfl) (ev1 rfl)) ?_
  refine zae ?_
  refine zaf ?_
  refine dwp_cond rfl (fun c2 => ?_) (fun c2 => ?_)
  · try simp only [decide_eq_true_eq, decide_eq_false_iff_not, beq_iff_eq, bne_iff_ne, beq_eq_false_iff_ne, bne_eq_false_iff_eq, Bool.not_eq_true', Bool.not_eq_false', Bool.and_eq_true, Bool.or_eq_true, Bool.or_eq_false_iff, ne_eq, Decidable.not_not, Int.not_lt, Int.not_le] at c2
    refine dwp_skip ?_
    refine zaf ?_
    refine dwp_block ?_
    refine zaf ?_
    have hi : i < l.length := by omega
    have hpd := drwL_mem hd (List.getElem_mem hi)
    have hml : ((brS r n).map (Sp.sh l[i])).length ≤ 961 := by rw [List.length_map]; exact hbl
    refine zah 1 (by simp only [holes, List.cons_append, List.nil_append]; exact rfl) ?_
    refine zad ?_
    refine zab rfl rfl rfl (op_ixsr (j := i) rfl sl48 (ev1 rfl) (ev1 rfl) (fun _ => rfl) (by decide) (by omega) (by omega)) ?_
    refine zab rfl rfl rfl (op_ldwd rfl tb51 (ev1 rfl) rfl) ?_
    refine zak rfl rfl rfl (op_alloc 1 rfl zr51 rfl) (by simp only [upd, zaa, za]; exact rfl) ?_
    refine walk_s rfl rfl (op_stwa rfl tb51 (ev1 rfl) (ev1 rfl) rfl rfl rfl rfl) (by simp only [upd, zaa, za]; exact rfl) ?_
    refine zae ?_
    refine zah 2 (by simp only [holes, List.cons_append, List.nil_append]; exact rfl) ?_
    refine zad ?_
    refine zab rfl rfl rfl (zac (.inl rfl) (ev1 rfl)) ?_
    refine zab rfl rfl rfl (zac (.inl rfl) (ev1 rfl)) ?_
    refine zab rfl rfl rfl (op_mkf rfl en (ec (ev1 rfl) en)) ?_
    refine zak rfl rfl rfl (zai [1] [] [2] rfl (ev1 rfl) (ec (ev1 rfl) (ec (ev1 rfl) en)) rfl rfl (each_o _ l[i] hpd hbd (by omega)) rfl rfl rfl rfl rfl rfl) (by simp only [upd, zaa, za]; exact rfl) ?_
    refine zak rfl rfl rfl (op_app (j := 3) rfl sl25 zr32 rfl (ev1 rfl) (ev1 rfl) (src_arr rfl) rfl rfl (fun _ => oc3 _) (fun _ => ⟨by omega, by omega⟩)) (by simp only [upd, zaa, za]; exact rfl) ?_
    refine zab rfl rfl rfl (zac (.inr rfl) (ev1 rfl)) ?_
    refine zae ?_
    refine zad ?_
    refine zab rfl rfl rfl (op_add' rfl (ev1 rfl) (ev1 rfl) (fun _ => IntWalk.i64_in _ (by omega))) ?_
    refine zab rfl rfl rfl (zac (.inl rfl) (ev1 rfl)) ?_
    refine zae ?_
    refine ⟨i + 1, [3], by omega, by simp only []; omega, rfl, ⟨rfl, rfl, rfl, rfl, rfl, trivial⟩, ⟨(by rw [swK_add hi, List.length_append, List.flatMap_append]; rfl), trivial⟩⟩
  · try simp only [decide_eq_true_eq, decide_eq_false_iff_not, beq_iff_eq, bne_iff_ne, beq_eq_false_iff_ne, bne_eq_false_iff_eq, Bool.not_eq_true', Bool.not_eq_false', Bool.and_eq_true, Bool.or_eq_true, Bool.or_eq_false_iff, ne_eq, Decidable.not_not, Int.not_lt, Int.not_le] at c2
    refine dwp_exit ?_
    refine zaf ?_
    refine dwp_giveA 9 rfl rfl (by simp only [zaa, za]; exact rfl) ?_
    rw [show swK r n (l.take i) = swK r n l by rw [take_all (by omega)]] at hsl ⊢
    refine zad ?_
    refine zab rfl rfl rfl (zac (.inl rfl) (ev1 rfl)) ?_
    refine zab rfl rfl rfl (zai [] [] [] rfl (ev1 rfl) (ec (ev1 rfl) en) rfl rfl (gath_d _ (swK_valid r n l) (fun s hs => (swK_bd hn hd s hs).2) (by omega)) rfl rfl rfl rfl rfl rfl) ?_
    refine zab rfl rfl rfl (zac (.inr rfl) (ev1 rfl)) ?_
    refine zab rfl rfl rfl (zac (.inr rfl) (ev1 rfl)) ?_
    refine zae ?_
    refine dwp_ret ?_
    refine kend0 (rs2 rfl (rv_t rfl) (rv_t rfl)) rfl ?_
    rfl
theorem sweep_d (l : List P2) (n : Int) (r : Bool) (hl : l.length ≤ 1000) : DFun Tryz.prog 65 [.slf 2 l.length (l.flatMap p2), .val (.int .i64 n), .val (.bool r)] [] (.tup [.slf 3 (swL r n l).length ((swL r n l).flatMap s3), .val (.int .i64 (swE n l))]) [] := by
  cases h : swB n l with
  | true =>
    obtain ⟨e1, e2, e3, e4⟩ := sw_ok (r := r) h
    rw [e1, e2]
    have := sweep_o l n.toNat r (by omega) e4 hl
    rwa [show ((n.toNat : Nat) : Int) = n by omega] at this
  | false =>
    obtain ⟨e1, e2⟩ := sw_no (r := r) h
    rw [e1, e2]
    exact (sweep_no l n r h).wk (Wk.tup (WkL.cons (Wk.slf0 3) (WkL.cons (Wk.refl _) WkL.nil)))
end Go.Proofs.YtjgnalfnginjbaaGreatDoor
namespace Go.Proofs.YtjgnalfnginjbaaGreatDoor
set_option maxRecDepth 4000
set_option linter.unusedVariables false
set_option linter.unusedSimpArgs false
open Go.RowKit
set_option maxRecDepth 4000 in
set_option maxHeartbeats 1000000 in
theorem cloneS (l : List Sp) (h : l.length ≤ 1000000) : DFun Tryz.prog 11 [.slf 3 l.length (l.flatMap s3)] [] (.arr 0) [.arr 32 3 l.length (l.flatMap s3)] := by
  refine zam (N := 8) 0 (by kernel_rfl) Tryz.func11 rfl rfl rfl (by simp only [fr0, Nat.zero_add, Nat.reduceAdd]; exact rfl) rfl fun s0 hs0 => ?_
  refine dwp_len (t := 0) rfl fun hl0 hL0 => ?_
  refine zaf ?_
  refine zad ?_
  refine zab rfl rfl rfl (zac (.inr rfl) (ev1 rfl)) ?_
  refine zae ?_
  refine zaf ?_
  refine zaf ?_
  refine zad ?_
  refine zab rfl rfl rfl (zac (.inl rfl) (ev1 rfl)) ?_
  refine walk_nil? rfl rfl rfl rfl sl25 (ev1 rfl) fun nb4 hnb4 => ?_
  refine zae ?_
  refine dwp_cond rfl (fun c1 => ?_) (fun c1 => ?_)
  · try simp only [decide_eq_true_eq, decide_eq_false_iff_not, beq_iff_eq, bne_iff_ne, beq_eq_false_iff_ne, bne_eq_false_iff_eq, Bool.not_eq_true', Bool.not_eq_false', Bool.and_eq_true, Bool.or_eq_true, Bool.or_eq_false_iff, ne_eq, Decidable.not_not, Int.not_lt, Int.not_le] at c1
    refine zaf ?_
    refine zad ?_
    refine zab rfl rfl rfl (zac (.inr rfl) (ev1 rfl)) ?_
    refine zae ?_
    refine dwp_adopt 2 32 3 rfl rfl rfl ?_
    refine dwp_ret ?_
    refine kend [0] (rs1 rfl (rv_t rfl)) rfl rfl ?_ ⟨?_, trivial⟩
    rfl
    exact (by obtain ⟨h1, h2⟩ := hnb4 c1; simp_all [MFits, vwB])
  · try simp only [decide_eq_true_eq, decide_eq_false_iff_not, beq_iff_eq, bne_iff_ne, beq_eq_false_iff_ne, bne_eq_false_iff_eq, Bool.not_eq_true', Bool.not_eq_false', Bool.and_eq_true, Bool.or_eq_true, Bool.or_eq_false_iff, ne_eq, Decidable.not_not, Int.not_lt, Int.not_le] at c1
    refine dwp_skip ?_
    refine zaf ?_
    refine zah 2 (by simp only [holes, List.cons_append, List.nil_append]; exact rfl) ?_
    refine zad ?_
    refine zak rfl rfl rfl (op_bsa (ps := []) 0 rfl sl25 zr32 rfl vn rfl (by decide) (by decide) rfl) (by simp only [upd, zaa, za]; exact rfl) ?_
    refine zab rfl rfl rfl (zac (.inl rfl) (ev1 rfl)) ?_
    refine zak rfl rfl rfl (op_app (j := 1) rfl sl25 zr32 rfl (ev1 rfl) (ev1 rfl) src_slf rfl rfl (fun _ => flat_oc (fun _ => rfl) l) (fun _ => ⟨by omega, by omega⟩)) (by simp only [upd, zaa, za]; exact rfl) ?_
    refine zab rfl rfl rfl (zac (.inr rfl) (ev1 rfl)) ?_
    refine zae ?_
    refine dwp_ret ?_
    refine kend [1] (rs1 rfl (rv_t rfl)) rfl rfl ?_ ⟨?_, trivial⟩
    rfl
    simp [vwB]
theorem cloneS_f (l : List Sp) (h : l.length ≤ 1000000) : DFun Tryz.prog 11 [.slf 3 l.length (l.flatMap s3)] [] (.slf 3 l.length (l.flatMap s3)) [] := freeze (cloneS l h) rfl
set_option maxRecDepth 4000 in
set_option maxHeartbeats 1000000 in
theorem all_d (l : List Sp) (h : l.length ≤ 1000000) : DFun Tryz.prog 107 [.slf 3 l.length (l.flatMap s3)] [] (.fn (.func 125) [] [.loc 0 0]) [.mix 25 [.slf 3 l.length (l.flatMap s3)]] := by
  refine zam (N := 7) 0 (by kernel_rfl) Tryz.func107 rfl rfl rfl (by simp only [fr0, Nat.zero_add, Nat.reduceAdd]; exact rfl) rfl fun s0 hs0 => ?_
  refine dwp_len (t := 0) rfl fun hl0 hL0 => ?_
  refine zaf ?_
  refine zad ?_
  refine zab rfl rfl rfl (zac (.inr rfl) (ev1 rfl)) ?_
  refine zae ?_
  refine zaf ?_
  refine zah 1 (by simp only [holes, List.cons_append, List.nil_append]; exact rfl) ?_
  refine zad ?_
  refine zab rfl rfl rfl (zac (.inl rfl) (ev1 rfl)) ?_
  refine zab rfl rfl rfl (zai [] [] [] rfl (ev1 rfl) (ec (ev1 rfl) en) rfl rfl (cloneS_f l h) rfl rfl rfl rfl rfl rfl) ?_
  refine zak rfl rfl rfl (op_alloc 0 rfl zr25 rfl) (by simp only [upd, zaa, za]; exact rfl) ?_
  refine walk_s rfl rfl (op_stfm rfl tb25 (ev1 rfl) (ev1 rfl) (fun s v h => by cases h <;> exact ⟨rfl, rfl⟩) rfl (by decide)) (by simp only [upd, zaa, za]; exact rfl) ?_
  refine zae ?_
  refine zaf ?_
  refine zad ?_
  refine zab rfl rfl rfl (op_mkf rfl en (ec (ev1 rfl) en)) ?_
  refine zab rfl rfl rfl (zac (.inr rfl) (ev1 rfl)) ?_
  refine zae ?_
  refine dwp_ret ?_
  refine kend [0] (rs1 rfl (rv_t rfl)) rfl rfl ?_ ⟨rfl, trivial⟩
  rfl
theorem pts_wd (s : Sp) : s.pts.length = s.wd := by unfold Sp.pts; simp
theorem pts_add {s : Sp} {k : Nat} (hk : k < s.wd) : s.pts.take (k + 1) = s.pts.take k ++ [⟨s.f + (k : Int), s.y⟩] := by
  rw [List.take_succ_eq_append_getElem (by rw [pts_wd]; exact hk)]
  congr 1
  unfold Sp.pts
  simp
theorem ptsS_add {l : List Sp} {i : Nat} (hi : i < l.length) : ptsS (l.take (i + 1)) = ptsS (l.take i) ++ l[i].pts := by
  unfold ptsS
  rw [List.take_succ_eq_append_getElem hi, List.flatMap_append]
  simp
theorem pts_mem2 {l : List Sp} {i k : Nat} (hi : i < l.length) (hk : k < l[i].wd) : (⟨l[i].f + (k : Int), l[i].y⟩ : P2) ∈ ptsS l := by
  refine List.mem_flatMap.2 ⟨l[i], List.getElem_mem hi, List.mem_map.2 ⟨k, List.mem_range.2 hk, rfl⟩⟩
end Go.Proofs.YtjgnalfnginjbaaGreatDoor
namespace Go.Proofs.YtjgnalfnginjbaaGreatDoor
set_option linter.unusedVariables false
set_option linter.unusedSimpArgs false
open Go.RowKit
section
variable {α β : Type}
def entQ (en : α → List Value) (ev : β → List Value) : Nat → List (α × β) → List MapEntry
  | _, [] => []
  | o, (a, v) :: r => { key := .agg (en a).toArray, val := .agg (ev v).toArray, born := o } :: entQ en ev (o + 1) r
def mapQ (en : α → List Value) (ev : β → List Value) (m : List (α × β)) : Obj := .map (entQ en ev 0 m).toArray m.length
theorem entQ_len (en : α → List Value) (ev : β → List Value) : ∀ (m : List (α × β)) (o : Nat), (entQ en ev o m).length = m.length
  | [], _ => rfl
  | (a, v) :: r, o => by simp [entQ, entQ_len en ev r]
theorem entQ_app (en : α → List Value) (ev : β → List Value) (k : α) (v : β) : ∀ (m : List (α × β)) (o : Nat), entQ en ev o (m ++ [(k, v)]) = entQ en ev o m ++ [{ key := .agg (en k).toArray, val := .agg (ev v).toArray, born := o + m.length }]
  | [], o => by simp [entQ]
  | (a, w) :: r, o => by simp [entQ, entQ_app en ev k v r, Nat.add_assoc, Nat.add_comm 1]
theorem entQ_mem (en : α → List Value) (ev : β → List Value) : ∀ (m : List (α × β)) (o : Nat) (e : MapEntry), e ∈ entQ en ev o m → ∃ p k v, m[p]? = some (k, v) ∧ e = { key := .agg (en k).toArray, val := .agg (ev v).toArray, born := o + p }
  | [], o, e, h => by simp [entQ] at h
  | (a, w) :: r, o, e, h => by
    rw [entQ] at h
    rcases List.mem_cons.1 h with rfl | h
    · exact ⟨0, a, w, rfl, rfl⟩
    · obtain ⟨p, k, v, h1, rfl⟩ := entQ_mem en ev r (o + 1) e h
      exact ⟨p + 1, k, v, h1, by rw [show o + 1 + p = o + (p + 1) by omega]⟩
theorem entQ_at (en : α → List Value) (ev : β → List Value) : ∀ (m : List (α × β)) (o p : Nat) (k : α) (v : β), m[p]? = some (k, v) → ({ key := .agg (en k).toArray, val := .agg (ev v).toArray, born := o + p } : MapEntry) ∈ entQ en ev o m
  | [], o, p, k, v, h => by simp at h
  | (a, w) :: r, o, p, k, v, h => by
    rw [entQ]
    cases p with
    | zero => simp at h; obtain ⟨rfl, rfl⟩ := h; exact List.mem_cons_self ..
    | succ p =>
      have := entQ_at en ev r (o + 1) p k v (by simpa using h)
      rw [show o + 1 + p = o + (p + 1) by omega] at this
      exact List.mem_cons_of_mem _ this
theorem entQ_born (en : α → List Value) (ev : β → List Value) : ∀ (m : List (α × β)) (o : Nat), (∀ b ∈ (entQ en ev o m).map (·.born), o ≤ b) ∧ ((entQ en ev o m).map (·.born)).Nodup
  | [], o => by simp [entQ]
  | (a, w) :: r, o => by
    obtain ⟨h1, h2⟩ := entQ_born en ev r (o + 1)
    rw [entQ, List.map_cons]
    refine ⟨fun c hc => ?_, List.nodup_cons.2 ⟨fun hm => ?_, h2⟩⟩
    · rcases List.mem_cons.1 hc with rfl | hc
      · exact Nat.le_refl _
      · have := h1 c hc; omega
    · have := h1 o hm; omega
variable [DecidableEq α] {P : Program} {T : TypeId} {en : α → List Value} {ev : β → List Value}
theorem run_askQ (hk : KeyT P T en) (k : α) (w : World) : ∀ (m : List (α × β)) (o i : Nat), k ∉ m.map (·.1) → (Instr.findAsking T (.agg (en k).toArray) (entQ en ev o m) i).run P w = .ok none w
  | [], o, i, _ => by simp [Instr.findAsking, entQ]
  | (a, v) :: r, o, i, h => by
    have h1 : k ≠ a := fun e => h (by simp [e])
    rw [entQ, Instr.findAsking, Sem.run_bind, hk.eq, Result.andThen_ok]
    simp only [h1, decide_false, Bool.false_eq_true, if_false]
    exact run_askQ hk k w r (o + 1) (i + 1) fun e => h (List.mem_cons_of_mem _ e)
theorem run_findQ (hk : KeyT P T en) (k : α) (m : List (α × β)) (w : World) (h : k ∉ m.map (·.1)) : (Instr.findKey T (.agg (en k).toArray) (entQ en ev 0 m)).run P w = .ok none w := by
  obtain ⟨d, hd, hr⟩ := hk.row
  unfold Instr.findKey
  rw [Sem.run_bind, run_underlying hd, Result.andThen_ok]
  cases m with
  | nil => simp [entQ, Instr.findNow]
  | cons p r =>
    obtain ⟨a, v⟩ := p
    have : Instr.findNow d (.agg (en k).toArray) (entQ en ev 0 ((a, v) :: r)) 0 = none := by
      simp only [entQ, Instr.findNow]
      cases d <;> first | rfl | cases hr
    rw [this]
    have := run_askQ (ev := ev) hk k w ((a, v) :: r) 0 0 h
    simpa using this
end
section
variable {α β : Type} {P : Program} {K E T : TypeId} {en : α → List Value} {ev : β → List Value} {pc : Bool} {o : Oper} {F : Fr} {M : List Blk} {x y z : Operand}
/-- a new map -/
theorem op_mkq (en : α → List Value) (ev : β → List Value) (j : Nat) (ho : o.op = .makeMap T none) (hj : M[j]? = some .hole) : DOp P pc o F M [j] (.hnd j) [(j, .obj (mapQ en ev []))] := by
  intro hp a s hok hops hfp
  have hj' : s.M[j]? = some .hole := by rw [hfp j (by simp)]; exact hj
  have hjl : j < s.β.length := by rw [hok.len]; exact (List.getElem?_eq_some_iff.1 hj').1
  have ht : Tr s ⟨s.β.set j (.map (some s.w.heap.size)), s.I, s.M.set j (.obj (mapQ en ev [])), s.w.alloc (mapQ en ev [])⟩ := by
    refine tr_new hok hj' _ _ _ (by simp) (fun b hb => by simpa [hb] using (Option.some.inj hb).symm) (fun b h => Below.heap_alloc _ _ _ h) (fun b hb => ?_) (by simp) rfl rfl rfl ⟨_, rfl, by simpa using heap_alloc_new s.w _, ⟨_, rfl⟩⟩
    cases hb; simp
  refine dg_step (v := .map (some s.w.heap.size)) ?_ ht rfl (.hnd (by simp [hjl]) (by simp) (by simp))
  unfold execOp
  simp only [ho]
  refine run_v ?_
  simp [Instr.makeMap, mapQ, entQ]
theorem mapQ_at {s : St} (hok : Ok s) {i : Nat} {m : List (α × β)} {v : Value} (hM : s.M[i]? = some (.obj (mapQ en ev m))) (hr : Rep s (.hnd i) v) : ∃ b, v = .map (some b) ∧ s.β[i]? = some (.map (some b)) ∧ s.w.heap[b]? = some (mapQ en ev m) := by
  cases hr with
  | hnd hβ hn =>
    obtain ⟨b, e1, e2, b', e3⟩ := hok.blk i _ _ hM hβ
    subst e3
    cases e1
    exact ⟨b, rfl, hβ, e2⟩
/-- a new key set -/
theorem op_muq [DecidableEq α] {i : Nat} {k : α} {m : List (α × β)} {v : β} (hT : mpT P T = some (K, E)) (hk : KeyT P K en) (ho : o.op = .mapUpdate T x y z) (hx : Ev pc F x (.hnd i)) (hy : Ev pc F y (.val (.agg (en k).toArray))) (hz : Ev pc F z (.val (.agg (ev v).toArray))) (hM : M[i]? = some (.obj (mapQ en ev m))) (hn : pc = true → k ∉ m.map (·.1)) : DOp P pc o F M [i] .junk [(i, .obj (mapQ en ev (m ++ [(k, v)])))] := by
  intro hp a s hok hops hfp
  have hM' : s.M[i]? = some (.obj (mapQ en ev m)) := by rw [hfp i (by simp)]; exact hM
  obtain ⟨b, hv, hβ, hob⟩ := mapQ_at hok hM' (ev_at hp hx (by simp [ho, Op.operands]) hops)
  have hry := (ev_at hp hy (by simp [ho, Op.operands]) hops).val_eq
  have hrz := (ev_at hp hz (by simp [ho, Op.operands]) hops).val_eq
  obtain ⟨_, ht⟩ := tr_map (ob' := mapQ en ev (m ++ [(k, v)])) hok ⟨b, rfl⟩ hM' hβ
  refine dg_skip ?_ ht rfl
  have hf := run_findQ (ev := ev) hk k m s.w (hn hp)
  unfold execOp
  simp only [ho, hv, hry, hrz]
  refine run_u ?_
  unfold Instr.mapUpdate
  rw [Sem.run_bind, run_underlying (mpT_spec hT), Result.andThen_ok]
  simp only [Sem.run_bind, getObj, Sem.run, hob, mapQ, Result.andThen, hk.chk, hf]
  simp [setObj, Sem.run, World.putObj, entQ_app, hob, mapQ]
theorem op_lenq (ho : o.op = .call { callee := .builtin .len, args := #[x], argTypes := #[T] }) {i : Nat} {m : List (α × β)} (hT : mpT P T = some (K, E)) (hx : Ev pc F x (.hnd i)) (hM : M[i]? = some (.obj (mapQ en ev m))) : DOp P pc o F M [i] (.val (.int .i64 m.length)) [] := by
  intro hp a s hok hops hfp
  have hM' : s.M[i]? = some (.obj (mapQ en ev m)) := by rw [hfp i (by simp)]; exact hM
  obtain ⟨b, hv, hβ, hob⟩ := mapQ_at hok hM' (ev_at hp hx (by simp [ho, Op.operands, Call.operands]) hops)
  refine dg_val hok (run_builtin ho (fun cs => rfl) ?_) (.val (.int .i64 m.length))
  simp [Builtin.len_, hv, run_underlying (mpT_spec hT), getObj, Sem.run, hob, mapQ, Result.andThen, Sem.run_bind, entQ_len, goInt]
/-- a walk through it begins -/
theorem op_rgq {i : Nat} {m : List (α × β)} (j : Nat) (ho : o.op = .range T x) (hT : mpT P T = some (K, E)) (hx : Ev pc F x (.hnd i)) (hM : M[i]? = some (.obj (mapQ en ev m))) (hj : M[j]? = some .hole) : DOp P pc o F M [i, j] (.loc j 0) [(j, .mit (.hnd i) m.length [])] := by
  intro hp a s hok hops hfp
  have hM' : s.M[i]? = some (.obj (mapQ en ev m)) := by rw [hfp i (by simp)]; exact hM
  have hj' : s.M[j]? = some .hole := by rw [hfp j (by simp)]; exact hj
  have hjl : j < s.β.length := by rw [hok.len]; exact (List.getElem?_eq_some_iff.1 hj').1
  obtain ⟨b, hv, hβ, hob⟩ := mapQ_at hok hM' (ev_at hp hx (by simp [ho, Op.operands]) hops)
  have hij : j ≠ i := fun e => by subst e; rw [hM'] at hj'; cases hj'
  have ht : Tr s ⟨s.β.set j (.pointer (some ⟨s.w.heap.size, 0, none⟩)), s.I, s.M.set j (.mit (.hnd i) m.length []), s.w.alloc (.mapIter (some b) m.length #[] m.length)⟩ := by
    refine tr_new hok hj' _ _ _ (by simp) (fun c hc => by cases hc; rfl) (fun c h => Below.heap_alloc _ _ _ h) (fun c hc => by cases hc; simp) (by simp) rfl rfl rfl ⟨_, b, rfl, by simpa using heap_alloc_new s.w _, .hnd (by show (s.β.set j _)[i]? = _; rw [List.getElem?_set_ne hij]; exact hβ) (by simp) (by simp)⟩
  refine dg_step (v := .pointer (some ⟨s.w.heap.size, 0, none⟩)) ?_ ht rfl (.loc (by simp [hjl]))
  have hrun := run_range_map (P := P) s.w T K E b (entQ en ev 0 m).toArray m.length (mpT_spec hT) hob
  unfold execOp
  simp only [ho, hv]
  exact run_v hrun
theorem mitQ_at {s : St} (hok : Ok s) {i j n : Nat} {seen : List Nat} {m : List (α × β)} {v : Value} (hMj : s.M[j]? = some (.mit (.hnd i) n seen)) (hM : s.M[i]? = some (.obj (mapQ en ev m))) (hr : Rep s (.loc j 0) v) : ∃ r b, v = .pointer (some ⟨r, 0, none⟩) ∧ s.β[j]? = some (.pointer (some ⟨r, 0, none⟩)) ∧ s.β[i]? = some (.map (some b)) ∧ s.w.heap[r]? = some (.mapIter (some b) n seen.toArray n) ∧ s.w.heap[b]? = some (mapQ en ev m) := by
  cases hr with
  | @loc _ _ r hβ =>
    obtain ⟨r', b, e1, e2, e3⟩ := hok.blk j _ _ hMj hβ
    cases e1
    obtain ⟨b', q1, q2, q3⟩ := mapQ_at hok hM e3
    cases q1
    exact ⟨r, b, rfl, hβ, q2, e2, q3⟩
/-- the next entry, whichever -/
theorem op_nxq {i j : Nat} {seen : List Nat} {m : List (α × β)} (ho : o.op = .next x false) (hx : Ev true F x (.loc j 0)) (hMj : M[j]? = some (.mit (.hnd i) m.length seen)) (hM : M[i]? = some (.obj (mapQ en ev m))) :
    DOpE P o F M [i, j] (fun d wr => (wr = [] ∧ d = .tup [.val (.bool false)] ∧ ∀ p, p < m.length → p ∈ seen) ∨ ∃ p k e, m[p]? = some (k, e) ∧ p ∉ seen ∧ d = .tup [.val (.bool true), .val (.agg (en k).toArray), .val (.agg (ev e).toArray)] ∧ wr = [(j, .mit (.hnd i) m.length (seen ++ [p]))]) := by
  intro a s hok hops hfp
  have hM' : s.M[i]? = some (.obj (mapQ en ev m)) := by rw [hfp i (by simp)]; exact hM
  have hMj' : s.M[j]? = some (.mit (.hnd i) m.length seen) := by rw [hfp j (by simp)]; exact hMj
  obtain ⟨r, b, hv, hβj, hβi, hit, hob⟩ := mitQ_at hok hMj' hM' (ev_at rfl hx (by simp [ho, Op.operands]) hops)
  have hold : ∀ y ∈ ((entQ en ev 0 m).toArray).toList, y.born < m.length := fun y hy => by
    obtain ⟨p, k, v, h1, rfl⟩ := entQ_mem en ev m 0 y (by simpa using hy)
    have := (List.getElem?_eq_some_iff.1 h1).1
    show 0 + p < _
    omega
  have hjl : j < s.M.length := (List.getElem?_eq_some_iff.1 hMj').1
  have hlv : Live s r := live_of hMj' rfl hβj rfl
  have hrl := (hok.lt r hlv).1
  rcases run_next_at (P := P) s.w o.type r b m.length m.length seen.toArray (entQ en ev 0 m).toArray m.length hit hob hold (Nat.le_refl _) with ⟨h0, hrun⟩ | ⟨e, he, w1, hw, hrun⟩
  · refine ⟨_, [], .inl ⟨rfl, rfl, fun p hp => ?_⟩, dg_val hok (by unfold execOp; simp only [ho, hv]; exact run_v hrun) (.tup rfl fun q d v g1 g2 => ?_)⟩
    · have := all_seen (entQ en ev 0 m).toArray seen.toArray h0 _ (by simpa using entQ_at en ev m 0 p m[p].1 m[p].2 (List.getElem?_eq_getElem hp))
      simpa using this
    · match q, g1, g2 with
      | 0, g1, g2 => cases g1; cases g2; exact .val _
  · obtain ⟨hm, hns⟩ := mem_left he
    obtain ⟨p, k, v, h1, rfl⟩ := entQ_mem en ev m 0 e (by simpa using hm)
    have hβe : s.β.set j (.pointer (some ⟨r, 0, none⟩)) = s.β := by
      have : s.β[j]'((List.getElem?_eq_some_iff.1 hβj).1) = .pointer (some ⟨r, 0, none⟩) := (List.getElem?_eq_some_iff.1 hβj).2
      rw [← this, List.set_getElem_self]
    have hji : j ≠ i := fun e => by subst e; rw [hM'] at hMj'; cases hMj'
    have hw1 : w1.heap = s.w.heap ∧ w1.os = s.w.os ∧ w1.tape = s.w.tape ∧ w1.output = s.w.output := by rcases hw with rfl | rfl <;> exact ⟨rfl, rfl, rfl, rfl⟩
    obtain ⟨hwh, hwo, hwt, hwp⟩ := hw1
    have hseen : (seen.toArray.push (0 + p)) = (seen ++ [p]).toArray := by simp
    have hsame : (Go.ChangeMaps.setBlock w1 r (.mapIter (some b) m.length (seen.toArray.push (0 + p)) m.length)).heap[r]? = some (.mapIter (some b) m.length (seen ++ [p]).toArray m.length) := by
      unfold Go.ChangeMaps.setBlock
      rw [← hseen]
      simp [hwh, hrl]
    have hother : ∀ c, c ≠ r → (Go.ChangeMaps.setBlock w1 r (.mapIter (some b) m.length (seen.toArray.push (0 + p)) m.length)).heap[c]? = s.w.heap[c]? := fun c hc => by
      unfold Go.ChangeMaps.setBlock
      simp only [hwh]
      rw [Array.getElem?_setIfInBounds_ne (Ne.symm hc)]
    have ht := step_set hok j s.M (.pointer (some ⟨r, 0, none⟩)) (.mit (.hnd i) m.length (seen ++ [p])) (Go.ChangeMaps.setBlock w1 r (.mapIter (some b) m.length (seen.toArray.push (0 + p)) m.length)) rfl (fun _ _ h => .inl h) hjl (.inr (.inl hβj)) (by simp)
      ⟨r, b, rfl, hsame, .hnd (by show (s.β.set j _)[i]? = _; rw [hβe]; exact hβi) (by simp) (by simp)⟩
      (fun c hc q k h hne h1 h2 h3 h4 => by
        cases hc
        exact hne (hok.inj q j k _ h _ r h1 h2 h3 h4 hMj' rfl hβj rfl))
      (fun c hc => by cases hc; exact .inr hlv) (fun c hc => by cases hc; unfold Go.ChangeMaps.setBlock; simpa [hwh] using hrl) (fun _ => False) (fun _ h => h.elim)
      (fun c hc hne _ => hother c (fun e => hne (by rw [e]; rfl))) hwo hwt hwp (by unfold Go.ChangeMaps.setBlock; simp [hwh])
    rw [hβe] at ht
    refine ⟨_, [(j, .mit (.hnd i) m.length (seen ++ [p]))], .inr ⟨p, k, v, h1, by simpa using hns, rfl, rfl⟩, dg_step (v := .tuple #[.bool true, .agg (en k).toArray, .agg (ev v).toArray]) (by unfold execOp; simp only [ho, hv]; exact run_v hrun) ht rfl (.tup rfl fun q d v' g1 g2 => ?_)⟩
    match q, g1, g2 with
    | 0, g1, g2 => cases g1; cases g2; exact .val _
    | 1, g1, g2 => cases g1; cases g2; exact .val _
    | 2, g1, g2 => cases g1; cases g2; exact .val _
/-- the entry that the step handed out -/
theorem op_etq {i j p : Nat} {k : α} {e : β} {seen : List Nat} {m : List (α × β)} (ho : o.op = .entry x) (hx : Ev pc F x (.loc j 0)) (hMj : M[j]? = some (.mit (.hnd i) m.length (seen ++ [p]))) (hM : M[i]? = some (.obj (mapQ en ev m))) (he : m[p]? = some (k, e)) : DOp P pc o F M [i, j] (.tup [.val (.agg (en k).toArray), .val (.agg (ev e).toArray)]) [] := by
  intro hp a s hok hops hfp
  have hM' : s.M[i]? = some (.obj (mapQ en ev m)) := by rw [hfp i (by simp)]; exact hM
  have hMj' : s.M[j]? = some (.mit (.hnd i) m.length (seen ++ [p])) := by rw [hfp j (by simp)]; exact hMj
  obtain ⟨r, b, hv, hβj, hβi, hit, hob⟩ := mitQ_at hok hMj' hM' (ev_at hp hx (by simp [ho, Op.operands]) hops)
  have hseen : (seen ++ [p]).toArray = seen.toArray.push (0 + p) := by simp
  rw [hseen] at hit
  have hrun := run_entry_at (P := P) s.w r b m.length seen.toArray (entQ en ev 0 m).toArray m.length { key := .agg (en k).toArray, val := .agg (ev e).toArray, born := 0 + p } hit hob (by simpa using entQ_at en ev m 0 p k e he) (by simpa using (entQ_born en ev m 0).2)
  refine dg_val (v := .tuple #[.agg (en k).toArray, .agg (ev e).toArray]) hok (by unfold execOp; simp only [ho, hv]; exact run_v hrun) (.tup rfl fun q d v' g1 g2 => ?_)
  match q, g1, g2 with
  | 0, g1, g2 => cases g1; cases g2; exact .val _
  | 1, g1, g2 => cases g1; cases g2; exact .val _
end
section
variable {P : Program} {pc : Bool} {o : Oper} {F : Fr} {M : List Blk}
/-- a struct of what takes a cell each, stored whole -/
theorem op_stam2 {T T' : TypeId} {x y : Operand} {i k : Nat} {rw' : Bool} {ds : List D} {L : List Value} (ho : o.op = .store T x y) (hT : tyB P T = some (rw', k)) (hx : Ev pc F x (.loc i 0)) (hy : Ev pc F y (.agg ds)) (hM : M[i]? = some (.flat T' L)) (hk : ds.length = k) (hfit : ds.length = L.length) (h1 : ds.all D.oc2 = true) : DOp P pc o F M [i] .junk [(i, .mix T' ds)] := by
  intro hp a s hok hops hfp
  have hr := ev_at hp hx (by simp [ho, Op.operands]) hops
  have hry := ev_at hp hy (by simp [ho, Op.operands]) hops
  have hM' : s.M[i]? = some (.flat T' L) := by rw [hfp i (by simp)]; exact hM
  generalize hv : a.eval x = vx at hr
  generalize hvy : a.eval y = vy at hry
  cases hr with
  | @loc _ _ b h =>
    cases hry with
    | @agg _ vs hvl hd =>
      obtain ⟨b', e1, e2⟩ := hok.blk i _ _ hM' h
      cases e1
      have hcell := cellsAt_block e2 0
      have hoc : ∀ u ∈ vs, u.oneCell' = true := fun u hu => by
        obtain ⟨j, hj, rfl⟩ := List.getElem_of_mem hu
        have hj2 : j < ds.length := by omega
        exact oc2_one (hd j _ _ (List.getElem?_eq_getElem hj2) (List.getElem?_eq_getElem hj)) (List.all_eq_true.1 h1 _ (List.getElem_mem hj2))
      have hrun := run_store (P := P) (w := s.w) (C := vs) ho hT hv hvy rfl (by omega) (fun j hj => by
          have hp' : j < L.length := by omega
          have := hcell j L[j] (by simp [hp'])
          rw [Nat.zero_add] at this
          rw [Nat.zero_add, this]; rfl) (fun j hj => by simp [World.frozen?, e2]) hoc
      have hβ : s.β.set i (.pointer (some ⟨b, 0, none⟩)) = s.β := by
        apply List.ext_getElem?
        intro k
        by_cases e : i = k
        · subst e; rw [List.getElem?_set_self (List.getElem?_eq_some_iff.1 h).1, h]
        · rw [List.getElem?_set_ne e]
      refine dg_skip (s' := ⟨s.β.set i (.pointer (some ⟨b, 0, none⟩)), s.I, s.M.set i (.mix T' ds), s.w.setCells b 0 vs⟩) hrun (tr_store hok hM' rfl h rfl 0 _ ?_) rfl
      have hall : setL L 0 vs = vs := setL_all (by omega)
      have hblk := setCells_block b vs 0 s.w L T' e2
      rw [hall] at hblk
      refine ⟨b, vs, rfl, hblk, hvl, fun j e v hj hv' => ?_⟩
      refine Rep.mono' (s := s) (s' := ⟨s.β.set i (.pointer (some ⟨b, 0, none⟩)), s.I, s.M.set i (.mix T' ds), s.w.setCells b 0 vs⟩) (fun k x hk _ => by show (s.β.set i _)[k]? = _; rw [hβ]; exact hk) (fun _ h => h) (fun b' hI => setCells_other b _ 0 s.w b' fun e => ?_) (hd j e v hj hv')
      subst e
      exact (hok.lt b' (live_of hM' rfl h rfl)).2 hI
/-- a map's handle, into a variable -/
theorem op_stfq {α β : Type} {en : α → List Value} {ev : β → List Value} {m : List (α × β)} {T T' : TypeId} {x y : Operand} {i p q : Nat} {rw' : Bool} {L : List Value} (ho : o.op = .store T x y) (hT : tyB P T = some (rw', 1)) (hx : Ev pc F x (.loc i p)) (hy : Ev pc F y (.hnd q)) (hq : M[q]? = some (.obj (mapQ en ev m))) (hM : M[i]? = some (.flat T' L)) (hfit : p < L.length) : DOp P pc o F M [i, q] .junk [(i, .mix T' ((L.map .val).set p (.hnd q)))] := by
  intro hp a s hok hops hfp
  have hr := ev_at hp hx (by simp [ho, Op.operands]) hops
  have hry := ev_at hp hy (by simp [ho, Op.operands]) hops
  obtain ⟨bq, hvq, _, _⟩ := mapQ_at hok (by rw [hfp q (by simp)]; exact hq) hry
  have hc1 : (a.eval y).cells = #[a.eval y] := by rw [hvq]; rfl
  have hc2 : (a.eval y).oneCell' = true := by rw [hvq]; rfl
  have hM' : s.M[i]? = some (.flat T' L) := by rw [hfp i (by simp)]; exact hM
  generalize hv : a.eval x = vx at hr
  cases hr with
  | @loc _ _ b h =>
    obtain ⟨b', e1, e2⟩ := hok.blk i _ _ hM' h
    cases e1
    obtain ⟨vs, hvs⟩ : ∃ vs, vs = L := ⟨_, rfl⟩
    rw [← hvs] at e2 hfit
    have e3 : vs.length = (L.map D.val).length := by rw [hvs]; simp
    have e4 : ∀ (j : Nat) d v, (L.map D.val)[j]? = some d → vs[j]? = some v → Rep s d v := fun j d v h1 h2 => by
      rw [hvs] at h2
      simp [h2] at h1
      subst h1
      exact .val _
    have hcell := cellsAt_block e2 0
    have hrun := run_store (P := P) (w := s.w) (C := [a.eval y]) ho hT hv rfl (by rw [hc1]) rfl (fun j hj => by
        have hj0 : j = 0 := by simp at hj; exact hj
        subst hj0
        have hp' : p < vs.length := by omega
        have := hcell p vs[p] (by simp [hp'])
        rw [Nat.zero_add] at this
        rw [Nat.add_zero, this]; rfl) (fun j hj => by simp [World.frozen?, e2]) (fun u hu => by rw [List.mem_singleton.1 hu]; exact hc2)
    refine dg_skip (s' := ⟨s.β.set i (.pointer (some ⟨b, 0, none⟩)), s.I, s.M.set i (.mix T' ((L.map .val).set p (.hnd q))), s.w.setCells b p [a.eval y]⟩) hrun (tr_store hok hM' rfl h rfl p _ ?_) rfl
    refine ⟨b, vs.set p (a.eval y), rfl, setCells_block b _ p s.w vs T' e2, by simp [e3], fun j e v hj hv' => ?_⟩
    have hβ : s.β.set i (.pointer (some ⟨b, 0, none⟩)) = s.β := by
      apply List.ext_getElem?
      intro k
      by_cases e : i = k
      · subst e; rw [List.getElem?_set_self (List.getElem?_eq_some_iff.1 h).1, h]
      · rw [List.getElem?_set_ne e]
    have lift : ∀ {e : D} {v : Value}, Rep s e v → Rep ⟨s.β.set i (.pointer (some ⟨b, 0, none⟩)), s.I, s.M.set i (.mix T' ((L.map .val).set p (.hnd q))), s.w.setCells b p [a.eval y]⟩ e v := by
      intro e v hr
      refine Rep.mono' (s := s) (s' := ⟨s.β.set i (.pointer (some ⟨b, 0, none⟩)), s.I, s.M.set i (.mix T' ((L.map .val).set p (.hnd q))), s.w.setCells b p [a.eval y]⟩) (fun k x hk _ => by show (s.β.set i _)[k]? = _; rw [hβ]; exact hk) (fun _ h => h) (fun b' hI => setCells_other b _ p s.w b' fun e => ?_) hr
      subst e
      exact (hok.lt b' (live_of hM' rfl h rfl)).2 hI
    by_cases e' : p = j
    · subst e'
      rw [List.getElem?_set_self (by omega)] at hj
      rw [List.getElem?_set_self (by omega)] at hv'
      cases hj; cases hv'
      exact lift hry
    · rw [List.getElem?_set_ne e'] at hj hv'
      exact lift (e4 j e v hj hv')
/-- a variable that stays, whole -/
theorem op_ldg {T : TypeId} {x : Operand} {g i k : Nat} {L : List Value} (ho : o.op = .load T x) (hT : tyB P T = some (true, k)) (hx : Ev pc F x (.val (.pointer (some ⟨g, 0, none⟩)))) (hM : M[i]? = some (.glob g L)) (hk : L.length = k) : DOp P pc o F M [i] (.val (.agg L.toArray)) [] := by
  intro hp a s hok hops hfp
  have hr := (ev_at hp hx (by simp [ho, Op.operands]) hops).val_eq
  have hM' : s.M[i]? = some (.glob g L) := by rw [hfp i (by simp)]; exact hM
  have hil : i < s.β.length := by rw [hok.len]; exact (List.getElem?_eq_some_iff.1 hM').1
  obtain ⟨_, hI, hc⟩ := hok.blk i _ _ hM' (List.getElem?_eq_getElem hil)
  have := cellsAt_range hc 0 k (by simpa using (show L.take k = L by subst hk; simp))
  exact dg_val hok (run_load_row ho hT hr (by simpa using this) hk) (.val _)
end
end Go.Proofs.YtjgnalfnginjbaaGreatDoor
