/- sweeps; rows copied and compared; places ranged over; arguments that are opened; what holds ahead of each law: lines, discs and rows. No condition. -/
import Derived.Test.YtoffbkjhoelghaaQ3
import Derived.Test.YtoffbkjhoelghaaRows
namespace Go.Proofs.Ytoffbkjhoelghaa
set_option maxRecDepth 4000
set_option linter.unusedVariables false
set_option linter.unusedSimpArgs false
open Go.RowKit
set_option maxRecDepth 4000 in
set_option maxHeartbeats 1000000 in
theorem brush_d (r : Bool) (n : Nat) (hn : n ≤ 15) : DFun Try.prog 45 [.val (.int .i64 (n : Int)), .val (.bool r)] [] (.slf 3 ((brS r n)).length (((brS r n)).flatMap s3)) [] := by
  refine dcalls_go (N := 8) 0 (by kernel_rfl) Try.func45 rfl rfl rfl (by simp only [fr0, Nat.zero_add, Nat.reduceAdd]; exact rfl) rfl fun s0 hs0 => ?_
  refine zae ?_
  refine dwp_holes 2 (by simp only [holes, List.cons_append, List.nil_append]; exact rfl) ?_
  refine zad ?_
  refine walk_w rfl rfl rfl (op_boxi 0 rfl (ev1 rfl) rfl) (by simp only [upd, zaa, za]; exact rfl) ?_
  refine walk_w rfl rfl rfl (op_boxb 1 rfl (ev1 rfl) rfl) (by simp only [upd, zaa, za]; exact rfl) ?_
  refine zab rfl rfl rfl (zac (.inr rfl) (ev1 rfl)) ?_
  refine zaf ?_
  refine zae ?_
  refine zad ?_
  refine zab rfl rfl rfl (op_ldo rfl tb3 (ev1 rfl) rfl rfl) ?_
  refine zab rfl rfl rfl (op_mkf rfl en (ec (ev1 rfl) (ec (ev1 rfl) en))) ?_
  refine walk_w rfl rfl rfl (dop_call [1, 0] [] [] rfl (ev1 rfl) (ec (ev1 rfl) (ec (ev1 rfl) en)) rfl rfl (about_d r n hn) rfl rfl rfl rfl rfl rfl) (by simp only [upd, zaa, za]; exact rfl) ?_
  refine zab rfl rfl rfl (zac (.inr rfl) (ev1 rfl)) ?_
  refine zaf ?_
  refine dwp_ret ?_
  refine kend0 (rs1 rfl (rv_t rfl)) rfl ?_
  rfl
def Sp.sh (p : P2) (s : Sp) : Sp := ⟨s.y + p.y, s.f + p.x, s.t + p.x⟩
def swK (r : Bool) (n : Nat) (l : List P2) : List Sp := l.flatMap fun p => (brS r n).map (Sp.sh p)
def swA (r : Bool) (n : Nat) (l : List P2) : List Sp := normS (swK r n l)
theorem swK_add {r : Bool} {n : Nat} {l : List P2} {i : Nat} (hi : i < l.length) : swK r n (l.take (i + 1)) = swK r n (l.take i) ++ (brS r n).map (Sp.sh l[i]) := by
  unfold swK
  rw [List.take_succ_eq_append_getElem hi, List.flatMap_append]
  simp
theorem swK_len {r : Bool} {n : Nat} (hn : n ≤ 15) : ∀ l : List P2, (swK r n l).length ≤ l.length * 961
  | [] => Nat.le_refl _
  | p :: l => by
    have h1 := swK_len (r := r) hn l
    have h2 := brS_len (r := r) hn
    unfold swK at *
    rw [List.flatMap_cons, List.length_append, List.length_map, List.length_cons, Nat.succ_mul]
    omega
theorem swK_mem {r : Bool} {n : Nat} {l : List P2} {s : Sp} (hs : s ∈ swK r n l) : ∃ p ∈ l, ∃ b ∈ brS r n, s = b.sh p := by
  obtain ⟨p, hp, h⟩ := List.mem_flatMap.1 hs
  obtain ⟨b, hb, rfl⟩ := List.mem_map.1 h
  exact ⟨p, hp, b, hb, rfl⟩
theorem swK_valid (r : Bool) (n : Nat) (l : List P2) : ∀ s ∈ swK r n l, s.f ≤ s.t := fun s hs => by
  obtain ⟨p, hp, b, hb, rfl⟩ := swK_mem hs
  have := (brS_ok r n).1.1 b hb
  show b.f + p.x ≤ b.t + p.x
  omega
theorem drwL_mem {l : List P2} (h : drwL l = true) {p : P2} (hp : p ∈ l) : (-64 ≤ p.x ∧ p.x ≤ 127) ∧ -64 ≤ p.y ∧ p.y ≤ 127 := drwB_iff.1 (List.all_eq_true.1 h p hp)
theorem swK_bd {r : Bool} {n : Nat} (hn : n ≤ 15) {l : List P2} (hd : drwL l = true) : ∀ s ∈ swK r n l, ((-79 ≤ s.y ∧ s.y ≤ 142) ∧ -79 ≤ s.f ∧ s.t ≤ 142) ∧ bdS s := fun s hs => by
  have hv := swK_valid r n l s hs
  obtain ⟨p, hp, b, hb, rfl⟩ := swK_mem hs
  have h1 := brS_in b hb
  have h2 := drwL_mem hd hp
  unfold bdS
  unfold Sp.sh at *
  simp only at *
  omega
def swB (n : Int) (l : List P2) : Bool := (decide (0 ≤ n) && decide (n ≤ 15)) && drwL l
def swL (r : Bool) (n : Int) (l : List P2) : List Sp := if swB n l = true then swA r n.toNat l else []
def swE (n : Int) (l : List P2) : Int := if swB n l = true then 0 else 2
theorem sw_ok {r : Bool} {n : Int} {l : List P2} (h : swB n l = true) : swL r n l = swA r n.toNat l ∧ swE n l = 0 ∧ (0 ≤ n ∧ n ≤ 15) ∧ drwL l = true := by
  refine ⟨if_pos h, if_pos h, ?_⟩
  unfold swB at h
  simp only [Bool.and_eq_true, decide_eq_true_eq] at h
  exact h
theorem sw_no {r : Bool} {n : Int} {l : List P2} (h : swB n l = false) : swL r n l = [] ∧ swE n l = 2 := by unfold swL swE; rw [h]; exact ⟨rfl, rfl⟩
set_option maxRecDepth 4000 in
set_option maxHeartbeats 1000000 in
theorem sw1_d (p : P2) (s : Sp) (hp : (-64 ≤ p.x ∧ p.x ≤ 127) ∧ -64 ≤ p.y ∧ p.y ≤ 127) (hs : bdS s) : DFun Try.prog 47 [.val (.agg #[.int .i64 s.y, .int .i64 s.f, .int .i64 s.t]), .loc 0 0] [.flat 25 [.int .i64 p.x, .int .i64 p.y]] (.val (.agg (s3 (s.sh p)).toArray)) [.flat 25 [.int .i64 p.x, .int .i64 p.y]] := by
  have hb := hs
  unfold bdS at hb
  refine dcalls_go (N := 20) 1 (by kernel_rfl) Try.func47 rfl rfl rfl (by simp only [fr0, Nat.zero_add, Nat.reduceAdd]; exact rfl) rfl fun s0 hs0 => ?_
  refine zae ?_
  refine dwp_holes 2 (by simp only [holes, List.cons_append, List.nil_append]; exact rfl) ?_
  refine zad ?_
  refine walk_w rfl rfl rfl (op_boxa 1 rfl (ev1 rfl) rfl) (by simp only [upd, zaa, za]; exact rfl) ?_
  refine walk_w rfl rfl rfl (op_alloc 2 rfl zr40 rfl) (by simp only [upd, zaa, za]; exact rfl) ?_
  refine zaf ?_
  refine zae ?_
  refine zad ?_
  refine zab rfl rfl rfl (op_fa rfl fo40_0 (ev1 rfl)) ?_
  refine zab rfl rfl rfl (op_ldo rfl tb3 (ev1 rfl) rfl rfl) ?_
  refine zab rfl rfl rfl (op_fa rfl fo25_1 (ev1 rfl)) ?_
  refine zab rfl rfl rfl (op_ldo rfl tb3 (ev1 rfl) rfl rfl) ?_
  refine zab rfl rfl rfl (op_add' rfl (ev1 rfl) (ev1 rfl) (fun _ => IntWalk.i64_in _ (by omega))) ?_
  refine zab rfl rfl rfl (op_fa rfl fo40_1 (ev1 rfl)) ?_
  refine zab rfl rfl rfl (op_ldo rfl tb3 (ev1 rfl) rfl rfl) ?_
  refine zab rfl rfl rfl (op_fa rfl fo25_0 (ev1 rfl)) ?_
  refine zab rfl rfl rfl (op_ldo rfl tb3 (ev1 rfl) rfl rfl) ?_
  refine zab rfl rfl rfl (op_add' rfl (ev1 rfl) (ev1 rfl) (fun _ => IntWalk.i64_in _ (by omega))) ?_
  refine zab rfl rfl rfl (op_fa rfl fo40_2 (ev1 rfl)) ?_
  refine zab rfl rfl rfl (op_ldo rfl tb3 (ev1 rfl) rfl rfl) ?_
  refine zab rfl rfl rfl (op_fa rfl fo25_0 (ev1 rfl)) ?_
  refine zab rfl rfl rfl (op_ldo rfl tb3 (ev1 rfl) rfl rfl) ?_
  refine zab rfl rfl rfl (op_add' rfl (ev1 rfl) (ev1 rfl) (fun _ => IntWalk.i64_in _ (by omega))) ?_
  refine zab rfl rfl rfl (op_build (ps := [(0, .tmp 8), (1, .tmp 13), (2, .tmp 18)]) rfl fl40 zr40 (vc (ev1 rfl) (vc (ev1 rfl) (vc (ev1 rfl) vn))) rfl rfl) ?_
  refine walk_s rfl rfl (op_stwa rfl tb40 (ev1 rfl) (ev1 rfl) rfl rfl rfl rfl) (by simp only [upd, zaa, za]; exact rfl) ?_
  refine zaf ?_
  refine dwp_ret ?_
  refine kend [0] (rs1 rfl (rv_w tb40 rfl rfl rfl)) rfl rfl ?_ ⟨rfl, trivial⟩
  rfl
set_option maxRecDepth 4000 in
set_option maxHeartbeats 1000000 in
theorem each_o (l : List Sp) (p : P2) (hp : (-64 ≤ p.x ∧ p.x ≤ 127) ∧ -64 ≤ p.y ∧ p.y ≤ 127) (hb : ∀ s ∈ l, bdS s) (hn : l.length ≤ 1000) : DFun Try.prog 46 [.slf 3 (l).length ((l).flatMap s3), .fn (.func 47) [] [.loc 0 0]] [.flat 25 [.int .i64 p.x, .int .i64 p.y]] (.arr 1) [.flat 25 [.int .i64 p.x, .int .i64 p.y], .arr 40 3 (l.map (Sp.sh p)).length ((l.map (Sp.sh p)).flatMap s3)] := by
  refine dcalls_go (N := 25) 1 (by kernel_rfl) Try.func46 rfl rfl rfl (by simp only [fr0, Nat.zero_add, Nat.reduceAdd]; exact rfl) rfl fun s0 hs0 => ?_
  refine dwp_len (t := 0) rfl fun hl0 hL0 => ?_
  refine zae ?_
  refine zad ?_
  refine zab rfl rfl rfl (zac (.inr rfl) (ev1 rfl)) ?_
  refine zaf ?_
  refine zae ?_
  refine dwp_holes 1 (by simp only [holes, List.cons_append, List.nil_append]; exact rfl) ?_
  refine zad ?_
  refine zab rfl rfl rfl (zac (.inl rfl) (ev1 rfl)) ?_
  refine zab rfl rfl rfl (op_len rfl sl32 (ev1 rfl)) ?_
  refine walk_w rfl rfl rfl (op_mk0 1 (l.length) rfl sl32 zr40 (ev1 rfl) (ev1 rfl) (fun _ => rfl) (fun _ => rfl) rfl (fun _ => by omega)) (by simp only [upd, zaa, za]; exact rfl) ?_
  refine zab rfl rfl rfl (zac (.inr rfl) (ev1 rfl)) ?_
  refine zaf ?_
  refine zae ?_
  refine zae ?_
  refine zad ?_
  refine zab rfl rfl rfl (zac (.inl rfl) (ev1 rfl)) ?_
  refine zab rfl rfl rfl (op_len rfl sl32 (ev1 rfl)) ?_
  refine zab rfl rfl rfl (zac (.inl rfl) (ev1 rfl)) ?_
  refine zaf ?_
  refine dwp_block ?_
  refine dwp_loopS ⟨hs0, rfl⟩ (α := Nat) (fun i => [(13, .val (.int .i64 (i : Int)))]) [(1, _), (5, _), (11, _), (12, _)] (fun i => [(1, .arr 40 3 ((l.take i).map (Sp.sh p)).length (((l.take i).map (Sp.sh p)).flatMap s3))]) [_, .hole] (fun i => i ≤ l.length) (fun i => l.length - i) 0 [0, 1] (Nat.zero_le _) rfl ⟨rfl, rfl, rfl, rfl, trivial⟩ ⟨rfl, trivial⟩ ⟨rfl, rfl, trivial⟩ ?_
  intro i hx
  simp only [upd, zaa, za, List.cons_append, List.nil_append]
  have hi0 := hx
  have hml : ((l.take i).map (Sp.sh p)).length ≤ 1000 := by rw [List.length_map, List.length_take]; omega
  refine zae ?_
  refine zad ?_
  refine zab rfl rfl rfl (op_lss rfl (ev1 rfl) (ev1 rfl)) ?_
  refine zaf ?_
  refine zae ?_
  refine dwp_cond rfl (fun c1 => ?_) (fun c1 => ?_)
  · try simp only [decide_eq_true_eq, decide_eq_false_iff_not, beq_iff_eq, bne_iff_ne, beq_eq_false_iff_ne, bne_eq_false_iff_eq, Bool.not_eq_true', Bool.not_eq_false', Bool.and_eq_true, Bool.or_eq_true, Bool.or_eq_false_iff, ne_eq, Decidable.not_not, Int.not_lt, Int.not_le] at c1
    refine dwp_skip ?_
    refine zae ?_
    refine dwp_block ?_
    refine zae ?_
    have hi : i < l.length := by omega
    refine dwp_holes 1 (by simp only [holes, List.cons_append, List.nil_append]; exact rfl) ?_
    refine zad ?_
    refine zab rfl rfl rfl (op_ixsr (j := i) rfl sl32 (ev1 rfl) (ev1 rfl) (fun _ => rfl) (by decide) (by omega) (by omega)) ?_
    refine zab rfl rfl rfl (op_ldwd rfl tb40 (ev1 rfl) rfl) ?_
    refine walk_w rfl rfl rfl (op_alloc 2 rfl zr40 rfl) (by simp only [upd, zaa, za]; exact rfl) ?_
    refine walk_s rfl rfl (op_stwa rfl tb40 (ev1 rfl) (ev1 rfl) rfl rfl rfl rfl) (by simp only [upd, zaa, za]; exact rfl) ?_
    refine zaf ?_
    refine dwp_holes 1 (by simp only [holes, List.cons_append, List.nil_append]; exact rfl) ?_
    refine zad ?_
    refine zab rfl rfl rfl (zac (.inl rfl) (ev1 rfl)) ?_
    refine zab rfl rfl rfl (zac (.inl rfl) (ev1 rfl)) ?_
    refine zab rfl rfl rfl (op_ldw rfl tb40 (ev1 rfl) rfl rfl) ?_
    refine walk_w rfl rfl rfl (dop_call [0] [] [] rfl (ev1 rfl) (ec (ev1 rfl) en) rfl rfl (sw1_d p l[i] hp (hb _ (List.getElem_mem hi))) rfl rfl rfl rfl rfl rfl) (by simp only [upd, zaa, za]; exact rfl) ?_
    refine zab rfl rfl rfl (op_bs (ps := [(0, .tmp 20)]) rfl sl32 zr40 rfl (vc (ev1 rfl) vn) rfl (by decide) (by decide)) ?_
    refine walk_w rfl rfl rfl (op_app (j := 3) rfl sl32 zr40 rfl (ev1 rfl) (ev1 rfl) src_slf rfl rfl (fun _ => rfl) (fun _ => ⟨by omega, by omega⟩)) (by simp only [upd, zaa, za]; exact rfl) ?_
    refine zab rfl rfl rfl (zac (.inr rfl) (ev1 rfl)) ?_
    refine zaf ?_
    refine zad ?_
    refine zab rfl rfl rfl (op_add' rfl (ev1 rfl) (ev1 rfl) (fun _ => IntWalk.i64_in _ (by omega))) ?_
    refine zab rfl rfl rfl (zac (.inl rfl) (ev1 rfl)) ?_
    refine zaf ?_
    refine ⟨i + 1, [0, 3], by omega, by simp only []; omega, rfl, ⟨rfl, rfl, rfl, rfl, rfl, trivial⟩, ⟨rfl, (by rw [List.take_succ_eq_append_getElem hi, List.map_append, List.length_append, List.flatMap_append]; rfl), trivial⟩⟩
  · try simp only [decide_eq_true_eq, decide_eq_false_iff_not, beq_iff_eq, bne_iff_ne, beq_eq_false_iff_ne, bne_eq_false_iff_eq, Bool.not_eq_true', Bool.not_eq_false', Bool.and_eq_true, Bool.or_eq_true, Bool.or_eq_false_iff, ne_eq, Decidable.not_not, Int.not_lt, Int.not_le] at c1
    refine dwp_exit ?_
    refine zae ?_
    refine zad ?_
    refine zab rfl rfl rfl (zac (.inl rfl) (ev1 rfl)) ?_
    refine zab rfl rfl rfl (zac (.inr rfl) (ev1 rfl)) ?_
    refine zaf ?_
    refine dwp_ret ?_
    refine kend [0, 1] (rs1 rfl (rv_t rfl)) rfl rfl ?_ ⟨?_, ?_, trivial⟩
    rfl
    all_goals first | exact rfl | exact (by rw [take_all (by omega)]; rfl)
set_option maxRecDepth 4000 in
set_option maxHeartbeats 1000000 in
theorem sweep_no (l : List P2) (n : Int) (r : Bool) (h : swB n l = false) : DFun Try.prog 22 [.slf 2 (l).length ((l).flatMap p2), .val (.int .i64 n), .val (.bool r)] [] (.tup [.val (.slice none 0 0), .val (.int .i64 2)]) [] := by
  refine dcalls_go (N := 42) 0 (by kernel_rfl) Try.func22 rfl rfl rfl (by simp only [fr0, Nat.zero_add, Nat.reduceAdd]; exact rfl) rfl fun s0 hs0 => ?_
  refine dwp_len (t := 0) rfl fun hl0 hL0 => ?_
  refine zae ?_
  refine zad ?_
  refine zab rfl rfl rfl (zac (.inr rfl) (ev1 rfl)) ?_
  refine zab rfl rfl rfl (zac (.inr rfl) (ev1 rfl)) ?_
  refine zaf ?_
  refine zae ?_
  refine zae ?_
  refine zad ?_
  refine zab rfl rfl rfl (zac (.inl rfl) (ev1 rfl)) ?_
  refine zab rfl rfl rfl (dop_call [] [] [] rfl (ev1 rfl) (ec (ev1 rfl) en) rfl rfl (isSize_d _) rfl rfl rfl rfl rfl rfl) ?_
  refine zab rfl rfl rfl (op_not rfl (ev1 rfl)) ?_
  refine zab rfl rfl rfl (zac (.inl rfl) (ev1 rfl)) ?_
  refine walk_gr (gd_f rfl rfl rfl) rfl rfl rfl (zac (.inl rfl) (ev1 rfl)) ?_
  refine walk_gr (gd_f rfl rfl rfl) rfl rfl rfl (dop_call [] [] [] rfl (ev1 rfl) (ec (ev2 rfl) en) rfl rfl (undrawn_d l) rfl rfl rfl rfl rfl rfl) ?_
  refine zab rfl rfl rfl (op_or rfl (ev1 rfl) (ev3 rfl id)) ?_
  refine zaf ?_
  refine dwp_if_t rfl (by unfold swB at h; cases h1 : drwL l <;> simp_all <;> omega) ?_
  refine zae ?_
  refine zad ?_
  refine zab rfl rfl rfl (zac (.inr rfl) (ev1 rfl)) ?_
  refine zab rfl rfl rfl (zac (.inr rfl) (ev1 rfl)) ?_
  refine zaf ?_
  refine dwp_ret ?_
  refine kend0 (rs2 rfl (rv_t rfl) (rv_t rfl)) rfl ?_
  rfl
set_option maxRecDepth 4000 in
set_option maxHeartbeats 1000000 in
theorem sweep_o (l : List P2) (n : Nat) (r : Bool) (hn : n ≤ 15) (hd : drwL l = true) (hl : l.length ≤ 1000) : DFun Try.prog 22 [.slf 2 (l).length ((l).flatMap p2), .val (.int .i64 (n : Int)), .val (.bool r)] [] (.tup [.slf 3 ((swA r n l)).length (((swA r n l)).flatMap s3), .val (.int .i64 0)]) [] := by
  have hbl := brS_len (r := r) hn
  have hbm : (brS r n).length * l.length ≤ 961 * 1000 := Nat.mul_le_mul hbl hl
  have hbz : ((brS r n).length : Int) * (l.length : Int) = (((brS r n).length * l.length : Nat) : Int) := by push_cast; rfl
  have hbd : ∀ s ∈ brS r n, bdS s := fun s hs => by
    have h1 := brS_in s hs
    have h2 := (brS_ok r n).1.1 s hs
    unfold bdS
    omega
  refine dcalls_go (N := 42) 0 (by kernel_rfl) Try.func22 rfl rfl rfl (by simp only [fr0, Nat.zero_add, Nat.reduceAdd]; exact rfl) rfl fun s0 hs0 => ?_
  refine dwp_len (t := 0) rfl fun hl0 hL0 => ?_
  refine zae ?_
  refine zad ?_
  refine zab rfl rfl rfl (zac (.inr rfl) (ev1 rfl)) ?_
  refine zab rfl rfl rfl (zac (.inr rfl) (ev1 rfl)) ?_
  refine zaf ?_
  refine zae ?_
  refine zae ?_
  refine zad ?_
  refine zab rfl rfl rfl (zac (.inl rfl) (ev1 rfl)) ?_
  refine zab rfl rfl rfl (dop_call [] [] [] rfl (ev1 rfl) (ec (ev1 rfl) en) rfl rfl (isSize_d _) rfl rfl rfl rfl rfl rfl) ?_
  refine zab rfl rfl rfl (op_not rfl (ev1 rfl)) ?_
  refine zab rfl rfl rfl (zac (.inl rfl) (ev1 rfl)) ?_
  refine walk_gr (gd_f rfl rfl rfl) rfl rfl rfl (zac (.inl rfl) (ev1 rfl)) ?_
  refine walk_gr (gd_f rfl rfl rfl) rfl rfl rfl (dop_call [] [] [] rfl (ev1 rfl) (ec (ev2 rfl) en) rfl rfl (undrawn_d l) rfl rfl rfl rfl rfl rfl) ?_
  refine zab rfl rfl rfl (op_or rfl (ev1 rfl) (ev3 rfl id)) ?_
  refine zaf ?_
  refine dwp_if_f rfl (by rw [hd]; simp; omega) ?_
  refine dwp_skip ?_
  refine zae ?_
  refine zad ?_
  refine zab rfl rfl rfl (zac (.inl rfl) (ev1 rfl)) ?_
  refine zab rfl rfl rfl (zac (.inl rfl) (ev1 rfl)) ?_
  refine zab rfl rfl rfl (dop_call [] [] [] rfl (ev1 rfl) (ec (ev1 rfl) (ec (ev1 rfl) en)) rfl rfl (brush_d r n hn) rfl rfl rfl rfl rfl rfl) ?_
  refine zab rfl rfl rfl (zac (.inr rfl) (ev1 rfl)) ?_
  refine zaf ?_
  refine zae ?_
  refine dwp_holes 1 (by simp only [holes, List.cons_append, List.nil_append]; exact rfl) ?_
  refine zad ?_
  refine zab rfl rfl rfl (zac (.inl rfl) (ev1 rfl)) ?_
  refine zab rfl rfl rfl (op_len rfl sl32 (ev1 rfl)) ?_
  refine zab rfl rfl rfl (zac (.inl rfl) (ev1 rfl)) ?_
  refine zab rfl rfl rfl (op_len rfl sl28 (ev1 rfl)) ?_
  refine zab rfl rfl rfl (op_mul' rfl (ev1 rfl) (ev1 rfl) (fun _ => IntWalk.i64_in _ (by omega))) ?_
  refine walk_w rfl rfl rfl (op_mk0 0 ((brS r n).length * l.length) rfl sl32 zr40 (ev1 rfl) (ev1 rfl) (fun _ => rfl) (fun _ => by rw [hbz]) rfl (fun _ => by omega)) (by simp only [upd, zaa, za]; exact rfl) ?_
  refine zab rfl rfl rfl (zac (.inr rfl) (ev1 rfl)) ?_
  refine zaf ?_
  refine zae ?_
  refine zae ?_
  refine zad ?_
  refine zab rfl rfl rfl (zac (.inl rfl) (ev1 rfl)) ?_
  refine zab rfl rfl rfl (op_len rfl sl28 (ev1 rfl)) ?_
  refine zab rfl rfl rfl (zac (.inl rfl) (ev1 rfl)) ?_
  refine zaf ?_
  refine dwp_block ?_
  refine dwp_loopS ⟨hs0, rfl⟩ (α := Nat) (fun i => [(30, .val (.int .i64 (i : Int)))]) [(8, _), (9, _), (28, _), (29, _)] (fun i => [(0, .arr 40 3 (swK r n (l.take i)).length ((swK r n (l.take i)).flatMap s3))]) [.hole] (fun i => i ≤ l.length) (fun i => l.length - i) 0 [0] (Nat.zero_le _) rfl ⟨rfl, rfl, rfl, rfl, trivial⟩ ⟨rfl, trivial⟩ ⟨rfl, trivial⟩ ?_
  intro i hx
  simp only [upd, zaa, za, List.cons_append, List.nil_append]
  have hi0 := hx
  have hsl := swK_len (r := r) hn (l.take i)
  rw [List.length_take] at hsl
  have hs2 : min i l.length * 961 ≤ 1000 * 961 := Nat.mul_le_mul_right _ (by omega)
  refine zae ?_
  refine zad ?_
  refine zab rfl rfl rfl (op_lss rfl (ev1 rfl) (ev1 rfl)) ?_
  refine zaf ?_
  refine zae ?_
  refine dwp_cond rfl (fun c2 => ?_) (fun c2 => ?_)
  · try simp only [decide_eq_true_eq, decide_eq_false_iff_not, beq_iff_eq, bne_iff_ne, beq_eq_false_iff_ne, bne_eq_false_iff_eq, Bool.not_eq_true', Bool.not_eq_false', Bool.and_eq_true, Bool.or_eq_true, Bool.or_eq_false_iff, ne_eq, Decidable.not_not, Int.not_lt, Int.not_le] at c2
    refine dwp_skip ?_
    refine zae ?_
    refine dwp_block ?_
    refine zae ?_
    have hi : i < l.length := by omega
    have hpd := drwL_mem hd (List.getElem_mem hi)
    have hml : ((brS r n).map (Sp.sh l[i])).length ≤ 961 := by rw [List.length_map]; exact hbl
    refine dwp_holes 1 (by simp only [holes, List.cons_append, List.nil_append]; exact rfl) ?_
    refine zad ?_
    refine zab rfl rfl rfl (op_ixsr (j := i) rfl sl28 (ev1 rfl) (ev1 rfl) (fun _ => rfl) (by decide) (by omega) (by omega)) ?_
    refine zab rfl rfl rfl (op_ldwd rfl tb25 (ev1 rfl) rfl) ?_
    refine walk_w rfl rfl rfl (op_alloc 1 rfl zr25 rfl) (by simp only [upd, zaa, za]; exact rfl) ?_
    refine walk_s rfl rfl (op_stwa rfl tb25 (ev1 rfl) (ev1 rfl) rfl rfl rfl rfl) (by simp only [upd, zaa, za]; exact rfl) ?_
    refine zaf ?_
    refine dwp_holes 2 (by simp only [holes, List.cons_append, List.nil_append]; exact rfl) ?_
    refine zad ?_
    refine zab rfl rfl rfl (zac (.inl rfl) (ev1 rfl)) ?_
    refine zab rfl rfl rfl (zac (.inl rfl) (ev1 rfl)) ?_
    refine zab rfl rfl rfl (op_mkf rfl en (ec (ev1 rfl) en)) ?_
    refine walk_w rfl rfl rfl (dop_call [1] [] [2] rfl (ev1 rfl) (ec (ev1 rfl) (ec (ev1 rfl) en)) rfl rfl (each_o _ l[i] hpd hbd (by omega)) rfl rfl rfl rfl rfl rfl) (by simp only [upd, zaa, za]; exact rfl) ?_
    refine walk_w rfl rfl rfl (op_app (j := 3) rfl sl32 zr40 rfl (ev1 rfl) (ev1 rfl) (src_arr rfl) rfl rfl (fun _ => oc3 _) (fun _ => ⟨by omega, by omega⟩)) (by simp only [upd, zaa, za]; exact rfl) ?_
    refine zab rfl rfl rfl (zac (.inr rfl) (ev1 rfl)) ?_
    refine zaf ?_
    refine zad ?_
    refine zab rfl rfl rfl (op_add' rfl (ev1 rfl) (ev1 rfl) (fun _ => IntWalk.i64_in _ (by omega))) ?_
    refine zab rfl rfl rfl (zac (.inl rfl) (ev1 rfl)) ?_
    refine zaf ?_
    refine ⟨i + 1, [3], by omega, by simp only []; omega, rfl, ⟨rfl, rfl, rfl, rfl, rfl, trivial⟩, ⟨(by rw [swK_add hi, List.length_append, List.flatMap_append]; rfl), trivial⟩⟩
  · try simp only [decide_eq_true_eq, decide_eq_false_iff_not, beq_iff_eq, bne_iff_ne, beq_eq_false_iff_ne, bne_eq_false_iff_eq, Bool.not_eq_true', Bool.not_eq_false', Bool.and_eq_true, Bool.or_eq_true, Bool.or_eq_false_iff, ne_eq, Decidable.not_not, Int.not_lt, Int.not_le] at c2
    refine dwp_exit ?_
    refine zae ?_
    refine dwp_giveA 9 rfl rfl (by simp only [zaa, za]; exact rfl) ?_
    rw [show swK r n (l.take i) = swK r n l by rw [take_all (by omega)]] at hsl ⊢
    refine zad ?_
    refine zab rfl rfl rfl (zac (.inl rfl) (ev1 rfl)) ?_
    refine zab rfl rfl rfl (dop_call [] [] [] rfl (ev1 rfl) (ec (ev1 rfl) en) rfl rfl (gath_d _ (swK_valid r n l) (fun s hs => (swK_bd hn hd s hs).2) (by omega)) rfl rfl rfl rfl rfl rfl) ?_
    refine zab rfl rfl rfl (zac (.inr rfl) (ev1 rfl)) ?_
    refine zab rfl rfl rfl (zac (.inr rfl) (ev1 rfl)) ?_
    refine zaf ?_
    refine dwp_ret ?_
    refine kend0 (rs2 rfl (rv_t rfl) (rv_t rfl)) rfl ?_
    rfl
theorem sweep_d (l : List P2) (n : Int) (r : Bool) (hl : l.length ≤ 1000) : DFun Try.prog 22 [.slf 2 (l).length ((l).flatMap p2), .val (.int .i64 n), .val (.bool r)] [] (.tup [.slf 3 ((swL r n l)).length (((swL r n l)).flatMap s3), .val (.int .i64 (swE n l))]) [] := by
  cases h : swB n l with
  | true =>
    obtain ⟨e1, e2, e3, e4⟩ := sw_ok (r := r) h
    rw [e1, e2]
    have := sweep_o l n.toNat r (by omega) e4 hl
    rwa [show ((n.toNat : Nat) : Int) = n by omega] at this
  | false =>
    obtain ⟨e1, e2⟩ := sw_no (r := r) h
    rw [e1, e2]
    exact (sweep_no l n r h).wk (Wk.tup (WkL.cons (Wk.slf0 3) (WkL.cons (Wk.refl _) WkL.nil)))
set_option maxRecDepth 4000 in
set_option maxHeartbeats 1000000 in
theorem disc_d (p : P2) (n : Int) : DFun Try.prog 17 [.val (.agg #[.int .i64 p.x, .int .i64 p.y]), .val (.int .i64 n)] [] (.tup [.slf 3 ((swL true n [p])).length (((swL true n [p])).flatMap s3), .val (.int .i64 (swE n [p]))]) [] := by
  refine dcalls_go (N := 12) 0 (by kernel_rfl) Try.func17 rfl rfl rfl (by simp only [fr0, Nat.zero_add, Nat.reduceAdd]; exact rfl) rfl fun s0 hs0 => ?_
  refine zae ?_
  refine dwp_holes 1 (by simp only [holes, List.cons_append, List.nil_append]; exact rfl) ?_
  refine zad ?_
  refine walk_w rfl rfl rfl (op_boxa 0 rfl (ev1 rfl) rfl) (by simp only [upd, zaa, za]; exact rfl) ?_
  refine zab rfl rfl rfl (zac (.inr rfl) (ev1 rfl)) ?_
  refine zab rfl rfl rfl (zac (.inr rfl) (ev1 rfl)) ?_
  refine zaf ?_
  refine zae ?_
  refine zad ?_
  refine zab rfl rfl rfl (op_ldw rfl tb25 (ev1 rfl) rfl rfl) ?_
  refine zab rfl rfl rfl (op_bs (ps := [(0, .tmp 6)]) rfl sl28 zr25 rfl (vc (ev1 rfl) vn) rfl (by decide) (by decide)) ?_
  refine zab rfl rfl rfl (zac (.inl rfl) (ev1 rfl)) ?_
  refine zab rfl rfl rfl (dop_call [] [] [] rfl (ev1 rfl) (ec (ev1 rfl) (ec (ev1 rfl) (ec (ev1 rfl) en))) rfl rfl (sweep_d [p] n true (Nat.le_of_ble_eq_true rfl)) rfl rfl rfl rfl rfl rfl) ?_
  refine zab rfl rfl rfl (op_ext rfl (ev1 rfl) rfl) ?_
  refine zab rfl rfl rfl (op_ext rfl (ev1 rfl) rfl) ?_
  refine zab rfl rfl rfl (zac (.inr rfl) (ev1 rfl)) ?_
  refine zab rfl rfl rfl (zac (.inr rfl) (ev1 rfl)) ?_
  refine zaf ?_
  refine dwp_ret ?_
  refine kend0 (rs2 rfl (rv_t rfl) (rv_t rfl)) rfl ?_
  rfl
end Go.Proofs.Ytoffbkjhoelghaa
namespace Go.Proofs.Ytoffbkjhoelghaa
set_option maxRecDepth 4000
set_option linter.unusedVariables false
set_option linter.unusedSimpArgs false
open Go.RowKit
theorem eq40 {a b : Sp} : eqT Try.prog 9 40 (s3 a) (s3 b) = some (decide (a = b)) := by
  have h : ((a.y == b.y) && ((a.f == b.f) && ((a.t == b.t) && true))) = decide (a = b) := by
    obtain ⟨x, y, z⟩ := a
    obtain ⟨x', y', z'⟩ := b
    rw [Bool.eq_iff_iff]
    simp
  rw [← h]
  exact (show eqT Try.prog 9 40 [.int .i64 a.y, .int .i64 a.f, .int .i64 a.t] [.int .i64 b.y, .int .i64 b.f, .int .i64 b.t] = some ((a.y == b.y) && ((a.f == b.f) && ((a.t == b.t) && true))) by kernel_rfl)
theorem gd40 : Try.prog.eqGuardType Try.prog.depth 40 = false := by kernel_rfl
set_option maxRecDepth 4000 in
set_option maxHeartbeats 1000000 in
theorem equalS (l r : List Sp) : DFun Try.prog 16 [.slf 3 (l).length ((l).flatMap s3), .slf 3 (r).length ((r).flatMap s3)] [] (.val (.bool (decide (l = r)))) [] := by
  refine dcalls_go (N := 26) 0 (by kernel_rfl) Try.func16 rfl rfl rfl (by simp only [fr0, Nat.zero_add, Nat.reduceAdd]; exact rfl) rfl fun s0 hs0 => ?_
  refine dwp_len (t := 0) rfl fun hl0 hL0 => ?_
  refine dwp_len (t := 1) rfl fun hl1 hL1 => ?_
  refine zae ?_
  refine zad ?_
  refine zab rfl rfl rfl (zac (.inr rfl) (ev1 rfl)) ?_
  refine zaf ?_
  refine zae ?_
  refine zae ?_
  refine zad ?_
  refine zab rfl rfl rfl (zac (.inl rfl) (ev1 rfl)) ?_
  refine zab rfl rfl rfl (op_len rfl sl32 (ev1 rfl)) ?_
  refine zab rfl rfl rfl (zac (.inl rfl) (ev1 rfl)) ?_
  refine zab rfl rfl rfl (op_len rfl sl32 (ev1 rfl)) ?_
  refine zab rfl rfl rfl (op_neq rfl (ev1 rfl) (ev1 rfl)) ?_
  refine zaf ?_
  refine dwp_cond rfl (fun c1 => ?_) (fun c1 => ?_)
  · try simp only [decide_eq_true_eq, decide_eq_false_iff_not, beq_iff_eq, bne_iff_ne, beq_eq_false_iff_ne, bne_eq_false_iff_eq, Bool.not_eq_true', Bool.not_eq_false', Bool.and_eq_true, Bool.or_eq_true, Bool.or_eq_false_iff, ne_eq, Decidable.not_not, Int.not_lt, Int.not_le] at c1
    refine zae ?_
    refine zad ?_
    refine zab rfl rfl rfl (zac (.inr rfl) (ev1 rfl)) ?_
    refine zaf ?_
    refine dwp_ret ?_
    refine kend0 (rs1 rfl (rv_t rfl)) rfl ?_
    have hne : l ≠ r := fun e => by subst e; exact c1 rfl
    rw [decide_eq_false hne]
  · try simp only [decide_eq_true_eq, decide_eq_false_iff_not, beq_iff_eq, bne_iff_ne, beq_eq_false_iff_ne, bne_eq_false_iff_eq, Bool.not_eq_true', Bool.not_eq_false', Bool.and_eq_true, Bool.or_eq_true, Bool.or_eq_false_iff, ne_eq, Decidable.not_not, Int.not_lt, Int.not_le] at c1
    have hlen : l.length = r.length := by omega
    refine dwp_skip ?_
    refine zae ?_
    refine zae ?_
    refine zad ?_
    refine zab rfl rfl rfl (zac (.inl rfl) (ev1 rfl)) ?_
    refine zab rfl rfl rfl (op_len rfl sl32 (ev1 rfl)) ?_
    refine zab rfl rfl rfl (zac (.inl rfl) (ev1 rfl)) ?_
    refine zaf ?_
    refine dwp_block ?_
    refine dwp_loopS ⟨hs0, rfl⟩ (α := Nat) (fun k => [(13, .val (.int .i64 (k : Int)))]) [(0, _), (1, _), (12, _)] (fun k => []) [] (fun k => k ≤ l.length ∧ l.take k = r.take k) (fun k => l.length - k) 0 [] (by simp) rfl ⟨rfl, rfl, rfl, trivial⟩ ⟨rfl, trivial⟩ trivial ?_
    intro k hx
    simp only [upd, zaa, za, List.cons_append, List.nil_append]
    obtain ⟨hk, he⟩ := hx
    refine zae ?_
    refine zad ?_
    refine zab rfl rfl rfl (op_lss rfl (ev1 rfl) (ev1 rfl)) ?_
    refine zaf ?_
    refine zae ?_
    refine dwp_cond rfl (fun c2 => ?_) (fun c2 => ?_)
    · try simp only [decide_eq_true_eq, decide_eq_false_iff_not, beq_iff_eq, bne_iff_ne, beq_eq_false_iff_ne, bne_eq_false_iff_eq, Bool.not_eq_true', Bool.not_eq_false', Bool.and_eq_true, Bool.or_eq_true, Bool.or_eq_false_iff, ne_eq, Decidable.not_not, Int.not_lt, Int.not_le] at c2
      refine dwp_skip ?_
      refine zae ?_
      refine dwp_block ?_
      refine zae ?_
      refine zad ?_
      refine zab rfl rfl rfl (zac (.inl rfl) (ev1 rfl)) ?_
      refine zab rfl rfl rfl (zac (.inr rfl) (ev1 rfl)) ?_
      refine zaf ?_
      refine zae ?_
      refine dwp_draw [([], []), ([], []), ([], []), ([], []), ([], []), ([], []), ([], []), ([], []), ([], [])] mixed (by kernel_rfl) ?_
      refine lex_r rfl rfl (zac (.inl rfl) (ev1 rfl)) ?_
      refine lex_r rfl rfl (zac (.inl rfl) (ev1 rfl)) ?_
      refine lex_r rfl rfl (op_ixsr (j := k) rfl sl32 (ev1 rfl) (ev1 rfl) (fun _ => rfl) (by decide) (by omega) (by omega)) ?_
      refine lex_r rfl rfl (op_ldwd rfl tb40 (ev1 rfl) rfl) ?_
      refine lex_r rfl rfl (zac (.inl rfl) (ev1 rfl)) ?_
      refine lex_r rfl rfl (zac (.inl rfl) (ev1 rfl)) ?_
      refine lex_r rfl rfl (op_ixsr (j := k) rfl sl32 (ev1 rfl) (ev1 rfl) (fun _ => rfl) (by decide) (by omega) (by omega)) ?_
      refine lex_r rfl rfl (op_ldwd rfl tb40 (ev1 rfl) rfl) ?_
      refine lex_r rfl rfl (op_ner eq40 rfl gd40 tb40 (ev1 rfl) (ev1 rfl)) ?_
      refine lex_nil ?_
      refine dwp_cond rfl (fun c2 => ?_) (fun c2 => ?_)
      · have c3 : l[k] ≠ r[k] := by simpa using c2
        refine zae ?_
        refine zad ?_
        refine zab rfl rfl rfl (zac (.inr rfl) (ev1 rfl)) ?_
        refine zaf ?_
        refine dwp_ret ?_
        refine kend0 (rs1 rfl (rv_t rfl)) rfl ?_
        have hne : l ≠ r := fun e => by subst e; exact c3 rfl
        rw [decide_eq_false hne]
      · have c3 : l[k] = r[k] := by simpa using c2
        refine dwp_skip ?_
        refine zad ?_
        refine zab rfl rfl rfl (op_add' rfl (ev1 rfl) (ev1 rfl) (fun _ => IntWalk.i64_in _ (by omega))) ?_
        refine zab rfl rfl rfl (zac (.inl rfl) (ev1 rfl)) ?_
        refine zaf ?_
        refine ⟨k + 1, [], ⟨by omega, by rw [List.take_succ_eq_append_getElem (by omega), List.take_succ_eq_append_getElem (by omega), he, c3]⟩, by simp only []; omega, rfl, ⟨rfl, rfl, rfl, rfl, trivial⟩, trivial⟩
    · try simp only [decide_eq_true_eq, decide_eq_false_iff_not, beq_iff_eq, bne_iff_ne, beq_eq_false_iff_ne, bne_eq_false_iff_eq, Bool.not_eq_true', Bool.not_eq_false', Bool.and_eq_true, Bool.or_eq_true, Bool.or_eq_false_iff, ne_eq, Decidable.not_not, Int.not_lt, Int.not_le] at c2
      refine dwp_exit ?_
      refine zae ?_
      refine zad ?_
      refine zab rfl rfl rfl (zac (.inr rfl) (ev1 rfl)) ?_
      refine zaf ?_
      refine dwp_ret ?_
      refine kend0 (rs1 rfl (rv_t rfl)) rfl ?_
      have e : l = r := by
        have h := he
        rw [List.take_of_length_le (by omega), List.take_of_length_le (by omega)] at h
        exact h
      rw [decide_eq_true e]
set_option maxRecDepth 4000 in
set_option maxHeartbeats 1000000 in
theorem equalPt (l r : List P2) : DFun Try.prog 15 [.slf 2 (l).length ((l).flatMap p2), .slf 2 (r).length ((r).flatMap p2)] [] (.val (.bool (decide (l = r)))) [] := by
  refine dcalls_go (N := 26) 0 (by kernel_rfl) Try.func15 rfl rfl rfl (by simp only [fr0, Nat.zero_add, Nat.reduceAdd]; exact rfl) rfl fun s0 hs0 => ?_
  refine dwp_len (t := 0) rfl fun hl0 hL0 => ?_
  refine dwp_len (t := 1) rfl fun hl1 hL1 => ?_
  refine zae ?_
  refine zad ?_
  refine zab rfl rfl rfl (zac (.inr rfl) (ev1 rfl)) ?_
  refine zaf ?_
  refine zae ?_
  refine zae ?_
  refine zad ?_
  refine zab rfl rfl rfl (zac (.inl rfl) (ev1 rfl)) ?_
  refine zab rfl rfl rfl (op_len rfl sl28 (ev1 rfl)) ?_
  refine zab rfl rfl rfl (zac (.inl rfl) (ev1 rfl)) ?_
  refine zab rfl rfl rfl (op_len rfl sl28 (ev1 rfl)) ?_
  refine zab rfl rfl rfl (op_neq rfl (ev1 rfl) (ev1 rfl)) ?_
  refine zaf ?_
  refine dwp_cond rfl (fun c1 => ?_) (fun c1 => ?_)
  · try simp only [decide_eq_true_eq, decide_eq_false_iff_not, beq_iff_eq, bne_iff_ne, beq_eq_false_iff_ne, bne_eq_false_iff_eq, Bool.not_eq_true', Bool.not_eq_false', Bool.and_eq_true, Bool.or_eq_true, Bool.or_eq_false_iff, ne_eq, Decidable.not_not, Int.not_lt, Int.not_le] at c1
    refine zae ?_
    refine zad ?_
    refine zab rfl rfl rfl (zac (.inr rfl) (ev1 rfl)) ?_
    refine zaf ?_
    refine dwp_ret ?_
    refine kend0 (rs1 rfl (rv_t rfl)) rfl ?_
    have hne : l ≠ r := fun e => by subst e; exact c1 rfl
    rw [decide_eq_false hne]
  · try simp only [decide_eq_true_eq, decide_eq_false_iff_not, beq_iff_eq, bne_iff_ne, beq_eq_false_iff_ne, bne_eq_false_iff_eq, Bool.not_eq_true', Bool.not_eq_false', Bool.and_eq_true, Bool.or_eq_true, Bool.or_eq_false_iff, ne_eq, Decidable.not_not, Int.not_lt, Int.not_le] at c1
    have hlen : l.length = r.length := by omega
    refine dwp_skip ?_
    refine zae ?_
    refine zae ?_
    refine zad ?_
    refine zab rfl rfl rfl (zac (.inl rfl) (ev1 rfl)) ?_
    refine zab rfl rfl rfl (op_len rfl sl28 (ev1 rfl)) ?_
    refine zab rfl rfl rfl (zac (.inl rfl) (ev1 rfl)) ?_
    refine zaf ?_
    refine dwp_block ?_
    refine dwp_loopS ⟨hs0, rfl⟩ (α := Nat) (fun k => [(13, .val (.int .i64 (k : Int)))]) [(0, _), (1, _), (12, _)] (fun k => []) [] (fun k => k ≤ l.length ∧ l.take k = r.take k) (fun k => l.length - k) 0 [] (by simp) rfl ⟨rfl, rfl, rfl, trivial⟩ ⟨rfl, trivial⟩ trivial ?_
    intro k hx
    simp only [upd, zaa, za, List.cons_append, List.nil_append]
    obtain ⟨hk, he⟩ := hx
    refine zae ?_
    refine zad ?_
    refine zab rfl rfl rfl (op_lss rfl (ev1 rfl) (ev1 rfl)) ?_
    refine zaf ?_
    refine zae ?_
    refine dwp_cond rfl (fun c2 => ?_) (fun c2 => ?_)
    · try simp only [decide_eq_true_eq, decide_eq_false_iff_not, beq_iff_eq, bne_iff_ne, beq_eq_false_iff_ne, bne_eq_false_iff_eq, Bool.not_eq_true', Bool.not_eq_false', Bool.and_eq_true, Bool.or_eq_true, Bool.or_eq_false_iff, ne_eq, Decidable.not_not, Int.not_lt, Int.not_le] at c2
      refine dwp_skip ?_
      refine zae ?_
      refine dwp_block ?_
      refine zae ?_
      refine zad ?_
      refine zab rfl rfl rfl (zac (.inl rfl) (ev1 rfl)) ?_
      refine zab rfl rfl rfl (zac (.inr rfl) (ev1 rfl)) ?_
      refine zaf ?_
      refine zae ?_
      refine dwp_draw [([], []), ([], []), ([], []), ([], []), ([], []), ([], []), ([], []), ([], []), ([], [])] mixed (by kernel_rfl) ?_
      refine lex_r rfl rfl (zac (.inl rfl) (ev1 rfl)) ?_
      refine lex_r rfl rfl (zac (.inl rfl) (ev1 rfl)) ?_
      refine lex_r rfl rfl (op_ixsr (j := k) rfl sl28 (ev1 rfl) (ev1 rfl) (fun _ => rfl) (by decide) (by omega) (by omega)) ?_
      refine lex_r rfl rfl (op_ldwd rfl tb25 (ev1 rfl) rfl) ?_
      refine lex_r rfl rfl (zac (.inl rfl) (ev1 rfl)) ?_
      refine lex_r rfl rfl (zac (.inl rfl) (ev1 rfl)) ?_
      refine lex_r rfl rfl (op_ixsr (j := k) rfl sl28 (ev1 rfl) (ev1 rfl) (fun _ => rfl) (by decide) (by omega) (by omega)) ?_
      refine lex_r rfl rfl (op_ldwd rfl tb25 (ev1 rfl) rfl) ?_
      refine lex_r rfl rfl (op_ner eq25 rfl gd25 tb25 (ev1 rfl) (ev1 rfl)) ?_
      refine lex_nil ?_
      refine dwp_cond rfl (fun c2 => ?_) (fun c2 => ?_)
      · have c3 : l[k] ≠ r[k] := by simpa using c2
        refine zae ?_
        refine zad ?_
        refine zab rfl rfl rfl (zac (.inr rfl) (ev1 rfl)) ?_
        refine zaf ?_
        refine dwp_ret ?_
        refine kend0 (rs1 rfl (rv_t rfl)) rfl ?_
        have hne : l ≠ r := fun e => by subst e; exact c3 rfl
        rw [decide_eq_false hne]
      · have c3 : l[k] = r[k] := by simpa using c2
        refine dwp_skip ?_
        refine zad ?_
        refine zab rfl rfl rfl (op_add' rfl (ev1 rfl) (ev1 rfl) (fun _ => IntWalk.i64_in _ (by omega))) ?_
        refine zab rfl rfl rfl (zac (.inl rfl) (ev1 rfl)) ?_
        refine zaf ?_
        refine ⟨k + 1, [], ⟨by omega, by rw [List.take_succ_eq_append_getElem (by omega), List.take_succ_eq_append_getElem (by omega), he, c3]⟩, by simp only []; omega, rfl, ⟨rfl, rfl, rfl, rfl, trivial⟩, trivial⟩
    · try simp only [decide_eq_true_eq, decide_eq_false_iff_not, beq_iff_eq, bne_iff_ne, beq_eq_false_iff_ne, bne_eq_false_iff_eq, Bool.not_eq_true', Bool.not_eq_false', Bool.and_eq_true, Bool.or_eq_true, Bool.or_eq_false_iff, ne_eq, Decidable.not_not, Int.not_lt, Int.not_le] at c2
      refine dwp_exit ?_
      refine zae ?_
      refine zad ?_
      refine zab rfl rfl rfl (zac (.inr rfl) (ev1 rfl)) ?_
      refine zaf ?_
      refine dwp_ret ?_
      refine kend0 (rs1 rfl (rv_t rfl)) rfl ?_
      have e : l = r := by
        have h := he
        rw [List.take_of_length_le (by omega), List.take_of_length_le (by omega)] at h
        exact h
      rw [decide_eq_true e]
end Go.Proofs.Ytoffbkjhoelghaa
namespace Go.Proofs.Ytoffbkjhoelghaa
set_option maxRecDepth 4000
set_option linter.unusedVariables false
set_option linter.unusedSimpArgs false
open Go.RowKit
open Go.ChangeShapes Go.WideShapes Go.ChangeAt Go.Joins Go.Deep
theorem fits_prim_i64 {v : Value} (h : (Prim.int .i64).is v) : ∃ a : Int, (-9223372036854775808 ≤ a ∧ a ≤ 9223372036854775807) ∧ v = .int .i64 a := by
  obtain ⟨x, rfl, w⟩ := h
  exact ⟨x, by simpa [Lit.wf, IntKind.min, IntKind.max, IntKind.signed, IntKind.bits] using w, rfl⟩
theorem fitsP_cons {p : Prim} {ps : List Prim} {cs : List Value} (h : fitsP (p :: ps) cs) : ∃ v r, cs = v :: r ∧ p.is v ∧ fitsP ps r := by
  cases cs with
  | nil => cases h
  | cons v r => exact ⟨v, r, rfl, h.1, h.2⟩
theorem fitsP_nil {cs : List Value} (h : fitsP [] cs) : cs = [] := by
  cases cs with
  | nil => rfl
  | cons v r => cases h
def P2.rng (p : P2) : Prop := (-9223372036854775808 ≤ p.x ∧ p.x ≤ 9223372036854775807) ∧ (-9223372036854775808 ≤ p.y ∧ p.y ≤ 9223372036854775807)
def Sp.rng (s : Sp) : Prop := (-9223372036854775808 ≤ s.y ∧ s.y ≤ 9223372036854775807) ∧ (-9223372036854775808 ≤ s.f ∧ s.f ≤ 9223372036854775807) ∧ -9223372036854775808 ≤ s.t ∧ s.t ≤ 9223372036854775807
def Bx.rng (s : Bx) : Prop := ((-9223372036854775808 ≤ s.x ∧ s.x ≤ 9223372036854775807) ∧ -9223372036854775808 ≤ s.y ∧ s.y ≤ 9223372036854775807) ∧ (-9223372036854775808 ≤ s.x2 ∧ s.x2 ≤ 9223372036854775807) ∧ -9223372036854775808 ≤ s.y2 ∧ s.y2 ≤ 9223372036854775807
end Go.Proofs.Ytoffbkjhoelghaa
namespace Go.Proofs.Ytoffbkjhoelghaa
set_option maxRecDepth 4000
set_option linter.unusedVariables false
set_option linter.unusedSimpArgs false
open Go.RowKit
theorem fl53 : fdL Try.prog 53 = some [(0, 1), (1, 1), (2, 1), (3, 1)] := by kernel_rfl
theorem zr53 : zrC Try.prog 53 = some [.int .i64 0, .int .i64 0, .int .i64 0, .int .i64 0] := by kernel_rfl
theorem norm_calc {l m r : List Sp} (hp : m.Perm l) (hs : m.Pairwise leS) (hv : ∀ s ∈ l, s.f ≤ s.t) (h : m.foldl mergeS [] = r) : normS l = r := (norm_of_sorted hv hp hs).symm.trans h
def w6d : List Sp := [⟨-1, 0, 0⟩, ⟨0, -1, 1⟩, ⟨1, 0, 0⟩]
def w6s : List Sp := [⟨-1, -1, 4⟩, ⟨0, -1, 4⟩, ⟨1, -1, 4⟩]
theorem br_run (r : Bool) (n : Nat) : brS r n = runS ((fieldN (2 * n + 1) ((2 * n + 1) * (2 * n + 1)) (-(n : Int)) (-(n : Int))).filter (inBr r n)) := (run_norm ((field_beh (by omega) _ _ _).sublist List.filter_sublist)).symm
theorem w6_bd : brS true 1 = w6d := by rw [br_run]; decide
theorem w6_bs : brS false 1 = [⟨-1, -1, 1⟩, ⟨0, -1, 1⟩, ⟨1, -1, 1⟩] := by rw [br_run]; decide
theorem w6_line : linL ⟨0, 0⟩ ⟨4, 2⟩ = [⟨0, 0⟩, ⟨1, 1⟩, ⟨2, 1⟩, ⟨3, 2⟩, ⟨4, 2⟩] ∧ drwE ⟨0, 0⟩ ⟨4, 2⟩ = 0 ∧ drwE ⟨128, 0⟩ ⟨0, 0⟩ = 2 := by decide
theorem w6_disc : swL true 1 [⟨0, 0⟩] = w6d ∧ swE 1 [⟨0, 0⟩] = 0 := by
  obtain ⟨e1, e2, _⟩ := sw_ok (r := true) (n := 1) (l := [⟨0, 0⟩]) (by decide)
  refine ⟨?_, e2⟩
  rw [e1]
  show normS (swK true 1 _) = _
  unfold swK
  rw [w6_bd]
  exact norm_calc (m := w6d) (by decide) (by decide) (by decide) (by decide)
theorem w6_sweep : swL false 1 [⟨0, 0⟩, ⟨3, 0⟩] = w6s ∧ swE 1 [⟨0, 0⟩, ⟨3, 0⟩] = 0 := by
  obtain ⟨e1, e2, _⟩ := sw_ok (r := false) (n := 1) (l := [⟨0, 0⟩, ⟨3, 0⟩]) (by decide)
  refine ⟨?_, e2⟩
  rw [e1]
  show normS (swK false 1 _) = _
  unfold swK
  rw [w6_bs]
  exact norm_calc (m := [⟨-1, -1, 1⟩, ⟨-1, 2, 4⟩, ⟨0, -1, 1⟩, ⟨0, 2, 4⟩, ⟨1, -1, 1⟩, ⟨1, 2, 4⟩]) (by decide) (by decide) (by decide) (by decide)
theorem w6_cnt : cntL w6s = 18 := by decide
theorem w6_uni : uniL [[⟨0, 0, 2⟩], [⟨0, 3, 5⟩]] = [⟨0, 0, 5⟩] ∧ uniE [[⟨0, 0, 2⟩], [⟨0, 3, 5⟩]] = 0 := by
  obtain ⟨e1, e2⟩ := uni_ok (rr := [[⟨0, 0, 2⟩], [⟨0, 3, 5⟩]]) (by decide)
  refine ⟨?_, e2⟩
  rw [e1]
  exact norm_calc (m := [⟨0, 0, 2⟩, ⟨0, 3, 5⟩]) (by decide) (by decide) (by decide) (by decide)
theorem w6_clip : clipL ⟨1, 0, 4, 0⟩ [⟨0, 0, 5⟩] = [⟨0, 1, 4⟩] ∧ chkE [⟨0, 0, 5⟩] = 0 := by decide
theorem w6line_d : DFun Try.prog 11 [.val (.agg #[.int .i64 0, .int .i64 0]), .val (.agg #[.int .i64 4, .int .i64 2])] [] (.tup [.slf 2 5 [.int .i64 0, .int .i64 0, .int .i64 1, .int .i64 1, .int .i64 2, .int .i64 1, .int .i64 3, .int .i64 2, .int .i64 4, .int .i64 2], .val (.int .i64 0)]) [] := by
  have h := line_d ⟨0, 0⟩ ⟨4, 2⟩
  rw [w6_line.1, w6_line.2.1] at h
  exact h
theorem w6no_d : DFun Try.prog 11 [.val (.agg #[.int .i64 128, .int .i64 0]), .val (.agg #[.int .i64 0, .int .i64 0])] [] (.tup [.slf 2 ((linL ⟨128, 0⟩ ⟨0, 0⟩)).length (((linL ⟨128, 0⟩ ⟨0, 0⟩)).flatMap p2), .val (.int .i64 2)]) [] := by
  have h := line_d ⟨128, 0⟩ ⟨0, 0⟩
  rw [w6_line.2.2] at h
  exact h
theorem w6disc_d : DFun Try.prog 17 [.val (.agg #[.int .i64 0, .int .i64 0]), .val (.int .i64 1)] [] (.tup [.slf 3 3 [.int .i64 (-1), .int .i64 0, .int .i64 0, .int .i64 0, .int .i64 (-1), .int .i64 1, .int .i64 1, .int .i64 0, .int .i64 0], .val (.int .i64 0)]) [] := by
  have h := disc_d ⟨0, 0⟩ 1
  rw [w6_disc.1, w6_disc.2] at h
  exact h
theorem w6sweep_d : DFun Try.prog 22 [.slf 2 2 [.int .i64 0, .int .i64 0, .int .i64 3, .int .i64 0], .val (.int .i64 1), .val (.bool false)] [] (.tup [.slf 3 3 [.int .i64 (-1), .int .i64 (-1), .int .i64 4, .int .i64 0, .int .i64 (-1), .int .i64 4, .int .i64 1, .int .i64 (-1), .int .i64 4], .val (.int .i64 0)]) [] := by
  have h := sweep_d [⟨0, 0⟩, ⟨3, 0⟩] 1 false (Nat.le_of_ble_eq_true rfl)
  rw [w6_sweep.1, w6_sweep.2] at h
  exact h
theorem w6uni_d : DFun Try.prog 34 [.slm 1 2 [.slf 3 1 [.int .i64 0, .int .i64 0, .int .i64 2], .slf 3 1 [.int .i64 0, .int .i64 3, .int .i64 5]]] [] (.tup [.slf 3 1 [.int .i64 0, .int .i64 0, .int .i64 5], .val (.int .i64 0)]) [] := by
  have h := union_d [[⟨0, 0, 2⟩], [⟨0, 3, 5⟩]] (Nat.le_of_ble_eq_true rfl)
  rw [w6_uni.1, w6_uni.2] at h
  exact h
theorem w6clip_d : DFun Try.prog 28 [.slf 3 1 [.int .i64 0, .int .i64 0, .int .i64 5], .val (.agg #[.int .i64 1, .int .i64 0, .int .i64 4, .int .i64 0])] [] (.tup [.slf 3 1 [.int .i64 0, .int .i64 1, .int .i64 4], .val (.int .i64 0)]) [] := by
  have h := clip_d [⟨0, 0, 5⟩] ⟨1, 0, 4, 0⟩ (Nat.le_of_ble_eq_true rfl)
  rw [w6_clip.1, w6_clip.2] at h
  exact h
theorem w6cnt_d : DFun Try.prog 32 [.slf 3 3 [.int .i64 (-1), .int .i64 (-1), .int .i64 4, .int .i64 0, .int .i64 (-1), .int .i64 4, .int .i64 1, .int .i64 (-1), .int .i64 4]] [] (.val (.int .i64 18)) [] := by
  have h := count_d w6s (Nat.le_of_ble_eq_true rfl)
  rw [w6_cnt] at h
  exact h
set_option maxRecDepth 4000 in
set_option maxHeartbeats 1000000 in
theorem wakes_d : DFun Try.prog 9 [] [] (.val (.bool true)) [] := by
  refine dcalls_go (N := 114) 0 (by kernel_rfl) Try.func9 rfl rfl rfl (by simp only [fr0, Nat.zero_add, Nat.reduceAdd]; exact rfl) rfl fun s0 hs0 => ?_
  refine zae ?_
  refine zad ?_
  refine zab rfl rfl rfl (zac (.inr rfl) (ev1 rfl)) ?_
  refine zaf ?_
  refine zae ?_
  refine zad ?_
  refine zab rfl rfl rfl (op_build0 rfl fl25 zr25) ?_
  refine zab rfl rfl rfl (op_build (ps := [(0, .const (.int .i64 4)), (1, .const (.int .i64 2))]) rfl fl25 zr25 (vc (ev1 rfl) (vc (ev1 rfl) vn)) rfl rfl) ?_
  refine zab rfl rfl rfl (dop_call [] [] [] rfl (ev1 rfl) (ec (ev1 rfl) (ec (ev1 rfl) en)) rfl rfl (w6line_d) rfl rfl rfl rfl rfl rfl) ?_
  refine zab rfl rfl rfl (zac (.inl rfl) (ev1 rfl)) ?_
  refine zab rfl rfl rfl (op_ext rfl (ev1 rfl) rfl) ?_
  refine zab rfl rfl rfl (op_ext rfl (ev1 rfl) rfl) ?_
  refine zab rfl rfl rfl (zac (.inr rfl) (ev1 rfl)) ?_
  refine zab rfl rfl rfl (zac (.inr rfl) (ev1 rfl)) ?_
  refine zaf ?_
  refine zae ?_
  refine zad ?_
  refine zab rfl rfl rfl (op_build (ps := [(0, .const (.int .i64 128))]) rfl fl25 zr25 (vc (ev1 rfl) vn) rfl rfl) ?_
  refine zab rfl rfl rfl (op_build0 rfl fl25 zr25) ?_
  refine zab rfl rfl rfl (dop_call [] [] [] rfl (ev1 rfl) (ec (ev1 rfl) (ec (ev1 rfl) en)) rfl rfl (w6no_d) rfl rfl rfl rfl rfl rfl) ?_
  refine zab rfl rfl rfl (zac (.inl rfl) (ev1 rfl)) ?_
  refine zab rfl rfl rfl (op_ext rfl (ev1 rfl) rfl) ?_
  refine zab rfl rfl rfl (op_ext rfl (ev1 rfl) rfl) ?_
  refine zab rfl rfl rfl (zac (.inr rfl) (ev1 rfl)) ?_
  refine zab rfl rfl rfl (zac (.inr rfl) (ev1 rfl)) ?_
  refine zaf ?_
  refine zae ?_
  refine zad ?_
  refine zab rfl rfl rfl (op_build0 rfl fl25 zr25) ?_
  refine zab rfl rfl rfl (dop_call [] [] [] rfl (ev1 rfl) (ec (ev1 rfl) (ec (ev1 rfl) en)) rfl rfl (w6disc_d) rfl rfl rfl rfl rfl rfl) ?_
  refine zab rfl rfl rfl (zac (.inl rfl) (ev1 rfl)) ?_
  refine zab rfl rfl rfl (op_ext rfl (ev1 rfl) rfl) ?_
  refine zab rfl rfl rfl (op_ext rfl (ev1 rfl) rfl) ?_
  refine zab rfl rfl rfl (zac (.inr rfl) (ev1 rfl)) ?_
  refine zab rfl rfl rfl (zac (.inr rfl) (ev1 rfl)) ?_
  refine zaf ?_
  refine zae ?_
  refine zad ?_
  refine zab rfl rfl rfl (op_build0 rfl fl25 zr25) ?_
  refine zab rfl rfl rfl (op_build (ps := [(0, .const (.int .i64 3))]) rfl fl25 zr25 (vc (ev1 rfl) vn) rfl rfl) ?_
  refine zab rfl rfl rfl (op_bs (ps := [(0, .tmp 31), (1, .tmp 32)]) rfl sl28 zr25 rfl (vc (ev1 rfl) (vc (ev1 rfl) vn)) rfl (by decide) (by decide)) ?_
  refine zab rfl rfl rfl (dop_call [] [] [] rfl (ev1 rfl) (ec (ev1 rfl) (ec (ev1 rfl) (ec (ev1 rfl) en))) rfl rfl (w6sweep_d) rfl rfl rfl rfl rfl rfl) ?_
  refine zab rfl rfl rfl (zac (.inl rfl) (ev1 rfl)) ?_
  refine zab rfl rfl rfl (op_ext rfl (ev1 rfl) rfl) ?_
  refine zab rfl rfl rfl (op_ext rfl (ev1 rfl) rfl) ?_
  refine zab rfl rfl rfl (zac (.inr rfl) (ev1 rfl)) ?_
  refine zab rfl rfl rfl (zac (.inr rfl) (ev1 rfl)) ?_
  refine zaf ?_
  refine zae ?_
  refine zad ?_
  refine zab rfl rfl rfl (op_build (ps := [(1, .const (.int .i64 0)), (2, .const (.int .i64 2))]) rfl fl40 zr40 (vc (ev1 rfl) (vc (ev1 rfl) vn)) rfl rfl) ?_
  refine zab rfl rfl rfl (op_bs (ps := [(0, .tmp 38)]) rfl sl32 zr40 rfl (vc (ev1 rfl) vn) rfl (by decide) (by decide)) ?_
  refine zab rfl rfl rfl (op_build (ps := [(1, .const (.int .i64 3)), (2, .const (.int .i64 5))]) rfl fl40 zr40 (vc (ev1 rfl) (vc (ev1 rfl) vn)) rfl rfl) ?_
  refine zab rfl rfl rfl (op_bs (ps := [(0, .tmp 40)]) rfl sl32 zr40 rfl (vc (ev1 rfl) vn) rfl (by decide) (by decide)) ?_
  refine zab rfl rfl rfl (op_bsm (ps := [(0, .tmp 39), (1, .tmp 41)]) rfl sl51 zr32 rfl (ec (ev1 rfl) (ec (ev1 rfl) en)) rfl (by decide)) ?_
  refine zab rfl rfl rfl (dop_call [] [] [] rfl (ev1 rfl) (ec (ev1 rfl) en) rfl rfl (w6uni_d) rfl rfl rfl rfl rfl rfl) ?_
  refine zab rfl rfl rfl (zac (.inl rfl) (ev1 rfl)) ?_
  refine zab rfl rfl rfl (op_ext rfl (ev1 rfl) rfl) ?_
  refine zab rfl rfl rfl (op_ext rfl (ev1 rfl) rfl) ?_
  refine zab rfl rfl rfl (zac (.inr rfl) (ev1 rfl)) ?_
  refine zab rfl rfl rfl (zac (.inr rfl) (ev1 rfl)) ?_
  refine zaf ?_
  refine zae ?_
  refine zad ?_
  refine zab rfl rfl rfl (zac (.inl rfl) (ev1 rfl)) ?_
  refine zab rfl rfl rfl (op_build (ps := [(0, .const (.int .i64 1)), (2, .const (.int .i64 4))]) rfl fl53 zr53 (vc (ev1 rfl) (vc (ev1 rfl) vn)) rfl rfl) ?_
  refine zab rfl rfl rfl (dop_call [] [] [] rfl (ev1 rfl) (ec (ev1 rfl) (ec (ev1 rfl) en)) rfl rfl (w6clip_d) rfl rfl rfl rfl rfl rfl) ?_
  refine zab rfl rfl rfl (zac (.inl rfl) (ev1 rfl)) ?_
  refine zab rfl rfl rfl (op_ext rfl (ev1 rfl) rfl) ?_
  refine zab rfl rfl rfl (op_ext rfl (ev1 rfl) rfl) ?_
  refine zab rfl rfl rfl (zac (.inr rfl) (ev1 rfl)) ?_
  refine zab rfl rfl rfl (zac (.inr rfl) (ev1 rfl)) ?_
  refine zaf ?_
  refine zae ?_
  refine zad ?_
  refine zab rfl rfl rfl (zac (.inl rfl) (ev1 rfl)) ?_
  refine zab rfl rfl rfl ((op_eql rfl (ev1 rfl) (ev1 rfl)).cast (d' := .val (.bool true)) (by kernel_rfl)) ?_
  refine zab rfl rfl rfl (zac (.inl rfl) (ev1 rfl)) ?_
  refine walk_k (gd_t (b := true) rfl rfl rfl) rfl rfl rfl (zac (.inl rfl) (ev1 rfl)) (by simp only [upd, zaa, za]; exact rfl) ?_
  refine walk_k (gd_t (b := true) rfl rfl rfl) rfl rfl rfl ((op_eql rfl (ev2 rfl) (ev1 rfl)).cast (d' := .val (.bool true)) (by kernel_rfl)) (by simp only [upd, zaa, za]; exact rfl) ?_
  refine zab rfl rfl rfl ((op_and rfl (ev1 rfl) (ev3 rfl (fun _ => rfl))).cast (d' := .val (.bool true)) (by rfl)) ?_
  refine zab rfl rfl rfl (zac (.inl rfl) (ev1 rfl)) ?_
  refine walk_k (gd_t (b := true) rfl rfl rfl) rfl rfl rfl (zac (.inl rfl) (ev1 rfl)) (by simp only [upd, zaa, za]; exact rfl) ?_
  refine walk_k (gd_t (b := true) rfl rfl rfl) rfl rfl rfl ((op_eql rfl (ev2 rfl) (ev1 rfl)).cast (d' := .val (.bool true)) (by kernel_rfl)) (by simp only [upd, zaa, za]; exact rfl) ?_
  refine zab rfl rfl rfl ((op_and rfl (ev1 rfl) (ev3 rfl (fun _ => rfl))).cast (d' := .val (.bool true)) (by rfl)) ?_
  refine zab rfl rfl rfl (zac (.inl rfl) (ev1 rfl)) ?_
  refine walk_k (gd_t (b := true) rfl rfl rfl) rfl rfl rfl (zac (.inl rfl) (ev1 rfl)) (by simp only [upd, zaa, za]; exact rfl) ?_
  refine walk_k (gd_t (b := true) rfl rfl rfl) rfl rfl rfl ((op_eql rfl (ev2 rfl) (ev1 rfl)).cast (d' := .val (.bool true)) (by kernel_rfl)) (by simp only [upd, zaa, za]; exact rfl) ?_
  refine zab rfl rfl rfl ((op_and rfl (ev1 rfl) (ev3 rfl (fun _ => rfl))).cast (d' := .val (.bool true)) (by rfl)) ?_
  refine zab rfl rfl rfl (zac (.inl rfl) (ev1 rfl)) ?_
  refine walk_k (gd_t (b := true) rfl rfl rfl) rfl rfl rfl (zac (.inl rfl) (ev1 rfl)) (by simp only [upd, zaa, za]; exact rfl) ?_
  refine walk_k (gd_t (b := true) rfl rfl rfl) rfl rfl rfl ((op_eql rfl (ev2 rfl) (ev1 rfl)).cast (d' := .val (.bool true)) (by kernel_rfl)) (by simp only [upd, zaa, za]; exact rfl) ?_
  refine zab rfl rfl rfl ((op_and rfl (ev1 rfl) (ev3 rfl (fun _ => rfl))).cast (d' := .val (.bool true)) (by rfl)) ?_
  refine zab rfl rfl rfl (zac (.inl rfl) (ev1 rfl)) ?_
  refine walk_k (gd_t (b := true) rfl rfl rfl) rfl rfl rfl (zac (.inl rfl) (ev1 rfl)) (by simp only [upd, zaa, za]; exact rfl) ?_
  refine walk_k (gd_t (b := true) rfl rfl rfl) rfl rfl rfl ((op_eql rfl (ev2 rfl) (ev1 rfl)).cast (d' := .val (.bool true)) (by kernel_rfl)) (by simp only [upd, zaa, za]; exact rfl) ?_
  refine zab rfl rfl rfl ((op_and rfl (ev1 rfl) (ev3 rfl (fun _ => rfl))).cast (d' := .val (.bool true)) (by rfl)) ?_
  refine zab rfl rfl rfl (zac (.inl rfl) (ev1 rfl)) ?_
  refine walk_k (gd_t (b := true) rfl rfl rfl) rfl rfl rfl (zac (.inl rfl) (ev1 rfl)) (by simp only [upd, zaa, za]; exact rfl) ?_
  refine walk_k (gd_t (b := true) rfl rfl rfl) rfl rfl rfl (op_build0 rfl fl25 zr25) (by simp only [upd, zaa, za]; exact rfl) ?_
  refine walk_k (gd_t (b := true) rfl rfl rfl) rfl rfl rfl (op_build (ps := [(0, .const (.int .i64 1)), (1, .const (.int .i64 1))]) rfl fl25 zr25 (vc (ev1 rfl) (vc (ev1 rfl) vn)) rfl rfl) (by simp only [upd, zaa, za]; exact rfl) ?_
  refine walk_k (gd_t (b := true) rfl rfl rfl) rfl rfl rfl (op_build (ps := [(0, .const (.int .i64 2)), (1, .const (.int .i64 1))]) rfl fl25 zr25 (vc (ev1 rfl) (vc (ev1 rfl) vn)) rfl rfl) (by simp only [upd, zaa, za]; exact rfl) ?_
  refine walk_k (gd_t (b := true) rfl rfl rfl) rfl rfl rfl (op_build (ps := [(0, .const (.int .i64 3)), (1, .const (.int .i64 2))]) rfl fl25 zr25 (vc (ev1 rfl) (vc (ev1 rfl) vn)) rfl rfl) (by simp only [upd, zaa, za]; exact rfl) ?_
  refine walk_k (gd_t (b := true) rfl rfl rfl) rfl rfl rfl (op_build (ps := [(0, .const (.int .i64 4)), (1, .const (.int .i64 2))]) rfl fl25 zr25 (vc (ev1 rfl) (vc (ev1 rfl) vn)) rfl rfl) (by simp only [upd, zaa, za]; exact rfl) ?_
  refine walk_k (gd_t (b := true) rfl rfl rfl) rfl rfl rfl (op_bs (ps := [(0, .tmp 76), (1, .tmp 77), (2, .tmp 78), (3, .tmp 79), (4, .tmp 80)]) rfl sl28 zr25 rfl (vc (ev2 rfl) (vc (ev2 rfl) (vc (ev2 rfl) (vc (ev2 rfl) (vc (ev2 rfl) vn))))) rfl (by decide) (by decide)) (by simp only [upd, zaa, za]; exact rfl) ?_
  refine walk_k (gd_t (b := true) rfl rfl rfl) rfl rfl rfl ((dop_call [] [] [] rfl (ev1 rfl) (ec (ev2 rfl) (ec (ev2 rfl) en)) rfl rfl (equalPt [⟨0, 0⟩, ⟨1, 1⟩, ⟨2, 1⟩, ⟨3, 2⟩, ⟨4, 2⟩] [⟨0, 0⟩, ⟨1, 1⟩, ⟨2, 1⟩, ⟨3, 2⟩, ⟨4, 2⟩]) rfl rfl rfl rfl rfl rfl).cast (d' := .val (.bool true)) (by first | rfl | decide)) (by simp only [upd, zaa, za]; exact rfl) ?_
  refine zab rfl rfl rfl ((op_and rfl (ev1 rfl) (ev3 rfl (fun _ => rfl))).cast (d' := .val (.bool true)) (by rfl)) ?_
  refine zab rfl rfl rfl (zac (.inl rfl) (ev1 rfl)) ?_
  refine walk_k (gd_t (b := true) rfl rfl rfl) rfl rfl rfl (zac (.inl rfl) (ev1 rfl)) (by simp only [upd, zaa, za]; exact rfl) ?_
  refine walk_k (gd_t (b := true) rfl rfl rfl) rfl rfl rfl (op_build (ps := [(0, .const (.int .i64 (-1)))]) rfl fl40 zr40 (vc (ev1 rfl) vn) rfl rfl) (by simp only [upd, zaa, za]; exact rfl) ?_
  refine walk_k (gd_t (b := true) rfl rfl rfl) rfl rfl rfl (op_build (ps := [(1, .const (.int .i64 (-1))), (2, .const (.int .i64 1))]) rfl fl40 zr40 (vc (ev1 rfl) (vc (ev1 rfl) vn)) rfl rfl) (by simp only [upd, zaa, za]; exact rfl) ?_
  refine walk_k (gd_t (b := true) rfl rfl rfl) rfl rfl rfl (op_build (ps := [(0, .const (.int .i64 1))]) rfl fl40 zr40 (vc (ev1 rfl) vn) rfl rfl) (by simp only [upd, zaa, za]; exact rfl) ?_
  refine walk_k (gd_t (b := true) rfl rfl rfl) rfl rfl rfl (op_bs (ps := [(0, .tmp 86), (1, .tmp 87), (2, .tmp 88)]) rfl sl32 zr40 rfl (vc (ev2 rfl) (vc (ev2 rfl) (vc (ev2 rfl) vn))) rfl (by decide) (by decide)) (by simp only [upd, zaa, za]; exact rfl) ?_
  refine walk_k (gd_t (b := true) rfl rfl rfl) rfl rfl rfl ((dop_call [] [] [] rfl (ev1 rfl) (ec (ev2 rfl) (ec (ev2 rfl) en)) rfl rfl (equalS w6d w6d) rfl rfl rfl rfl rfl rfl).cast (d' := .val (.bool true)) (by first | rfl | decide)) (by simp only [upd, zaa, za]; exact rfl) ?_
  refine zab rfl rfl rfl ((op_and rfl (ev1 rfl) (ev3 rfl (fun _ => rfl))).cast (d' := .val (.bool true)) (by rfl)) ?_
  refine zab rfl rfl rfl (zac (.inl rfl) (ev1 rfl)) ?_
  refine walk_k (gd_t (b := true) rfl rfl rfl) rfl rfl rfl (zac (.inl rfl) (ev1 rfl)) (by simp only [upd, zaa, za]; exact rfl) ?_
  refine walk_k (gd_t (b := true) rfl rfl rfl) rfl rfl rfl ((op_len rfl sl32 (ev2 rfl)).cast (d' := .val (.int .i64 3)) (by rfl)) (by simp only [upd, zaa, za]; exact rfl) ?_
  refine walk_k (gd_t (b := true) rfl rfl rfl) rfl rfl rfl ((op_eql rfl (ev2 rfl) (ev1 rfl)).cast (d' := .val (.bool true)) (by kernel_rfl)) (by simp only [upd, zaa, za]; exact rfl) ?_
  refine zab rfl rfl rfl ((op_and rfl (ev1 rfl) (ev3 rfl (fun _ => rfl))).cast (d' := .val (.bool true)) (by rfl)) ?_
  refine zab rfl rfl rfl (zac (.inl rfl) (ev1 rfl)) ?_
  refine walk_k (gd_t (b := true) rfl rfl rfl) rfl rfl rfl (zac (.inl rfl) (ev1 rfl)) (by simp only [upd, zaa, za]; exact rfl) ?_
  refine walk_k (gd_t (b := true) rfl rfl rfl) rfl rfl rfl (dop_call [] [] [] rfl (ev1 rfl) (ec (ev2 rfl) en) rfl rfl (w6cnt_d) rfl rfl rfl rfl rfl rfl) (by simp only [upd, zaa, za]; exact rfl) ?_
  refine walk_k (gd_t (b := true) rfl rfl rfl) rfl rfl rfl ((op_eql rfl (ev2 rfl) (ev1 rfl)).cast (d' := .val (.bool true)) (by kernel_rfl)) (by simp only [upd, zaa, za]; exact rfl) ?_
  refine zab rfl rfl rfl ((op_and rfl (ev1 rfl) (ev3 rfl (fun _ => rfl))).cast (d' := .val (.bool true)) (by rfl)) ?_
  refine zab rfl rfl rfl (zac (.inl rfl) (ev1 rfl)) ?_
  refine walk_k (gd_t (b := true) rfl rfl rfl) rfl rfl rfl (zac (.inl rfl) (ev1 rfl)) (by simp only [upd, zaa, za]; exact rfl) ?_
  refine walk_k (gd_t (b := true) rfl rfl rfl) rfl rfl rfl (op_build (ps := [(2, .const (.int .i64 5))]) rfl fl40 zr40 (vc (ev1 rfl) vn) rfl rfl) (by simp only [upd, zaa, za]; exact rfl) ?_
  refine walk_k (gd_t (b := true) rfl rfl rfl) rfl rfl rfl (op_bs (ps := [(0, .tmp 104)]) rfl sl32 zr40 rfl (vc (ev2 rfl) vn) rfl (by decide) (by decide)) (by simp only [upd, zaa, za]; exact rfl) ?_
  refine walk_k (gd_t (b := true) rfl rfl rfl) rfl rfl rfl ((dop_call [] [] [] rfl (ev1 rfl) (ec (ev2 rfl) (ec (ev2 rfl) en)) rfl rfl (equalS [⟨0, 0, 5⟩] [⟨0, 0, 5⟩]) rfl rfl rfl rfl rfl rfl).cast (d' := .val (.bool true)) (by first | rfl | decide)) (by simp only [upd, zaa, za]; exact rfl) ?_
  refine zab rfl rfl rfl ((op_and rfl (ev1 rfl) (ev3 rfl (fun _ => rfl))).cast (d' := .val (.bool true)) (by rfl)) ?_
  refine zab rfl rfl rfl (zac (.inl rfl) (ev1 rfl)) ?_
  refine walk_k (gd_t (b := true) rfl rfl rfl) rfl rfl rfl (zac (.inl rfl) (ev1 rfl)) (by simp only [upd, zaa, za]; exact rfl) ?_
  refine walk_k (gd_t (b := true) rfl rfl rfl) rfl rfl rfl (op_build (ps := [(1, .const (.int .i64 1)), (2, .const (.int .i64 4))]) rfl fl40 zr40 (vc (ev1 rfl) (vc (ev1 rfl) vn)) rfl rfl) (by simp only [upd, zaa, za]; exact rfl) ?_
  refine walk_k (gd_t (b := true) rfl rfl rfl) rfl rfl rfl (op_bs (ps := [(0, .tmp 110)]) rfl sl32 zr40 rfl (vc (ev2 rfl) vn) rfl (by decide) (by decide)) (by simp only [upd, zaa, za]; exact rfl) ?_
  refine walk_k (gd_t (b := true) rfl rfl rfl) rfl rfl rfl ((dop_call [] [] [] rfl (ev1 rfl) (ec (ev2 rfl) (ec (ev2 rfl) en)) rfl rfl (equalS [⟨0, 1, 4⟩] [⟨0, 1, 4⟩]) rfl rfl rfl rfl rfl rfl).cast (d' := .val (.bool true)) (by first | rfl | decide)) (by simp only [upd, zaa, za]; exact rfl) ?_
  refine zab rfl rfl rfl ((op_and rfl (ev1 rfl) (ev3 rfl (fun _ => rfl))).cast (d' := .val (.bool true)) (by rfl)) ?_
  refine zab rfl rfl rfl (zac (.inr rfl) (ev1 rfl)) ?_
  refine zaf ?_
  refine dwp_ret ?_
  refine kend0 (rs1 rfl (rv_t rfl)) rfl ?_
  rfl
end Go.Proofs.Ytoffbkjhoelghaa
