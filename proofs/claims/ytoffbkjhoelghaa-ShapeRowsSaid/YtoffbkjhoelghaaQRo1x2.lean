/- what rows have together with the document. No condition. -/
import Derived.Test.YtoffbkjhoelghaaQRo1x1
import Derived.Test.YtoffbkjhoelghaaRows
namespace Go.Proofs.Ytoffbkjhoelghaa
set_option maxRecDepth 4000
set_option linter.unusedVariables false
set_option linter.unusedSimpArgs false
open Go.RowKit
theorem vwL_flat {α : Type} {σ : List Nat} {V : Nat → Bool} {M : List Blk} {f : α → D} (h : ∀ a, vw σ V M (f a) = some (f a)) : ∀ l : List α, vwL σ V M (l.flatMap fun a => [f a]) = some (l.flatMap fun a => [f a])
  | [] => rfl
  | a :: l => by
    rw [List.flatMap_cons]
    show vwL σ V M (f a :: l.flatMap fun a => [f a]) = _
    unfold vwL
    rw [h a, vwL_flat h l]
    rfl
theorem arx_fits {σ : List Nat} {V : Nat → Bool} {M : List Blk} {T : TypeId} {n n' : Nat} {l l' : List D} (hn : n = n') (h : l = l') (hv : vwL σ V M l' = some l') : (vwL σ V M l).map (Blk.arx T 1 n) = some (Blk.arx T 1 n' l') := by
  subst hn h
  rw [hv]
  rfl
def fsR (l : List (List Sp)) (k : Nat) : List (List Sp) := (l.take k).map fewL
theorem fsR_add {l : List (List Sp)} {i : Nat} (hi : i < l.length) : fsR l (i + 1) = fsR l i ++ [fewL l[i]] := by
  unfold fsR
  rw [List.take_succ_eq_append_getElem hi, List.map_append]
  rfl
theorem fsR_len {l : List (List Sp)} {k : Nat} (hk : k ≤ l.length) : (fsR l k).length = k := by
  unfold fsR
  rw [List.length_map, List.length_take]
  omega
theorem fsR_flat : ∀ (k : Nat) (l : List (List Sp)), (fsR l k).flatten.length ≤ k * 40
  | 0, l => Nat.zero_le _
  | k + 1, [] => Nat.zero_le _
  | k + 1, x :: l => by
    have h1 := fsR_flat k l
    have h2 := fewL_len x
    unfold fsR at *
    rw [List.take_succ_cons, List.map_cons, List.flatten_cons, List.length_append]
    omega
theorem fsR_at {l : List (List Sp)} {n k : Nat} (hk : k < (fsR l n).length) (hl : k < l.length) : (fsR l n)[k] = fewL l[k] := by
  simp [fsR]
theorem allC_fs {l : List (List Sp)} {i : Nat} (hi : i < l.length) : allC (fsR l (i + 1)) = (allC (fsR l i) && decide (chkS (fewL l[i]))) := by
  rw [fsR_add hi]
  unfold allC
  rw [List.all_append]
  simp
theorem has_r {l : List Sp} (h : chkS l) (p : P2) : rhasB l p = hasL l p := by
  rw [Bool.eq_iff_iff, rhasB_iff, hasL_iff h]
theorem cntL_ok {l : List Sp} (h : chkS l) : cntL l = cntS l := if_pos h
theorem cntL_no {l : List Sp} (h : ¬ chkS l) : cntL l = 0 := if_neg h
theorem hasL_no {l : List Sp} (h : ¬ chkS l) (p : P2) : hasL l p = false := by unfold hasL; rw [decide_eq_false h]; rfl
set_option maxRecDepth 4000 in
set_option maxHeartbeats 1000000 in
theorem rows_d (l : List (List Sp)) (c : Bx) (d : List P2) : DFun Try.prog 5 [.slm 1 (l).length ((l).flatMap fun l => [.slf 3 (l).length ((l).flatMap s3)]), .val (.agg #[.int .i64 c.x, .int .i64 c.y, .int .i64 c.x2, .int .i64 c.y2]), .slf 2 (d).length ((d).flatMap p2)] [] (.val (.bool true)) [] := by
  have hfl := fsR_flat (min l.length 4) l
  have hdl : (d.take (min d.length 8)).length = min d.length 8 := by rw [List.length_take]; omega
  refine dcalls_go (N := 180) 0 (by kernel_rfl) Try.func5 rfl rfl rfl (by simp only [fr0, Nat.zero_add, Nat.reduceAdd]; exact rfl) rfl fun s0 hs0 => ?_
  refine dwp_lenm (t := 0) rfl fun hl0 hL0 => ?_
  refine dwp_len (t := 2) rfl fun hl2 hL2 => ?_
  refine zae ?_
  refine dwp_holes 2 (by simp only [holes, List.cons_append, List.nil_append]; exact rfl) ?_
  refine zad ?_
  refine walk_w rfl rfl rfl (op_boxa 0 rfl (ev1 rfl) rfl) (by simp only [upd, zaa, za]; exact rfl) ?_
  refine walk_w rfl rfl rfl (op_alloc 1 rfl zr4 rfl) (by simp only [upd, zaa, za]; exact rfl) ?_
  refine zaf ?_
  refine zae ?_
  refine zae ?_
  refine zad ?_
  refine zab rfl rfl rfl (dop_call [] [] [] rfl (ev1 rfl) en rfl rfl (wakes_d) rfl rfl rfl rfl rfl rfl) ?_
  refine zab rfl rfl rfl (op_not rfl (ev1 rfl)) ?_
  refine zaf ?_
  refine dwp_if_f rfl (rfl) ?_
  refine dwp_skip ?_
  refine zae ?_
  refine zad ?_
  refine zab rfl rfl rfl (zac (.inr rfl) (ev1 rfl)) ?_
  refine zaf ?_
  refine zae ?_
  refine zad ?_
  refine zab rfl rfl rfl (zac (.inr rfl) (ev1 rfl)) ?_
  refine zaf ?_
  refine zae ?_
  refine zae ?_
  refine zad ?_
  refine zab rfl rfl rfl (zac (.inl rfl) (ev1 rfl)) ?_
  refine zab rfl rfl rfl (op_lenm rfl sl51 (ev1 rfl)) ?_
  refine zab rfl rfl rfl (zac (.inl rfl) (ev1 rfl)) ?_
  refine zaf ?_
  refine dwp_block ?_
  refine dwp_adoptx 7 32 1 rfl rfl rfl ?_
  refine dwp_loopS ⟨hs0, rfl⟩ (α := Nat) (fun i => [(8, .val (.bool (allC (fsR l i)))), (35, .val (.int .i64 (i : Int)))]) [(0, _), (2, _), (4, _), (6, _), (7, _), (33, _), (34, _)] (fun i => [(2, .arx 32 1 (fsR l (i)).length ((fsR l (i)).flatMap fun l => [.slf 3 (l).length ((l).flatMap s3)]))]) [_, _, .hole] (fun i => i ≤ min l.length 4) (fun i => min l.length 4 - i) 0 [0, 1, 2] (Nat.zero_le _) rfl ⟨rfl, rfl, rfl, rfl, rfl, rfl, rfl, trivial⟩ ⟨congrArg (fun z => some (D.val (.bool z))) (rfl), rfl, trivial⟩ ⟨rfl, rfl, rfl, trivial⟩ ?_
  intro i hx
  simp only [upd, zaa, za, List.cons_append, List.nil_append]
  have hi0 := hx
  have hfi := fsR_len (l := l) (k := i) (by omega)
  refine zae ?_
  refine zad ?_
  refine zab rfl rfl rfl (op_lss rfl (ev1 rfl) (ev1 rfl)) ?_
  refine zaf ?_
  refine zae ?_
  refine dwp_cond rfl (fun c2 => ?_) (fun c2 => ?_)
  · try simp only [yg, ya, beq_iff_eq, bne_iff_ne, yb, yc, yf, ye, yh, yi, yd, ne_eq, yj, Int.not_lt, Int.not_le] at c2
    refine dwp_skip ?_
    refine zae ?_
    refine dwp_block ?_
    refine zae ?_
    have hi : i < l.length := by omega
    refine zad ?_
    refine zab rfl rfl rfl (zac (.inl rfl) (ev1 rfl)) ?_
    refine zab rfl rfl rfl (op_ixm (i) rfl sl51 (ev1 rfl) (ev1 rfl) (fun _ => rfl) (flat1_at (by omega))) ?_
    refine zab rfl rfl rfl (op_lddm rfl tb32 (ev1 rfl) rfl) ?_
    refine zab rfl rfl rfl (zac (.inr rfl) (ev1 rfl)) ?_
    refine zab rfl rfl rfl (zac (.inr rfl) (ev1 rfl)) ?_
    refine zaf ?_
    refine zae ?_
    refine zae ?_
    refine zad ?_
    refine zab rfl rfl rfl (zac (.inl rfl) (ev1 rfl)) ?_
    refine zab rfl rfl rfl (op_eql rfl (ev1 rfl) (ev1 rfl)) ?_
    refine zaf ?_
    refine dwp_cond rfl (fun c3 => ?_) (fun c3 => ?_)
    · try simp only [yg, ya, beq_iff_eq, bne_iff_ne, yb, yc, yf, ye, yh, yi, yd, ne_eq, yj, Int.not_lt, Int.not_le] at c3
      refine dwp_exit ?_
      refine zae ?_
      refine dwp_give 7 (nlL_flat1 (fun _ => rfl) _) rfl rfl (by simp only [zaa, za]; exact rfl) ?_
      obtain rfl : i = min l.length 4 := by omega
      refine zad ?_
      refine zab rfl rfl rfl (zac (.inl rfl) (ev1 rfl)) ?_
      refine zab rfl rfl rfl (dop_call [] [] [] rfl (ev1 rfl) (ec (ev1 rfl) en) rfl rfl (union_d (fsR l (min l.length 4)) (by omega)) rfl rfl rfl rfl rfl rfl) ?_
      refine zab rfl rfl rfl (zac (.inl rfl) (ev1 rfl)) ?_
      refine zab rfl rfl rfl (op_ext rfl (ev1 rfl) rfl) ?_
      refine zab rfl rfl rfl (op_ext rfl (ev1 rfl) rfl) ?_
      refine zab rfl rfl rfl (zac (.inr rfl) (ev1 rfl)) ?_
      refine zab rfl rfl rfl (zac (.inr rfl) (ev1 rfl)) ?_
      refine zaf ?_
      refine zae ?_
      refine zad ?_
      refine zab rfl rfl rfl (zac (.inr rfl) (ev1 rfl)) ?_
      refine zaf ?_
      refine zae ?_
      refine zad ?_
      refine zab rfl rfl rfl (zac (.inr rfl) (ev1 rfl)) ?_
      refine zaf ?_
      refine zae ?_
      refine zae ?_
      by_cases ha : allC (fsR l (min l.length 4)) = true
      · refine zad ?_
        refine zab rfl rfl rfl (zac (.inl rfl) (ev1 rfl)) ?_
        refine zaf ?_
        refine dwp_if_t rfl (ha) ?_
        refine zad ?_
        refine zab rfl rfl rfl (zac (.inl rfl) (ev1 rfl)) ?_
        refine zab rfl rfl rfl (dop_call [] [] [] rfl (ev1 rfl) (ec (ev1 rfl) en) rfl rfl (runion_d (fsR l (min l.length 4)) ha (by omega)) rfl rfl rfl rfl rfl rfl) ?_
        refine zab rfl rfl rfl (zac (.inr rfl) (ev1 rfl)) ?_
        refine zab rfl rfl rfl (zac (.inr rfl) (ev1 rfl)) ?_
        refine zaf ?_
        refine zae ?_
        refine zae ?_
        refine zad ?_
        refine zab rfl rfl rfl (zac (.inl rfl) (ev1 rfl)) ?_
        refine zab rfl rfl rfl (zac (.inl rfl) (ev1 rfl)) ?_
        refine zab rfl rfl rfl ((op_neq rfl (ev1 rfl) (ev1 rfl)).cast (d' := .val (.bool false)) (by rw [(uni_ok ha).2]; rfl)) ?_
        refine zab rfl rfl rfl (zac (.inl rfl) (ev1 rfl)) ?_
        refine walk_k (gd_f (b := false) rfl rfl rfl) rfl rfl rfl (zac (.inl rfl) (ev1 rfl)) (by simp only [upd, zaa, za]; exact rfl) ?_
        refine walk_k (gd_f (b := false) rfl rfl rfl) rfl rfl rfl (zac (.inl rfl) (ev1 rfl)) (by simp only [upd, zaa, za]; exact rfl) ?_
        refine walk_k (gd_f (b := false) rfl rfl rfl) rfl rfl rfl ((dop_call [] [] [] rfl (ev1 rfl) (ec (ev2 rfl) (ec (ev2 rfl) en)) rfl rfl (equalS (uniL (fsR l (min l.length 4))) (uniL (fsR l (min l.length 4)))) rfl rfl rfl rfl rfl rfl).cast (d' := .val (.bool true)) (by rw [D.val.injEq, Value.bool.injEq]; simp)) (by simp only [upd, zaa, za]; exact rfl) ?_
        refine walk_k (gd_f (b := false) rfl rfl rfl) rfl rfl rfl ((op_not rfl (ev2 rfl)).cast (d' := .val (.bool false)) (by kernel_rfl)) (by simp only [upd, zaa, za]; exact rfl) ?_
        refine zab rfl rfl rfl ((op_or rfl (ev1 rfl) (ev3 rfl (fun _ => rfl))).cast (d' := .val (.bool false)) (by rfl)) ?_
        refine zaf ?_
        refine dwp_if_f rfl (rfl) ?_
        refine dwp_skip ?_
        refine zae ?_
        refine zae ?_
        have hfrl : (fsR l (min l.length 4)).length = min l.length 4 := fsR_len (by omega)
        refine zad ?_
        refine zab rfl rfl rfl (zac (.inl rfl) (ev1 rfl)) ?_
        refine zab rfl rfl rfl (op_lenm rfl sl51 (ev1 rfl)) ?_
        refine zab rfl rfl rfl (zac (.inl rfl) (ev1 rfl)) ?_
        refine zaf ?_
        refine dwp_block ?_
        refine dwp_loopS ⟨hs0, rfl⟩ (α := Nat) (fun k => [(166, .val (.int .i64 (k : Int)))]) [(0, _), (6, _), (164, _), (165, _)] (fun k => []) [_, _, _] (fun k => k ≤ (fsR l (min l.length 4)).length) (fun k => (fsR l (min l.length 4)).length - k) 0 [0, 1, 2] (Nat.zero_le _) rfl ⟨rfl, rfl, rfl, rfl, trivial⟩ ⟨rfl, trivial⟩ ⟨rfl, rfl, rfl, trivial⟩ ?_
        intro k hx
        simp only [upd, zaa, za, List.cons_append, List.nil_append]
        have hk0 := hx
        refine zae ?_
        refine zad ?_
        refine zab rfl rfl rfl (op_lss rfl (ev1 rfl) (ev1 rfl)) ?_
        refine zaf ?_
        refine zae ?_
        refine dwp_cond rfl (fun c6 => ?_) (fun c6 => ?_)
        · try simp only [yg, ya, beq_iff_eq, bne_iff_ne, yb, yc, yf, ye, yh, yi, yd, ne_eq, yj, Int.not_lt, Int.not_le] at c6
          refine dwp_skip ?_
          refine zae ?_
          refine dwp_block ?_
          refine zae ?_
          have hk : k < (fsR l (min l.length 4)).length := by omega
          have hkl : k < l.length := by omega
          refine zad ?_
          refine zab rfl rfl rfl (zac (.inl rfl) (ev1 rfl)) ?_
          refine zab rfl rfl rfl (op_ixm (k) rfl sl51 (ev1 rfl) (ev1 rfl) (fun _ => rfl) (flat1_at (by omega))) ?_
          refine zab rfl rfl rfl (op_lddm rfl tb32 (ev1 rfl) rfl) ?_
          refine zab rfl rfl rfl (zac (.inr rfl) (ev1 rfl)) ?_
          refine zab rfl rfl rfl (zac (.inr rfl) (ev1 rfl)) ?_
          refine zaf ?_
          refine zae ?_
          refine zad ?_
          refine zab rfl rfl rfl (zac (.inl rfl) (ev1 rfl)) ?_
          refine zab rfl rfl rfl (zac (.inl rfl) (ev1 rfl)) ?_
          refine zab rfl rfl rfl (zac (.inl rfl) (ev1 rfl)) ?_
          refine zab rfl rfl rfl (op_ixm (k) rfl sl51 (ev1 rfl) (ev1 rfl) (fun _ => rfl) (flat1_at (by omega))) ?_
          refine zab rfl rfl rfl (op_lddm rfl tb32 (ev1 rfl) rfl) ?_
          refine zab rfl rfl rfl (dop_call [] [] [] rfl (ev1 rfl) (ec (ev1 rfl) en) rfl rfl (few_d l[k]) rfl rfl rfl rfl rfl rfl) ?_
          refine zab rfl rfl rfl ((dop_call [] [] [] rfl (ev1 rfl) (ec (ev1 rfl) (ec (ev1 rfl) en)) rfl rfl (equalS (fsR l (min l.length 4))[k] (fewL l[k])) rfl rfl rfl rfl rfl rfl).cast (d' := .val (.bool true)) (by rw [fsR_at hk hkl]; simp)) ?_
          refine zab rfl rfl rfl ((op_not rfl (ev1 rfl)).cast (d' := .val (.bool false)) (by kernel_rfl)) ?_
          refine zaf ?_
          refine dwp_if_f rfl (rfl) ?_
          refine dwp_skip ?_
          refine zad ?_
          refine zab rfl rfl rfl (op_add' rfl (ev1 rfl) (ev1 rfl) (fun _ => IntWalk.i64_in _ (by omega))) ?_
          refine zab rfl rfl rfl (zac (.inl rfl) (ev1 rfl)) ?_
          refine zaf ?_
          refine ⟨k + 1, [0, 1, 2], by omega, by simp only []; omega, rfl, ⟨rfl, rfl, rfl, rfl, rfl, trivial⟩, ⟨rfl, rfl, rfl, trivial⟩⟩
        · try simp only [yg, ya, beq_iff_eq, bne_iff_ne, yb, yc, yf, ye, yh, yi, yd, ne_eq, yj, Int.not_lt, Int.not_le] at c6
          refine dwp_exit ?_
          refine zae ?_
          refine zad ?_
          refine walk_s rfl rfl (op_stwb rfl tb4 (ev1 rfl) (ev1 rfl) rfl) (by simp only [upd, zaa, za]; exact rfl) ?_
          refine zaf ?_
          refine dwp_ret ?_
          refine kend0 (rs1 rfl (rv_1 tb4 rfl rfl rfl)) rfl ?_
          rfl
      · refine zad ?_
        refine zab rfl rfl rfl (zac (.inl rfl) (ev1 rfl)) ?_
        refine zaf ?_
        refine dwp_if_f rfl ((Bool.eq_false_iff.2 ha)) ?_
        refine dwp_skip ?_
        refine zae ?_
        refine zae ?_
        refine zad ?_
        refine zab rfl rfl rfl (zac (.inl rfl) (ev1 rfl)) ?_
        refine zab rfl rfl rfl (zac (.inl rfl) (ev1 rfl)) ?_
        refine zab rfl rfl rfl ((op_neq rfl (ev1 rfl) (ev1 rfl)).cast (d' := .val (.bool false)) (by rw [(uni_no (Bool.eq_false_iff.2 ha)).2]; rfl)) ?_
        refine zab rfl rfl rfl (zac (.inl rfl) (ev1 rfl)) ?_
        refine walk_k (gd_f (b := false) rfl rfl rfl) rfl rfl rfl (zac (.inl rfl) (ev1 rfl)) (by simp only [upd, zaa, za]; exact rfl) ?_
        refine walk_k (gd_f (b := false) rfl rfl rfl) rfl rfl rfl (zac (.inl rfl) (ev1 rfl)) (by simp only [upd, zaa, za]; exact rfl) ?_
        refine walk_k (gd_f (b := false) rfl rfl rfl) rfl rfl rfl ((dop_call [] [] [] rfl (ev1 rfl) (ec (ev2 rfl) (ec (evnil 3 (ev2 rfl)) en)) rfl rfl (equalS (uniL (fsR l (min l.length 4))) []) rfl rfl rfl rfl rfl rfl).cast (d' := .val (.bool true)) (by rw [(uni_no (Bool.eq_false_iff.2 ha)).1]; simp)) (by simp only [upd, zaa, za]; exact rfl) ?_
        refine walk_k (gd_f (b := false) rfl rfl rfl) rfl rfl rfl ((op_not rfl (ev2 rfl)).cast (d' := .val (.bool false)) (by kernel_rfl)) (by simp only [upd, zaa, za]; exact rfl) ?_
        refine zab rfl rfl rfl ((op_or rfl (ev1 rfl) (ev3 rfl (fun _ => rfl))).cast (d' := .val (.bool false)) (by rfl)) ?_
        refine zaf ?_
        refine dwp_if_f rfl (rfl) ?_
        refine dwp_skip ?_
        refine zae ?_
        refine zae ?_
        have hfrl : (fsR l (min l.length 4)).length = min l.length 4 := fsR_len (by omega)
        refine zad ?_
        refine zab rfl rfl rfl (zac (.inl rfl) (ev1 rfl)) ?_
        refine zab rfl rfl rfl (op_lenm rfl sl51 (ev1 rfl)) ?_
        refine zab rfl rfl rfl (zac (.inl rfl) (ev1 rfl)) ?_
        refine zaf ?_
        refine dwp_block ?_
        refine dwp_loopS ⟨hs0, rfl⟩ (α := Nat) (fun k => [(166, .val (.int .i64 (k : Int)))]) [(0, _), (6, _), (164, _), (165, _)] (fun k => []) [_, _, _] (fun k => k ≤ (fsR l (min l.length 4)).length) (fun k => (fsR l (min l.length 4)).length - k) 0 [0, 1, 2] (Nat.zero_le _) rfl ⟨rfl, rfl, rfl, rfl, trivial⟩ ⟨rfl, trivial⟩ ⟨rfl, rfl, rfl, trivial⟩ ?_
        intro k hx
        simp only [upd, zaa, za, List.cons_append, List.nil_append]
        have hk0 := hx
        refine zae ?_
        refine zad ?_
        refine zab rfl rfl rfl (op_lss rfl (ev1 rfl) (ev1 rfl)) ?_
        refine zaf ?_
        refine zae ?_
        refine dwp_cond rfl (fun c10 => ?_) (fun c10 => ?_)
        · try simp only [yg, ya, beq_iff_eq, bne_iff_ne, yb, yc, yf, ye, yh, yi, yd, ne_eq, yj, Int.not_lt, Int.not_le] at c10
          refine dwp_skip ?_
          refine zae ?_
          refine dwp_block ?_
          refine zae ?_
          have hk : k < (fsR l (min l.length 4)).length := by omega
          have hkl : k < l.length := by omega
          refine zad ?_
          refine zab rfl rfl rfl (zac (.inl rfl) (ev1 rfl)) ?_
          refine zab rfl rfl rfl (op_ixm (k) rfl sl51 (ev1 rfl) (ev1 rfl) (fun _ => rfl) (flat1_at (by omega))) ?_
          refine zab rfl rfl rfl (op_lddm rfl tb32 (ev1 rfl) rfl) ?_
          refine zab rfl rfl rfl (zac (.inr rfl) (ev1 rfl)) ?_
          refine zab rfl rfl rfl (zac (.inr rfl) (ev1 rfl)) ?_
          refine zaf ?_
          refine zae ?_
          refine zad ?_
          refine zab rfl rfl rfl (zac (.inl rfl) (ev1 rfl)) ?_
          refine zab rfl rfl rfl (zac (.inl rfl) (ev1 rfl)) ?_
          refine zab rfl rfl rfl (zac (.inl rfl) (ev1 rfl)) ?_
          refine zab rfl rfl rfl (op_ixm (k) rfl sl51 (ev1 rfl) (ev1 rfl) (fun _ => rfl) (flat1_at (by omega))) ?_
          refine zab rfl rfl rfl (op_lddm rfl tb32 (ev1 rfl) rfl) ?_
          refine zab rfl rfl rfl (dop_call [] [] [] rfl (ev1 rfl) (ec (ev1 rfl) en) rfl rfl (few_d l[k]) rfl rfl rfl rfl rfl rfl) ?_
          refine zab rfl rfl rfl ((dop_call [] [] [] rfl (ev1 rfl) (ec (ev1 rfl) (ec (ev1 rfl) en)) rfl rfl (equalS (fsR l (min l.length 4))[k] (fewL l[k])) rfl rfl rfl rfl rfl rfl).cast (d' := .val (.bool true)) (by rw [fsR_at hk hkl]; simp)) ?_
          refine zab rfl rfl rfl ((op_not rfl (ev1 rfl)).cast (d' := .val (.bool false)) (by kernel_rfl)) ?_
          refine zaf ?_
          refine dwp_if_f rfl (rfl) ?_
          refine dwp_skip ?_
          refine zad ?_
          refine zab rfl rfl rfl (op_add' rfl (ev1 rfl) (ev1 rfl) (fun _ => IntWalk.i64_in _ (by omega))) ?_
          refine zab rfl rfl rfl (zac (.inl rfl) (ev1 rfl)) ?_
          refine zaf ?_
          refine ⟨k + 1, [0, 1, 2], by omega, by simp only []; omega, rfl, ⟨rfl, rfl, rfl, rfl, rfl, trivial⟩, ⟨rfl, rfl, rfl, trivial⟩⟩
        · try simp only [yg, ya, beq_iff_eq, bne_iff_ne, yb, yc, yf, ye, yh, yi, yd, ne_eq, yj, Int.not_lt, Int.not_le] at c10
          refine dwp_exit ?_
          refine zae ?_
          refine zad ?_
          refine walk_s rfl rfl (op_stwb rfl tb4 (ev1 rfl) (ev1 rfl) rfl) (by simp only [upd, zaa, za]; exact rfl) ?_
          refine zaf ?_
          refine dwp_ret ?_
          refine kend0 (rs1 rfl (rv_1 tb4 rfl rfl rfl)) rfl ?_
          rfl
    · try simp only [yg, ya, beq_iff_eq, bne_iff_ne, yb, yc, yf, ye, yh, yi, yd, ne_eq, yj, Int.not_lt, Int.not_le] at c3
      refine dwp_skip ?_
      refine zae ?_
      have hxl := fewL_len l[i]
      have hi4 : i < 4 := by omega
      refine dwp_holes 1 (by simp only [holes, List.cons_append, List.nil_append]; exact rfl) ?_
      refine zad ?_
      refine zab rfl rfl rfl (zac (.inl rfl) (ev1 rfl)) ?_
      refine zab rfl rfl rfl (dop_call [] [] [] rfl (ev1 rfl) (ec (ev1 rfl) en) rfl rfl (few_d l[i]) rfl rfl rfl rfl rfl rfl) ?_
      refine walk_w rfl rfl rfl (op_alloc 3 rfl zr32 rfl) (by simp only [upd, zaa, za]; exact rfl) ?_
      refine walk_s rfl rfl (op_stfm rfl tb32 (ev1 rfl) (ev1 rfl) (fun s v h => by cases h <;> exact ⟨rfl, rfl⟩) rfl (by decide)) (by simp only [upd, zaa, za]; exact rfl) ?_
      refine zaf ?_
      refine zae ?_
      by_cases hc : chkS (fewL l[i])
      · refine dwp_holes 1 (by simp only [holes, List.cons_append, List.nil_append]; exact rfl) ?_
        refine zad ?_
        refine zab rfl rfl rfl (op_ldm rfl tb32 (ev1 rfl) rfl rfl) ?_
        refine zab rfl rfl rfl ((dop_call [] [] [] rfl (ev1 rfl) (ec (ev1 rfl) en) rfl rfl (rright_d (fewL l[i])) rfl rfl rfl rfl rfl rfl).cast (d' := .val (.bool true)) (by rw [decide_eq_true hc])) ?_
        refine walk_w rfl rfl rfl (op_alloc 4 rfl zr4 rfl) (by simp only [upd, zaa, za]; exact rfl) ?_
        refine walk_s rfl rfl (op_stwb rfl tb4 (ev1 rfl) (ev1 rfl) rfl) (by simp only [upd, zaa, za]; exact rfl) ?_
        refine zaf ?_
        refine zae ?_
        refine dwp_holes 1 (by simp only [holes, List.cons_append, List.nil_append]; exact rfl) ?_
        refine dwp_draw [([], []), ([3], []), ([], []), ([2, 5], [2, 5]), ([], []), ([], []), ([4], []), ([], []), ([], []), ([], [])] mixed (by kernel_rfl) ?_
        refine lex_r rfl rfl (zac (.inl rfl) (ev1 rfl)) ?_
        refine lex_r rfl rfl (op_ldm rfl tb32 (ev1 rfl) rfl rfl) ?_
        refine lex_r rfl rfl (op_bsm (ps := [(0, .tmp 47)]) rfl sl51 zr32 rfl (ec (ev1 rfl) en) rfl (by decide)) ?_
        refine lex_w rfl rfl (op_appx (j := 5) rfl sl51 zr32 rfl (ev1 rfl) (ev1 rfl) rfl rfl rfl (fun _ => ⟨by omega, by omega⟩)) rfl (by simp only [upd, zaa, za]; exact rfl) ?_
        refine lex_r rfl rfl (zac (.inl rfl) (ev1 rfl)) ?_
        refine lex_r rfl rfl (zac (.inl rfl) (ev1 rfl)) ?_
        refine lex_gr (gd_t rfl rfl rfl) rfl rfl ((op_ldo rfl tb4 (ev1 rfl) rfl rfl).cast (d' := .val (.bool true)) (rfl)) ?_
        refine lex_r rfl rfl (op_and rfl (ev1 rfl) (ev3 rfl id)) ?_
        refine lex_r rfl rfl (zac (.inr rfl) (ev1 rfl)) ?_
        refine lex_r rfl rfl (zac (.inr rfl) (ev1 rfl)) ?_
        refine lex_nil ?_
        refine zae ?_
        refine zae ?_
        refine zad ?_
        refine zab rfl rfl rfl (op_ldm rfl tb32 (ev1 rfl) rfl rfl) ?_
        refine zab rfl rfl rfl (dop_call [] [] [] rfl (ev1 rfl) (ec (ev1 rfl) en) rfl rfl (check_d (fewL l[i])) rfl rfl rfl rfl rfl rfl) ?_
        refine zab rfl rfl rfl (zac (.inr rfl) (ev1 rfl)) ?_
        refine zaf ?_
        refine zae ?_
        refine zad ?_
        refine zab rfl rfl rfl (zac (.inl rfl) (ev1 rfl)) ?_
        refine zab rfl rfl rfl ((op_eql rfl (ev1 rfl) (ev1 rfl)).cast (d' := .val (.bool true)) (by rw [chkE_ok hc]; rfl)) ?_
        refine zab rfl rfl rfl ((op_ldo rfl tb4 (ev1 rfl) rfl rfl).cast (d' := .val (.bool true)) (rfl)) ?_
        refine zab rfl rfl rfl ((op_neb rfl un4 (ev1 rfl) (ev1 rfl)).cast (d' := .val (.bool false)) (by kernel_rfl)) ?_
        refine zab rfl rfl rfl (zac (.inl rfl) (ev1 rfl)) ?_
        refine walk_k (gd_f (b := false) rfl rfl rfl) rfl rfl rfl (zac (.inl rfl) (ev1 rfl)) (by simp only [upd, zaa, za]; exact rfl) ?_
        refine walk_k (gd_f (b := false) rfl rfl rfl) rfl rfl rfl ((op_neq rfl (ev2 rfl) (ev1 rfl)).cast (d' := .val (.bool false)) (by rw [chkE_ok hc]; rfl)) (by simp only [upd, zaa, za]; exact rfl) ?_
        refine walk_k (gd_f (b := false) rfl rfl rfl) rfl rfl rfl (zac (.inl rfl) (ev2 rfl)) (by simp only [upd, zaa, za]; exact rfl) ?_
        refine walk_gr (gd_tt (g := true) (b := false) rfl rfl rfl) rfl rfl rfl (dop_never (d := .junk)) ?_
        refine walk_gr (gd_tt (g := true) (b := false) rfl rfl rfl) rfl rfl rfl (dop_never (d := .val (.bool false))) ?_
        refine walk_k (gd_f (b := false) rfl rfl rfl) rfl rfl rfl ((op_and rfl (ev2 rfl) (ev3 rfl id)).cast (d' := .val (.bool false)) (by rfl)) (by simp only [upd, zaa, za]; exact rfl) ?_
        refine zab rfl rfl rfl ((op_or rfl (ev1 rfl) (ev3 rfl (fun _ => rfl))).cast (d' := .val (.bool false)) (by rfl)) ?_
        refine zaf ?_
        refine dwp_if_f rfl (rfl) ?_
        refine dwp_skip ?_
        refine zae ?_
        refine zad ?_
        refine zab rfl rfl rfl (op_ldm rfl tb32 (ev1 rfl) rfl rfl) ?_
        refine zab rfl rfl rfl (op_ldw rfl tb53 (ev1 rfl) rfl rfl) ?_
        refine zab rfl rfl rfl (dop_call [] [] [] rfl (ev1 rfl) (ec (ev1 rfl) (ec (ev1 rfl) en)) rfl rfl (clip_d (fewL l[i]) c (by omega)) rfl rfl rfl rfl rfl rfl) ?_
        refine zab rfl rfl rfl (zac (.inl rfl) (ev1 rfl)) ?_
        refine zab rfl rfl rfl (op_ext rfl (ev1 rfl) rfl) ?_
        refine zab rfl rfl rfl (op_ext rfl (ev1 rfl) rfl) ?_
        refine zab rfl rfl rfl (zac (.inr rfl) (ev1 rfl)) ?_
        refine zab rfl rfl rfl (zac (.inr rfl) (ev1 rfl)) ?_
        refine zaf ?_
        refine zae ?_
        refine zad ?_
        refine zab rfl rfl rfl (zac (.inr rfl) (ev1 rfl)) ?_
        refine zaf ?_
        refine zae ?_
        refine zad ?_
        refine zab rfl rfl rfl (zac (.inr rfl) (ev1 rfl)) ?_
        refine zaf ?_
        refine zae ?_
        refine zae ?_
        refine zad ?_
        refine zab rfl rfl rfl ((op_ldo rfl tb4 (ev1 rfl) rfl rfl).cast (d' := .val (.bool true)) (rfl)) ?_
        refine zaf ?_
        refine dwp_if_t rfl (rfl) ?_
        refine zad ?_
        refine zab rfl rfl rfl (op_ldm rfl tb32 (ev1 rfl) rfl rfl) ?_
        refine zab rfl rfl rfl (op_ldw rfl tb53 (ev1 rfl) rfl rfl) ?_
        refine zab rfl rfl rfl (dop_call [] [] [] rfl (ev1 rfl) (ec (ev1 rfl) (ec (ev1 rfl) en)) rfl rfl (rclip_d (fewL l[i]) c (by omega)) rfl rfl rfl rfl rfl rfl) ?_
        refine zab rfl rfl rfl (zac (.inr rfl) (ev1 rfl)) ?_
        refine zab rfl rfl rfl (zac (.inr rfl) (ev1 rfl)) ?_
        refine zaf ?_
        refine zae ?_
        refine zae ?_
        refine zad ?_
        refine zab rfl rfl rfl (zac (.inl rfl) (ev1 rfl)) ?_
        refine zab rfl rfl rfl (zac (.inl rfl) (ev1 rfl)) ?_
        refine zab rfl rfl rfl ((op_neq rfl (ev1 rfl) (ev1 rfl)).cast (d' := .val (.bool false)) (by rw [chkE_ok hc]; rfl)) ?_
        refine zab rfl rfl rfl (zac (.inl rfl) (ev1 rfl)) ?_
        refine walk_k (gd_f (b := false) rfl rfl rfl) rfl rfl rfl (zac (.inl rfl) (ev1 rfl)) (by simp only [upd, zaa, za]; exact rfl) ?_
        refine walk_k (gd_f (b := false) rfl rfl rfl) rfl rfl rfl (zac (.inl rfl) (ev1 rfl)) (by simp only [upd, zaa, za]; exact rfl) ?_
        refine walk_k (gd_f (b := false) rfl rfl rfl) rfl rfl rfl ((dop_call [] [] [] rfl (ev1 rfl) (ec (ev2 rfl) (ec (ev2 rfl) en)) rfl rfl (equalS (clipL c (fewL l[i])) (clipS c (fewL l[i]))) rfl rfl rfl rfl rfl rfl).cast (d' := .val (.bool true)) (by rw [clipL_ok hc]; simp)) (by simp only [upd, zaa, za]; exact rfl) ?_
        refine walk_k (gd_f (b := false) rfl rfl rfl) rfl rfl rfl ((op_not rfl (ev2 rfl)).cast (d' := .val (.bool false)) (by kernel_rfl)) (by simp only [upd, zaa, za]; exact rfl) ?_
        refine zab rfl rfl rfl ((op_or rfl (ev1 rfl) (ev3 rfl (fun _ => rfl))).cast (d' := .val (.bool false)) (by rfl)) ?_
        refine zaf ?_
        refine dwp_if_f rfl (rfl) ?_
        refine dwp_skip ?_
        refine zae ?_
        refine dwp_holes 1 (by simp only [holes, List.cons_append, List.nil_append]; exact rfl) ?_
        refine zad ?_
        refine walk_w rfl rfl rfl (op_alloc 6 rfl zr3 rfl) (by simp only [upd, zaa, za]; exact rfl) ?_
        refine walk_s rfl rfl (op_stwi rfl tb3 (ev1 rfl) (ev1 rfl) rfl) (by simp only [upd, zaa, za]; exact rfl) ?_
        refine zaf ?_
        refine zae ?_
        refine zae ?_
        refine dwp_holes 1 (by simp only [holes, List.cons_append, List.nil_append]; exact rfl) ?_
        refine zad ?_
        refine zab rfl rfl rfl (op_ldm rfl tb32 (ev1 rfl) rfl rfl) ?_
        refine walk_w rfl rfl rfl (dop_call [] [] [7] rfl (ev1 rfl) (ec (ev1 rfl) en) rfl rfl (all_d (fewL l[i]) (by omega)) rfl rfl rfl rfl rfl rfl) (by simp only [upd, zaa, za]; exact rfl) ?_
        refine zaf ?_
        refine dwp_block ?_
        refine dwp_hole ?_
        simp only [List.cons_append, List.nil_append]
        refine dwp_rf (FL := [(6, _), (11, _), (12, _), (18, _)]) (st := .ready) (pe := none) [8, 1, 3, 4, 6, 7] [] [] 8 rfl rfl (ev1 rfl) rfl (subF_lk ⟨rfl, rfl, rfl, rfl, trivial⟩) rfl rfl rfl (rw_all (fewL l[i]) true (by simp [hc]) (by omega) (by omega)) rfl rfl rfl rfl rfl rfl rfl (by simp) (fun e => ?_) (fun c e => ?_)
        · simp only [upd, zaa, za]
          refine zae ?_
          refine zad ?_
          refine zab rfl rfl rfl (zac (.inr rfl) (ev1 rfl)) ?_
          refine zaf ?_
          refine zae ?_
          refine zae ?_
          refine zad ?_
          refine zab rfl rfl rfl (op_ldm rfl tb32 (ev1 rfl) rfl rfl) ?_
          refine zab rfl rfl rfl (op_len rfl sl32 (ev1 rfl)) ?_
          refine zab rfl rfl rfl (zac (.inl rfl) (ev1 rfl)) ?_
          refine zaf ?_
          refine dwp_block ?_
          refine dwp_loopS ⟨hs0, rfl⟩ (α := Nat) (fun j => [(20, .val (.int .i64 (cntS ((fewL l[i]).take j) : Int))), (102, .val (.int .i64 (j : Int)))]) [(0, _), (2, _), (4, _), (6, _), (7, _), (8, _), (11, _), (12, _), (18, _), (33, _), (34, _), (35, _), (100, _), (101, _)] (fun j => [(5, .arx 32 1 (fsR l (i + 1)).length ((fsR l (i + 1)).flatMap fun l => [.slf 3 (l).length ((l).flatMap s3)]))]) [_, _, _, _, _, .hole, _, _, _] (fun j => j ≤ (fewL l[i]).length) (fun j => (fewL l[i]).length - j) 0 [0, 1, 2, 3, 4, 5, 6, 7, 8] (Nat.zero_le _) rfl ⟨rfl, rfl, rfl, rfl, rfl, rfl, rfl, rfl, rfl, rfl, rfl, rfl, rfl, rfl, trivial⟩ ⟨congrArg (fun z => some (D.val (.int .i64 z))) rfl, rfl, trivial⟩ ⟨rfl, rfl, rfl, rfl, rfl, arx_fits (by rw [fsR_add hi, List.length_append]; rfl) (by rw [fsR_add hi, List.flatMap_append]; rfl) (vwL_flat (fun _ => rfl) _), rfl, rfl, rfl, trivial⟩ ?_
          intro j hx
          simp only [upd, zaa, za, List.cons_append, List.nil_append]
          have hj0 := hx
          have hct := cnt_le hc j
          refine zae ?_
          refine zad ?_
          refine zab rfl rfl rfl (op_lss rfl (ev1 rfl) (ev1 rfl)) ?_
          refine zaf ?_
          refine zae ?_
          refine dwp_cond rfl (fun c15 => ?_) (fun c15 => ?_)
          · try simp only [yg, ya, beq_iff_eq, bne_iff_ne, yb, yc, yf, ye, yh, yi, yd, ne_eq, yj, Int.not_lt, Int.not_le] at c15
            refine dwp_skip ?_
            refine zae ?_
            refine dwp_block ?_
            refine zae ?_
            have hj : j < (fewL l[i]).length := by omega
            have hvj := hc.1 _ (List.getElem_mem hj)
            have hrj := hvj.1
            unfold rchS at hrj
            refine dwp_holes 1 (by simp only [holes, List.cons_append, List.nil_append]; exact rfl) ?_
            refine zad ?_
            refine zab rfl rfl rfl (op_ixsr (j := j) rfl sl32 (ev1 rfl) (ev1 rfl) (fun _ => rfl) (by decide) (by omega) (by omega)) ?_
            refine zab rfl rfl rfl (op_ldwd rfl tb40 (ev1 rfl) rfl) ?_
            refine walk_w rfl rfl rfl (op_alloc 9 rfl zr40 rfl) (by simp only [upd, zaa, za]; exact rfl) ?_
            refine walk_s rfl rfl (op_stwa rfl tb40 (ev1 rfl) (ev1 rfl) rfl rfl rfl rfl) (by simp only [upd, zaa, za]; exact rfl) ?_
            refine zaf ?_
            refine zae ?_
            refine zad ?_
            refine zab rfl rfl rfl ((op_ldo rfl tb4 (ev1 rfl) rfl rfl).cast (d' := .val (.bool true)) (rfl)) ?_
            refine zaf ?_
            refine dwp_if_t rfl (rfl) ?_
            refine zad ?_
            refine zab rfl rfl rfl (zac (.inl rfl) (ev1 rfl)) ?_
            refine zab rfl rfl rfl (op_fa rfl fo40_2 (ev1 rfl)) ?_
            refine zab rfl rfl rfl (op_ldo rfl tb3 (ev1 rfl) rfl rfl) ?_
            refine zab rfl rfl rfl (op_fa rfl fo40_1 (ev1 rfl)) ?_
            refine zab rfl rfl rfl (op_ldo rfl tb3 (ev1 rfl) rfl rfl) ?_
            refine zab rfl rfl rfl (op_sub' rfl (ev1 rfl) (ev1 rfl) (fun _ => IntWalk.i64_in _ (by omega))) ?_
            refine zab rfl rfl rfl (op_add' rfl (ev1 rfl) (ev1 rfl) (fun _ => IntWalk.i64_in _ (by omega))) ?_
            refine zab rfl rfl rfl (op_add' rfl (ev1 rfl) (ev1 rfl) (fun _ => IntWalk.i64_in _ (by omega))) ?_
            refine zab rfl rfl rfl (zac (.inr rfl) (ev1 rfl)) ?_
            refine zaf ?_
            refine zad ?_
            refine zab rfl rfl rfl (op_add' rfl (ev1 rfl) (ev1 rfl) (fun _ => IntWalk.i64_in _ (by omega))) ?_
            refine zab rfl rfl rfl (zac (.inl rfl) (ev1 rfl)) ?_
            refine zaf ?_
            refine ⟨j + 1, [0, 1, 2, 3, 4, 5, 6, 7, 8], by omega, by simp only []; omega, rfl, ⟨congrArg (fun z => some (D.val (.int .i64 z))) (by rw [cnt_add hj]; unfold Sp.wd; omega), rfl, rfl, rfl, rfl, rfl, rfl, rfl, rfl, rfl, rfl, rfl, rfl, rfl, rfl, rfl, trivial⟩, ⟨rfl, rfl, rfl, rfl, rfl, arx_fits rfl rfl (vwL_flat (fun _ => rfl) _), rfl, rfl, rfl, trivial⟩⟩
          · try simp only [yg, ya, beq_iff_eq, bne_iff_ne, yb, yc, yf, ye, yh, yi, yd, ne_eq, yj, Int.not_lt, Int.not_le] at c15
            refine dwp_exit ?_
            refine zae ?_
            refine zae ?_
            have hce : (fewL l[i]).take j = (fewL l[i]) := take_all (by omega)
            rw [hce]
            refine zad ?_
            refine zab rfl rfl rfl (op_ldm rfl tb32 (ev1 rfl) rfl rfl) ?_
            refine zab rfl rfl rfl (dop_call [] [] [] rfl (ev1 rfl) (ec (ev1 rfl) en) rfl rfl (count_d (fewL l[i]) (by omega)) rfl rfl rfl rfl rfl rfl) ?_
            refine zab rfl rfl rfl (zac (.inl rfl) (ev1 rfl)) ?_
            refine zab rfl rfl rfl ((op_neq rfl (ev1 rfl) (ev1 rfl)).cast (d' := .val (.bool false)) (by rw [D.val.injEq, Value.bool.injEq, cntL_ok hc]; simp)) ?_
            refine zab rfl rfl rfl (zac (.inl rfl) (ev1 rfl)) ?_
            refine walk_k (gd_f (b := false) rfl rfl rfl) rfl rfl rfl (op_ldo rfl tb3 (ev1 rfl) rfl rfl) (by simp only [upd, zaa, za]; exact rfl) ?_
            refine walk_k (gd_f (b := false) rfl rfl rfl) rfl rfl rfl (zac (.inl rfl) (ev1 rfl)) (by simp only [upd, zaa, za]; exact rfl) ?_
            refine walk_k (gd_f (b := false) rfl rfl rfl) rfl rfl rfl ((op_neq rfl (ev2 rfl) (ev2 rfl)).cast (d' := .val (.bool false)) (by rw [D.val.injEq, Value.bool.injEq, ptsL_ok hc, ptsS_len]; simp)) (by simp only [upd, zaa, za]; exact rfl) ?_
            refine zab rfl rfl rfl ((op_or rfl (ev1 rfl) (ev3 rfl (fun _ => rfl))).cast (d' := .val (.bool false)) (by rfl)) ?_
            refine zaf ?_
            refine dwp_if_f rfl (rfl) ?_
            refine dwp_skip ?_
            refine zae ?_
            refine zad ?_
            refine zab rfl rfl rfl (zac (.inl rfl) (ev1 rfl)) ?_
            refine zab rfl rfl rfl (zac (.inl rfl) (ev1 rfl)) ?_
            refine zab rfl rfl rfl (op_len rfl sl28 (ev1 rfl)) ?_
            refine zab rfl rfl rfl (op_min rfl (ev1 rfl) (ev1 rfl)) ?_
            refine zab rfl rfl rfl (op_sltk (j := min d.length 8) rfl sl28 (ev1 rfl) (bd_some (ev1 rfl)) (fun _ => by omega) (fun _ => by omega) (fun _ => rfl)) ?_
            refine zab rfl rfl rfl (op_len rfl sl28 (ev1 rfl)) ?_
            refine zab rfl rfl rfl (zac (.inl rfl) (ev1 rfl)) ?_
            refine zaf ?_
            refine dwp_block ?_
            refine dwp_loopS ⟨hs0, rfl⟩ (α := Nat) (fun m => [(131, .val (.int .i64 (m : Int)))]) [(0, _), (2, _), (4, _), (6, _), (7, _), (8, _), (11, _), (12, _), (33, _), (34, _), (35, _), (129, _), (130, _)] (fun m => [(5, .arx 32 1 (fsR l (i + 1)).length ((fsR l (i + 1)).flatMap fun l => [.slf 3 (l).length ((l).flatMap s3)]))]) [_, _, _, _, _, .hole, _, _, _] (fun m => m ≤ (d.take (min d.length 8)).length) (fun m => (d.take (min d.length 8)).length - m) 0 [0, 1, 2, 3, 4, 5, 6, 7, 8] (Nat.zero_le _) rfl ⟨rfl, rfl, rfl, rfl, rfl, rfl, rfl, rfl, rfl, rfl, rfl, rfl, rfl, trivial⟩ ⟨rfl, trivial⟩ ⟨rfl, rfl, rfl, rfl, rfl, arx_fits rfl rfl (vwL_flat (fun _ => rfl) _), rfl, rfl, rfl, trivial⟩ ?_
            intro m hx
            simp only [upd, zaa, za, List.cons_append, List.nil_append]
            have hm0 := hx
            refine zae ?_
            refine zad ?_
            refine zab rfl rfl rfl (op_lss rfl (ev1 rfl) (ev1 rfl)) ?_
            refine zaf ?_
            refine zae ?_
            refine dwp_cond rfl (fun c18 => ?_) (fun c18 => ?_)
            · try simp only [yg, ya, beq_iff_eq, bne_iff_ne, yb, yc, yf, ye, yh, yi, yd, ne_eq, yj, Int.not_lt, Int.not_le] at c18
              refine dwp_skip ?_
              refine zae ?_
              refine dwp_block ?_
              refine zae ?_
              have hm : m < (d.take (min d.length 8)).length := by omega
              refine dwp_holes 1 (by simp only [holes, List.cons_append, List.nil_append]; exact rfl) ?_
              refine zad ?_
              refine zab rfl rfl rfl (op_ixsr (j := m) rfl sl28 (ev1 rfl) (ev1 rfl) (fun _ => rfl) (by decide) (by omega) (by omega)) ?_
              refine zab rfl rfl rfl (op_ldwd rfl tb25 (ev1 rfl) rfl) ?_
              refine walk_w rfl rfl rfl (op_alloc 9 rfl zr25 rfl) (by simp only [upd, zaa, za]; exact rfl) ?_
              refine walk_s rfl rfl (op_stwa rfl tb25 (ev1 rfl) (ev1 rfl) rfl rfl rfl rfl) (by simp only [upd, zaa, za]; exact rfl) ?_
              refine zaf ?_
              refine zae ?_
              refine dwp_draw [([3], []), ([9], []), ([], []), ([4], []), ([], []), ([3], []), ([9], []), ([], []), ([], []), ([], [])] mixed (by kernel_rfl) ?_
              refine lex_r rfl rfl (op_ldm rfl tb32 (ev1 rfl) rfl rfl) ?_
              refine lex_r rfl rfl (op_ldw rfl tb25 (ev1 rfl) rfl rfl) ?_
              refine lex_r rfl rfl (dop_call [] [] [] rfl (ev1 rfl) (ec (ev1 rfl) (ec (ev1 rfl) en)) rfl rfl (has_d (fewL l[i]) (d.take (min d.length 8))[m]) rfl rfl rfl rfl rfl rfl) ?_
              refine lex_r rfl rfl ((op_ldo rfl tb4 (ev1 rfl) rfl rfl).cast (d' := .val (.bool true)) (rfl)) ?_
              refine lex_r rfl rfl (zac (.inl rfl) (ev1 rfl)) ?_
              refine lex_k (gd_t (b := true) rfl rfl rfl) rfl rfl (op_ldm rfl tb32 (ev1 rfl) rfl rfl) rfl (by simp only [upd, zaa, za]; exact rfl) ?_
              refine lex_k (gd_t (b := true) rfl rfl rfl) rfl rfl (op_ldw rfl tb25 (ev1 rfl) rfl rfl) rfl (by simp only [upd, zaa, za]; exact rfl) ?_
              refine lex_k (gd_t (b := true) rfl rfl rfl) rfl rfl (dop_call [] [] [] rfl (ev1 rfl) (ec (ev2 rfl) (ec (ev2 rfl) en)) rfl rfl (rhas_d (fewL l[i]) (d.take (min d.length 8))[m]) rfl rfl rfl rfl rfl rfl) rfl (by simp only [upd, zaa, za]; exact rfl) ?_
              refine lex_r rfl rfl (op_and rfl (ev1 rfl) (ev3 rfl (fun _ => rfl))) ?_
              refine lex_r rfl rfl ((op_neb rfl un4 (ev1 rfl) (ev1 rfl)).cast (d' := .val (.bool false)) (by rw [D.val.injEq, Value.bool.injEq, has_r hc]; simp)) ?_
              refine lex_nil ?_
              refine dwp_if_f rfl (rfl) ?_
              refine dwp_skip ?_
              refine zad ?_
              refine zab rfl rfl rfl (op_add' rfl (ev1 rfl) (ev1 rfl) (fun _ => IntWalk.i64_in _ (by omega))) ?_
              refine zab rfl rfl rfl (zac (.inl rfl) (ev1 rfl)) ?_
              refine zaf ?_
              refine ⟨m + 1, [0, 1, 2, 3, 4, 5, 6, 7, 8], by omega, by simp only []; omega, rfl, ⟨rfl, rfl, rfl, rfl, rfl, rfl, rfl, rfl, rfl, rfl, rfl, rfl, rfl, rfl, trivial⟩, ⟨rfl, rfl, rfl, rfl, rfl, arx_fits rfl rfl (vwL_flat (fun _ => rfl) _), rfl, rfl, rfl, trivial⟩⟩
            · try simp only [yg, ya, beq_iff_eq, bne_iff_ne, yb, yc, yf, ye, yh, yi, yd, ne_eq, yj, Int.not_lt, Int.not_le] at c18
              refine dwp_exit ?_
              refine zad ?_
              refine zab rfl rfl rfl (op_add' rfl (ev1 rfl) (ev1 rfl) (fun _ => IntWalk.i64_in _ (by omega))) ?_
              refine zab rfl rfl rfl (zac (.inl rfl) (ev1 rfl)) ?_
              refine zaf ?_
              refine ⟨i + 1, [0, 1, 5], by omega, by simp only []; omega, rfl, ⟨congrArg (fun z => some (D.val (.bool z))) (by rw [allC_fs hi, decide_eq_true hc]), rfl, rfl, rfl, rfl, rfl, rfl, rfl, rfl, trivial⟩, ⟨rfl, rfl, arx_fits rfl rfl (vwL_flat (fun _ => rfl) _), trivial⟩⟩
        · cases e
      · refine dwp_holes 1 (by simp only [holes, List.cons_append, List.nil_append]; exact rfl) ?_
        refine zad ?_
        refine zab rfl rfl rfl (op_ldm rfl tb32 (ev1 rfl) rfl rfl) ?_
        refine zab rfl rfl rfl ((dop_call [] [] [] rfl (ev1 rfl) (ec (ev1 rfl) en) rfl rfl (rright_d (fewL l[i])) rfl rfl rfl rfl rfl rfl).cast (d' := .val (.bool false)) (by rw [decide_eq_false hc])) ?_
        refine walk_w rfl rfl rfl (op_alloc 4 rfl zr4 rfl) (by simp only [upd, zaa, za]; exact rfl) ?_
        refine walk_s rfl rfl (op_stwb rfl tb4 (ev1 rfl) (ev1 rfl) rfl) (by simp only [upd, zaa, za]; exact rfl) ?_
        refine zaf ?_
        refine zae ?_
        refine dwp_holes 1 (by simp only [holes, List.cons_append, List.nil_append]; exact rfl) ?_
        refine dwp_draw [([], []), ([3], []), ([], []), ([2, 5], [2, 5]), ([], []), ([], []), ([4], []), ([], []), ([], []), ([], [])] mixed (by kernel_rfl) ?_
        refine lex_r rfl rfl (zac (.inl rfl) (ev1 rfl)) ?_
        refine lex_r rfl rfl (op_ldm rfl tb32 (ev1 rfl) rfl rfl) ?_
        refine lex_r rfl rfl (op_bsm (ps := [(0, .tmp 47)]) rfl sl51 zr32 rfl (ec (ev1 rfl) en) rfl (by decide)) ?_
        refine lex_w rfl rfl (op_appx (j := 5) rfl sl51 zr32 rfl (ev1 rfl) (ev1 rfl) rfl rfl rfl (fun _ => ⟨by omega, by omega⟩)) rfl (by simp only [upd, zaa, za]; exact rfl) ?_
        refine lex_r rfl rfl (zac (.inl rfl) (ev1 rfl)) ?_
        refine lex_r rfl rfl (zac (.inl rfl) (ev1 rfl)) ?_
        refine lex_gr (gd_t rfl rfl rfl) rfl rfl ((op_ldo rfl tb4 (ev1 rfl) rfl rfl).cast (d' := .val (.bool false)) (rfl)) ?_
        refine lex_r rfl rfl (op_and rfl (ev1 rfl) (ev3 rfl id)) ?_
        refine lex_r rfl rfl (zac (.inr rfl) (ev1 rfl)) ?_
        refine lex_r rfl rfl (zac (.inr rfl) (ev1 rfl)) ?_
        refine lex_nil ?_
        refine zae ?_
        refine zae ?_
        refine zad ?_
        refine zab rfl rfl rfl (op_ldm rfl tb32 (ev1 rfl) rfl rfl) ?_
        refine zab rfl rfl rfl (dop_call [] [] [] rfl (ev1 rfl) (ec (ev1 rfl) en) rfl rfl (check_d (fewL l[i])) rfl rfl rfl rfl rfl rfl) ?_
        refine zab rfl rfl rfl (zac (.inr rfl) (ev1 rfl)) ?_
        refine zaf ?_
        refine zae ?_
        refine zad ?_
        refine zab rfl rfl rfl (zac (.inl rfl) (ev1 rfl)) ?_
        refine zab rfl rfl rfl ((op_eql rfl (ev1 rfl) (ev1 rfl)).cast (d' := .val (.bool false)) (by rw [chkE_no hc]; rfl)) ?_
        refine zab rfl rfl rfl ((op_ldo rfl tb4 (ev1 rfl) rfl rfl).cast (d' := .val (.bool false)) (rfl)) ?_
        refine zab rfl rfl rfl ((op_neb rfl un4 (ev1 rfl) (ev1 rfl)).cast (d' := .val (.bool false)) (by kernel_rfl)) ?_
        refine zab rfl rfl rfl (zac (.inl rfl) (ev1 rfl)) ?_
        refine walk_k (gd_f (b := false) rfl rfl rfl) rfl rfl rfl (zac (.inl rfl) (ev1 rfl)) (by simp only [upd, zaa, za]; exact rfl) ?_
        refine walk_k (gd_f (b := false) rfl rfl rfl) rfl rfl rfl ((op_neq rfl (ev2 rfl) (ev1 rfl)).cast (d' := .val (.bool true)) (by rw [chkE_no hc]; rfl)) (by simp only [upd, zaa, za]; exact rfl) ?_
        refine walk_k (gd_f (b := false) rfl rfl rfl) rfl rfl rfl (zac (.inl rfl) (ev2 rfl)) (by simp only [upd, zaa, za]; exact rfl) ?_
        refine walk_k (gd_tt (g := true) (b := true) rfl rfl rfl) rfl rfl rfl (zac (.inl rfl) (ev1 rfl)) (by simp only [upd, zaa, za]; exact rfl) ?_
        refine walk_k (gd_tt (g := true) (b := true) rfl rfl rfl) rfl rfl rfl ((op_neq rfl (ev2 rfl) (ev1 rfl)).cast (d' := .val (.bool false)) (by rw [chkE_no hc]; rfl)) (by simp only [upd, zaa, za]; exact rfl) ?_
        refine walk_k (gd_f (b := false) rfl rfl rfl) rfl rfl rfl ((op_and rfl (ev2 rfl) (ev3 rfl (fun _ => rfl))).cast (d' := .val (.bool false)) (by rfl)) (by simp only [upd, zaa, za]; exact rfl) ?_
        refine zab rfl rfl rfl ((op_or rfl (ev1 rfl) (ev3 rfl (fun _ => rfl))).cast (d' := .val (.bool false)) (by rfl)) ?_
        refine zaf ?_
        refine dwp_if_f rfl (rfl) ?_
        refine dwp_skip ?_
        refine zae ?_
        refine zad ?_
        refine zab rfl rfl rfl (op_ldm rfl tb32 (ev1 rfl) rfl rfl) ?_
        refine zab rfl rfl rfl (op_ldw rfl tb53 (ev1 rfl) rfl rfl) ?_
        refine zab rfl rfl rfl (dop_call [] [] [] rfl (ev1 rfl) (ec (ev1 rfl) (ec (ev1 rfl) en)) rfl rfl (clip_d (fewL l[i]) c (by omega)) rfl rfl rfl rfl rfl rfl) ?_
        refine zab rfl rfl rfl (zac (.inl rfl) (ev1 rfl)) ?_
        refine zab rfl rfl rfl (op_ext rfl (ev1 rfl) rfl) ?_
        refine zab rfl rfl rfl (op_ext rfl (ev1 rfl) rfl) ?_
        refine zab rfl rfl rfl (zac (.inr rfl) (ev1 rfl)) ?_
        refine zab rfl rfl rfl (zac (.inr rfl) (ev1 rfl)) ?_
        refine zaf ?_
        refine zae ?_
        refine zad ?_
        refine zab rfl rfl rfl (zac (.inr rfl) (ev1 rfl)) ?_
        refine zaf ?_
        refine zae ?_
        refine zad ?_
        refine zab rfl rfl rfl (zac (.inr rfl) (ev1 rfl)) ?_
        refine zaf ?_
        refine zae ?_
        refine zae ?_
        refine zad ?_
        refine zab rfl rfl rfl ((op_ldo rfl tb4 (ev1 rfl) rfl rfl).cast (d' := .val (.bool false)) (rfl)) ?_
        refine zaf ?_
        refine dwp_if_f rfl (rfl) ?_
        refine dwp_skip ?_
        refine zae ?_
        refine zae ?_
        refine zad ?_
        refine zab rfl rfl rfl (zac (.inl rfl) (ev1 rfl)) ?_
        refine zab rfl rfl rfl (zac (.inl rfl) (ev1 rfl)) ?_
        refine zab rfl rfl rfl ((op_neq rfl (ev1 rfl) (ev1 rfl)).cast (d' := .val (.bool false)) (by rw [chkE_no hc]; rfl)) ?_
        refine zab rfl rfl rfl (zac (.inl rfl) (ev1 rfl)) ?_
        refine walk_k (gd_f (b := false) rfl rfl rfl) rfl rfl rfl (zac (.inl rfl) (ev1 rfl)) (by simp only [upd, zaa, za]; exact rfl) ?_
        refine walk_k (gd_f (b := false) rfl rfl rfl) rfl rfl rfl (zac (.inl rfl) (ev1 rfl)) (by simp only [upd, zaa, za]; exact rfl) ?_
        refine walk_k (gd_f (b := false) rfl rfl rfl) rfl rfl rfl ((dop_call [] [] [] rfl (ev1 rfl) (ec (ev2 rfl) (ec (evnil 3 (ev2 rfl)) en)) rfl rfl (equalS (clipL c (fewL l[i])) []) rfl rfl rfl rfl rfl rfl).cast (d' := .val (.bool true)) (by rw [clipL_no hc]; simp)) (by simp only [upd, zaa, za]; exact rfl) ?_
        refine walk_k (gd_f (b := false) rfl rfl rfl) rfl rfl rfl ((op_not rfl (ev2 rfl)).cast (d' := .val (.bool false)) (by kernel_rfl)) (by simp only [upd, zaa, za]; exact rfl) ?_
        refine zab rfl rfl rfl ((op_or rfl (ev1 rfl) (ev3 rfl (fun _ => rfl))).cast (d' := .val (.bool false)) (by rfl)) ?_
        refine zaf ?_
        refine dwp_if_f rfl (rfl) ?_
        refine dwp_skip ?_
        refine zae ?_
        refine dwp_holes 1 (by simp only [holes, List.cons_append, List.nil_append]; exact rfl) ?_
        refine zad ?_
        refine walk_w rfl rfl rfl (op_alloc 6 rfl zr3 rfl) (by simp only [upd, zaa, za]; exact rfl) ?_
        refine walk_s rfl rfl (op_stwi rfl tb3 (ev1 rfl) (ev1 rfl) rfl) (by simp only [upd, zaa, za]; exact rfl) ?_
        refine zaf ?_
        refine zae ?_
        refine zae ?_
        refine dwp_holes 1 (by simp only [holes, List.cons_append, List.nil_append]; exact rfl) ?_
        refine zad ?_
        refine zab rfl rfl rfl (op_ldm rfl tb32 (ev1 rfl) rfl rfl) ?_
        refine walk_w rfl rfl rfl (dop_call [] [] [7] rfl (ev1 rfl) (ec (ev1 rfl) en) rfl rfl (all_d (fewL l[i]) (by omega)) rfl rfl rfl rfl rfl rfl) (by simp only [upd, zaa, za]; exact rfl) ?_
        refine zaf ?_
        refine dwp_block ?_
        refine dwp_hole ?_
        simp only [List.cons_append, List.nil_append]
        refine dwp_rf (FL := [(6, _), (11, _), (12, _), (18, _)]) (st := .ready) (pe := none) [8, 1, 3, 4, 6, 7] [] [] 8 rfl rfl (ev1 rfl) rfl (subF_lk ⟨rfl, rfl, rfl, rfl, trivial⟩) rfl rfl rfl (rw_all (fewL l[i]) false (by simp [hc]) (by omega) (by omega)) rfl rfl rfl rfl rfl rfl rfl (by simp) (fun e => ?_) (fun c e => ?_)
        · simp only [upd, zaa, za]
          refine zae ?_
          refine zad ?_
          refine zab rfl rfl rfl (zac (.inr rfl) (ev1 rfl)) ?_
          refine zaf ?_
          refine zae ?_
          refine zae ?_
          refine zad ?_
          refine zab rfl rfl rfl (op_ldm rfl tb32 (ev1 rfl) rfl rfl) ?_
          refine zab rfl rfl rfl (op_len rfl sl32 (ev1 rfl)) ?_
          refine zab rfl rfl rfl (zac (.inl rfl) (ev1 rfl)) ?_
          refine zaf ?_
          refine dwp_block ?_
          refine dwp_loopS ⟨hs0, rfl⟩ (α := Nat) (fun j => [(102, .val (.int .i64 (j : Int)))]) [(0, _), (2, _), (4, _), (6, _), (7, _), (8, _), (11, _), (12, _), (18, _), (20, _), (33, _), (34, _), (35, _), (100, _), (101, _)] (fun j => [(5, .arx 32 1 (fsR l (i + 1)).length ((fsR l (i + 1)).flatMap fun l => [.slf 3 (l).length ((l).flatMap s3)]))]) [_, _, _, _, _, .hole, _, _, _] (fun j => j ≤ (fewL l[i]).length) (fun j => (fewL l[i]).length - j) 0 [0, 1, 2, 3, 4, 5, 6, 7, 8] (Nat.zero_le _) rfl ⟨rfl, rfl, rfl, rfl, rfl, rfl, rfl, rfl, rfl, rfl, rfl, rfl, rfl, rfl, rfl, trivial⟩ ⟨rfl, trivial⟩ ⟨rfl, rfl, rfl, rfl, rfl, arx_fits (by rw [fsR_add hi, List.length_append]; rfl) (by rw [fsR_add hi, List.flatMap_append]; rfl) (vwL_flat (fun _ => rfl) _), rfl, rfl, rfl, trivial⟩ ?_
          intro j hx
          simp only [upd, zaa, za, List.cons_append, List.nil_append]
          have hj0 := hx
          refine zae ?_
          refine zad ?_
          refine zab rfl rfl rfl (op_lss rfl (ev1 rfl) (ev1 rfl)) ?_
          refine zaf ?_
          refine zae ?_
          refine dwp_cond rfl (fun c23 => ?_) (fun c23 => ?_)
          · try simp only [yg, ya, beq_iff_eq, bne_iff_ne, yb, yc, yf, ye, yh, yi, yd, ne_eq, yj, Int.not_lt, Int.not_le] at c23
            refine dwp_skip ?_
            refine zae ?_
            refine dwp_block ?_
            refine zae ?_
            have hj : j < (fewL l[i]).length := by omega
            refine dwp_holes 1 (by simp only [holes, List.cons_append, List.nil_append]; exact rfl) ?_
            refine zad ?_
            refine zab rfl rfl rfl (op_ixsr (j := j) rfl sl32 (ev1 rfl) (ev1 rfl) (fun _ => rfl) (by decide) (by omega) (by omega)) ?_
            refine zab rfl rfl rfl (op_ldwd rfl tb40 (ev1 rfl) rfl) ?_
            refine walk_w rfl rfl rfl (op_alloc 9 rfl zr40 rfl) (by simp only [upd, zaa, za]; exact rfl) ?_
            refine walk_s rfl rfl (op_stwa rfl tb40 (ev1 rfl) (ev1 rfl) rfl rfl rfl rfl) (by simp only [upd, zaa, za]; exact rfl) ?_
            refine zaf ?_
            refine zae ?_
            refine zad ?_
            refine zab rfl rfl rfl ((op_ldo rfl tb4 (ev1 rfl) rfl rfl).cast (d' := .val (.bool false)) (rfl)) ?_
            refine zaf ?_
            refine dwp_if_f rfl (rfl) ?_
            refine dwp_skip ?_
            refine zad ?_
            refine zab rfl rfl rfl (op_add' rfl (ev1 rfl) (ev1 rfl) (fun _ => IntWalk.i64_in _ (by omega))) ?_
            refine zab rfl rfl rfl (zac (.inl rfl) (ev1 rfl)) ?_
            refine zaf ?_
            refine ⟨j + 1, [0, 1, 2, 3, 4, 5, 6, 7, 8], by omega, by simp only []; omega, rfl, ⟨rfl, rfl, rfl, rfl, rfl, rfl, rfl, rfl, rfl, rfl, rfl, rfl, rfl, rfl, rfl, rfl, trivial⟩, ⟨rfl, rfl, rfl, rfl, rfl, arx_fits rfl rfl (vwL_flat (fun _ => rfl) _), rfl, rfl, rfl, trivial⟩⟩
          · try simp only [yg, ya, beq_iff_eq, bne_iff_ne, yb, yc, yf, ye, yh, yi, yd, ne_eq, yj, Int.not_lt, Int.not_le] at c23
            refine dwp_exit ?_
            refine zae ?_
            refine zae ?_
            refine zad ?_
            refine zab rfl rfl rfl (op_ldm rfl tb32 (ev1 rfl) rfl rfl) ?_
            refine zab rfl rfl rfl (dop_call [] [] [] rfl (ev1 rfl) (ec (ev1 rfl) en) rfl rfl (count_d (fewL l[i]) (by omega)) rfl rfl rfl rfl rfl rfl) ?_
            refine zab rfl rfl rfl (zac (.inl rfl) (ev1 rfl)) ?_
            refine zab rfl rfl rfl ((op_neq rfl (ev1 rfl) (ev1 rfl)).cast (d' := .val (.bool false)) (by rw [D.val.injEq, Value.bool.injEq, cntL_no hc]; simp)) ?_
            refine zab rfl rfl rfl (zac (.inl rfl) (ev1 rfl)) ?_
            refine walk_k (gd_f (b := false) rfl rfl rfl) rfl rfl rfl (op_ldo rfl tb3 (ev1 rfl) rfl rfl) (by simp only [upd, zaa, za]; exact rfl) ?_
            refine walk_k (gd_f (b := false) rfl rfl rfl) rfl rfl rfl (zac (.inl rfl) (ev1 rfl)) (by simp only [upd, zaa, za]; exact rfl) ?_
            refine walk_k (gd_f (b := false) rfl rfl rfl) rfl rfl rfl ((op_neq rfl (ev2 rfl) (ev2 rfl)).cast (d' := .val (.bool false)) (by rw [D.val.injEq, Value.bool.injEq, ptsL_no hc]; simp)) (by simp only [upd, zaa, za]; exact rfl) ?_
            refine zab rfl rfl rfl ((op_or rfl (ev1 rfl) (ev3 rfl (fun _ => rfl))).cast (d' := .val (.bool false)) (by rfl)) ?_
            refine zaf ?_
            refine dwp_if_f rfl (rfl) ?_
            refine dwp_skip ?_
            refine zae ?_
            refine zad ?_
            refine zab rfl rfl rfl (zac (.inl rfl) (ev1 rfl)) ?_
            refine zab rfl rfl rfl (zac (.inl rfl) (ev1 rfl)) ?_
            refine zab rfl rfl rfl (op_len rfl sl28 (ev1 rfl)) ?_
            refine zab rfl rfl rfl (op_min rfl (ev1 rfl) (ev1 rfl)) ?_
            refine zab rfl rfl rfl (op_sltk (j := min d.length 8) rfl sl28 (ev1 rfl) (bd_some (ev1 rfl)) (fun _ => by omega) (fun _ => by omega) (fun _ => rfl)) ?_
            refine zab rfl rfl rfl (op_len rfl sl28 (ev1 rfl)) ?_
            refine zab rfl rfl rfl (zac (.inl rfl) (ev1 rfl)) ?_
            refine zaf ?_
            refine dwp_block ?_
            refine dwp_loopS ⟨hs0, rfl⟩ (α := Nat) (fun m => [(131, .val (.int .i64 (m : Int)))]) [(0, _), (2, _), (4, _), (6, _), (7, _), (8, _), (11, _), (12, _), (33, _), (34, _), (35, _), (129, _), (130, _)] (fun m => [(5, .arx 32 1 (fsR l (i + 1)).length ((fsR l (i + 1)).flatMap fun l => [.slf 3 (l).length ((l).flatMap s3)]))]) [_, _, _, _, _, .hole, _, _, _] (fun m => m ≤ (d.take (min d.length 8)).length) (fun m => (d.take (min d.length 8)).length - m) 0 [0, 1, 2, 3, 4, 5, 6, 7, 8] (Nat.zero_le _) rfl ⟨rfl, rfl, rfl, rfl, rfl, rfl, rfl, rfl, rfl, rfl, rfl, rfl, rfl, trivial⟩ ⟨rfl, trivial⟩ ⟨rfl, rfl, rfl, rfl, rfl, arx_fits rfl rfl (vwL_flat (fun _ => rfl) _), rfl, rfl, rfl, trivial⟩ ?_
            intro m hx
            simp only [upd, zaa, za, List.cons_append, List.nil_append]
            have hm0 := hx
            refine zae ?_
            refine zad ?_
            refine zab rfl rfl rfl (op_lss rfl (ev1 rfl) (ev1 rfl)) ?_
            refine zaf ?_
            refine zae ?_
            refine dwp_cond rfl (fun c26 => ?_) (fun c26 => ?_)
            · try simp only [yg, ya, beq_iff_eq, bne_iff_ne, yb, yc, yf, ye, yh, yi, yd, ne_eq, yj, Int.not_lt, Int.not_le] at c26
              refine dwp_skip ?_
              refine zae ?_
              refine dwp_block ?_
              refine zae ?_
              have hm : m < (d.take (min d.length 8)).length := by omega
              refine dwp_holes 1 (by simp only [holes, List.cons_append, List.nil_append]; exact rfl) ?_
              refine zad ?_
              refine zab rfl rfl rfl (op_ixsr (j := m) rfl sl28 (ev1 rfl) (ev1 rfl) (fun _ => rfl) (by decide) (by omega) (by omega)) ?_
              refine zab rfl rfl rfl (op_ldwd rfl tb25 (ev1 rfl) rfl) ?_
              refine walk_w rfl rfl rfl (op_alloc 9 rfl zr25 rfl) (by simp only [upd, zaa, za]; exact rfl) ?_
              refine walk_s rfl rfl (op_stwa rfl tb25 (ev1 rfl) (ev1 rfl) rfl rfl rfl rfl) (by simp only [upd, zaa, za]; exact rfl) ?_
              refine zaf ?_
              refine zae ?_
              refine dwp_draw [([3], []), ([9], []), ([], []), ([4], []), ([], []), ([], []), ([], []), ([], []), ([], []), ([], [])] mixed (by kernel_rfl) ?_
              refine lex_r rfl rfl (op_ldm rfl tb32 (ev1 rfl) rfl rfl) ?_
              refine lex_r rfl rfl (op_ldw rfl tb25 (ev1 rfl) rfl rfl) ?_
              refine lex_r rfl rfl (dop_call [] [] [] rfl (ev1 rfl) (ec (ev1 rfl) (ec (ev1 rfl) en)) rfl rfl (has_d (fewL l[i]) (d.take (min d.length 8))[m]) rfl rfl rfl rfl rfl rfl) ?_
              refine lex_r rfl rfl ((op_ldo rfl tb4 (ev1 rfl) rfl rfl).cast (d' := .val (.bool false)) (rfl)) ?_
              refine lex_r rfl rfl (zac (.inl rfl) (ev1 rfl)) ?_
              refine lex_gr (gd_t (b := false) rfl rfl rfl) rfl rfl (dop_never (d := .junk)) ?_
              refine lex_gr (gd_t (b := false) rfl rfl rfl) rfl rfl (dop_never (d := .junk)) ?_
              refine lex_gr (gd_t (b := false) rfl rfl rfl) rfl rfl (dop_never (d := .val (.bool false))) ?_
              refine lex_r rfl rfl ((op_and rfl (ev1 rfl) (ev3 rfl id)).cast (d' := .val (.bool false)) (by rfl)) ?_
              refine lex_r rfl rfl ((op_neb rfl un4 (ev1 rfl) (ev1 rfl)).cast (d' := .val (.bool false)) (by rw [D.val.injEq, Value.bool.injEq, hasL_no hc]; simp)) ?_
              refine lex_nil ?_
              refine dwp_if_f rfl (rfl) ?_
              refine dwp_skip ?_
              refine zad ?_
              refine zab rfl rfl rfl (op_add' rfl (ev1 rfl) (ev1 rfl) (fun _ => IntWalk.i64_in _ (by omega))) ?_
              refine zab rfl rfl rfl (zac (.inl rfl) (ev1 rfl)) ?_
              refine zaf ?_
              refine ⟨m + 1, [0, 1, 2, 3, 4, 5, 6, 7, 8], by omega, by simp only []; omega, rfl, ⟨rfl, rfl, rfl, rfl, rfl, rfl, rfl, rfl, rfl, rfl, rfl, rfl, rfl, rfl, trivial⟩, ⟨rfl, rfl, rfl, rfl, rfl, arx_fits rfl rfl (vwL_flat (fun _ => rfl) _), rfl, rfl, rfl, trivial⟩⟩
            · try simp only [yg, ya, beq_iff_eq, bne_iff_ne, yb, yc, yf, ye, yh, yi, yd, ne_eq, yj, Int.not_lt, Int.not_le] at c26
              refine dwp_exit ?_
              refine zad ?_
              refine zab rfl rfl rfl (op_add' rfl (ev1 rfl) (ev1 rfl) (fun _ => IntWalk.i64_in _ (by omega))) ?_
              refine zab rfl rfl rfl (zac (.inl rfl) (ev1 rfl)) ?_
              refine zaf ?_
              refine ⟨i + 1, [0, 1, 5], by omega, by simp only []; omega, rfl, ⟨congrArg (fun z => some (D.val (.bool z))) (by rw [allC_fs hi, decide_eq_false hc]), rfl, rfl, rfl, rfl, rfl, rfl, rfl, rfl, trivial⟩, ⟨rfl, rfl, arx_fits rfl rfl (vwL_flat (fun _ => rfl) _), trivial⟩⟩
        · cases e
  · try simp only [yg, ya, beq_iff_eq, bne_iff_ne, yb, yc, yf, ye, yh, yi, yd, ne_eq, yj, Int.not_lt, Int.not_le] at c2
    refine dwp_exit ?_
    refine zae ?_
    refine dwp_give 7 (nlL_flat1 (fun _ => rfl) _) rfl rfl (by simp only [zaa, za]; exact rfl) ?_
    obtain rfl : i = min l.length 4 := by omega
    refine zad ?_
    refine zab rfl rfl rfl (zac (.inl rfl) (ev1 rfl)) ?_
    refine zab rfl rfl rfl (dop_call [] [] [] rfl (ev1 rfl) (ec (ev1 rfl) en) rfl rfl (union_d (fsR l (min l.length 4)) (by omega)) rfl rfl rfl rfl rfl rfl) ?_
    refine zab rfl rfl rfl (zac (.inl rfl) (ev1 rfl)) ?_
    refine zab rfl rfl rfl (op_ext rfl (ev1 rfl) rfl) ?_
    refine zab rfl rfl rfl (op_ext rfl (ev1 rfl) rfl) ?_
    refine zab rfl rfl rfl (zac (.inr rfl) (ev1 rfl)) ?_
    refine zab rfl rfl rfl (zac (.inr rfl) (ev1 rfl)) ?_
    refine zaf ?_
    refine zae ?_
    refine zad ?_
    refine zab rfl rfl rfl (zac (.inr rfl) (ev1 rfl)) ?_
    refine zaf ?_
    refine zae ?_
    refine zad ?_
    refine zab rfl rfl rfl (zac (.inr rfl) (ev1 rfl)) ?_
    refine zaf ?_
    refine zae ?_
    refine zae ?_
    by_cases ha : allC (fsR l (min l.length 4)) = true
    · refine zad ?_
      refine zab rfl rfl rfl (zac (.inl rfl) (ev1 rfl)) ?_
      refine zaf ?_
      refine dwp_if_t rfl (ha) ?_
      refine zad ?_
      refine zab rfl rfl rfl (zac (.inl rfl) (ev1 rfl)) ?_
      refine zab rfl rfl rfl (dop_call [] [] [] rfl (ev1 rfl) (ec (ev1 rfl) en) rfl rfl (runion_d (fsR l (min l.length 4)) ha (by omega)) rfl rfl rfl rfl rfl rfl) ?_
      refine zab rfl rfl rfl (zac (.inr rfl) (ev1 rfl)) ?_
      refine zab rfl rfl rfl (zac (.inr rfl) (ev1 rfl)) ?_
      refine zaf ?_
      refine zae ?_
      refine zae ?_
      refine zad ?_
      refine zab rfl rfl rfl (zac (.inl rfl) (ev1 rfl)) ?_
      refine zab rfl rfl rfl (zac (.inl rfl) (ev1 rfl)) ?_
      refine zab rfl rfl rfl ((op_neq rfl (ev1 rfl) (ev1 rfl)).cast (d' := .val (.bool false)) (by rw [(uni_ok ha).2]; rfl)) ?_
      refine zab rfl rfl rfl (zac (.inl rfl) (ev1 rfl)) ?_
      refine walk_k (gd_f (b := false) rfl rfl rfl) rfl rfl rfl (zac (.inl rfl) (ev1 rfl)) (by simp only [upd, zaa, za]; exact rfl) ?_
      refine walk_k (gd_f (b := false) rfl rfl rfl) rfl rfl rfl (zac (.inl rfl) (ev1 rfl)) (by simp only [upd, zaa, za]; exact rfl) ?_
      refine walk_k (gd_f (b := false) rfl rfl rfl) rfl rfl rfl ((dop_call [] [] [] rfl (ev1 rfl) (ec (ev2 rfl) (ec (ev2 rfl) en)) rfl rfl (equalS (uniL (fsR l (min l.length 4))) (uniL (fsR l (min l.length 4)))) rfl rfl rfl rfl rfl rfl).cast (d' := .val (.bool true)) (by rw [D.val.injEq, Value.bool.injEq]; simp)) (by simp only [upd, zaa, za]; exact rfl) ?_
      refine walk_k (gd_f (b := false) rfl rfl rfl) rfl rfl rfl ((op_not rfl (ev2 rfl)).cast (d' := .val (.bool false)) (by kernel_rfl)) (by simp only [upd, zaa, za]; exact rfl) ?_
      refine zab rfl rfl rfl ((op_or rfl (ev1 rfl) (ev3 rfl (fun _ => rfl))).cast (d' := .val (.bool false)) (by rfl)) ?_
      refine zaf ?_
      refine dwp_if_f rfl (rfl) ?_
      refine dwp_skip ?_
      refine zae ?_
      refine zae ?_
      have hfrl : (fsR l (min l.length 4)).length = min l.length 4 := fsR_len (by omega)
      refine zad ?_
      refine zab rfl rfl rfl (zac (.inl rfl) (ev1 rfl)) ?_
      refine zab rfl rfl rfl (op_lenm rfl sl51 (ev1 rfl)) ?_
      refine zab rfl rfl rfl (zac (.inl rfl) (ev1 rfl)) ?_
      refine zaf ?_
      refine dwp_block ?_
      refine dwp_loopS ⟨hs0, rfl⟩ (α := Nat) (fun k => [(166, .val (.int .i64 (k : Int)))]) [(0, _), (6, _), (164, _), (165, _)] (fun k => []) [_, _, _] (fun k => k ≤ (fsR l (min l.length 4)).length) (fun k => (fsR l (min l.length 4)).length - k) 0 [0, 1, 2] (Nat.zero_le _) rfl ⟨rfl, rfl, rfl, rfl, trivial⟩ ⟨rfl, trivial⟩ ⟨rfl, rfl, rfl, trivial⟩ ?_
      intro k hx
      simp only [upd, zaa, za, List.cons_append, List.nil_append]
      have hk0 := hx
      refine zae ?_
      refine zad ?_
      refine zab rfl rfl rfl (op_lss rfl (ev1 rfl) (ev1 rfl)) ?_
      refine zaf ?_
      refine zae ?_
      refine dwp_cond rfl (fun c30 => ?_) (fun c30 => ?_)
      · try simp only [yg, ya, beq_iff_eq, bne_iff_ne, yb, yc, yf, ye, yh, yi, yd, ne_eq, yj, Int.not_lt, Int.not_le] at c30
        refine dwp_skip ?_
        refine zae ?_
        refine dwp_block ?_
        refine zae ?_
        have hk : k < (fsR l (min l.length 4)).length := by omega
        have hkl : k < l.length := by omega
        refine zad ?_
        refine zab rfl rfl rfl (zac (.inl rfl) (ev1 rfl)) ?_
        refine zab rfl rfl rfl (op_ixm (k) rfl sl51 (ev1 rfl) (ev1 rfl) (fun _ => rfl) (flat1_at (by omega))) ?_
        refine zab rfl rfl rfl (op_lddm rfl tb32 (ev1 rfl) rfl) ?_
        refine zab rfl rfl rfl (zac (.inr rfl) (ev1 rfl)) ?_
        refine zab rfl rfl rfl (zac (.inr rfl) (ev1 rfl)) ?_
        refine zaf ?_
        refine zae ?_
        refine zad ?_
        refine zab rfl rfl rfl (zac (.inl rfl) (ev1 rfl)) ?_
        refine zab rfl rfl rfl (zac (.inl rfl) (ev1 rfl)) ?_
        refine zab rfl rfl rfl (zac (.inl rfl) (ev1 rfl)) ?_
        refine zab rfl rfl rfl (op_ixm (k) rfl sl51 (ev1 rfl) (ev1 rfl) (fun _ => rfl) (flat1_at (by omega))) ?_
        refine zab rfl rfl rfl (op_lddm rfl tb32 (ev1 rfl) rfl) ?_
        refine zab rfl rfl rfl (dop_call [] [] [] rfl (ev1 rfl) (ec (ev1 rfl) en) rfl rfl (few_d l[k]) rfl rfl rfl rfl rfl rfl) ?_
        refine zab rfl rfl rfl ((dop_call [] [] [] rfl (ev1 rfl) (ec (ev1 rfl) (ec (ev1 rfl) en)) rfl rfl (equalS (fsR l (min l.length 4))[k] (fewL l[k])) rfl rfl rfl rfl rfl rfl).cast (d' := .val (.bool true)) (by rw [fsR_at hk hkl]; simp)) ?_
        refine zab rfl rfl rfl ((op_not rfl (ev1 rfl)).cast (d' := .val (.bool false)) (by kernel_rfl)) ?_
        refine zaf ?_
        refine dwp_if_f rfl (rfl) ?_
        refine dwp_skip ?_
        refine zad ?_
        refine zab rfl rfl rfl (op_add' rfl (ev1 rfl) (ev1 rfl) (fun _ => IntWalk.i64_in _ (by omega))) ?_
        refine zab rfl rfl rfl (zac (.inl rfl) (ev1 rfl)) ?_
        refine zaf ?_
        refine ⟨k + 1, [0, 1, 2], by omega, by simp only []; omega, rfl, ⟨rfl, rfl, rfl, rfl, rfl, trivial⟩, ⟨rfl, rfl, rfl, trivial⟩⟩
      · try simp only [yg, ya, beq_iff_eq, bne_iff_ne, yb, yc, yf, ye, yh, yi, yd, ne_eq, yj, Int.not_lt, Int.not_le] at c30
        refine dwp_exit ?_
        refine zae ?_
        refine zad ?_
        refine walk_s rfl rfl (op_stwb rfl tb4 (ev1 rfl) (ev1 rfl) rfl) (by simp only [upd, zaa, za]; exact rfl) ?_
        refine zaf ?_
        refine dwp_ret ?_
        refine kend0 (rs1 rfl (rv_1 tb4 rfl rfl rfl)) rfl ?_
        rfl
    · refine zad ?_
      refine zab rfl rfl rfl (zac (.inl rfl) (ev1 rfl)) ?_
      refine zaf ?_
      refine dwp_if_f rfl ((Bool.eq_false_iff.2 ha)) ?_
      refine dwp_skip ?_
      refine zae ?_
      refine zae ?_
      refine zad ?_
      refine zab rfl rfl rfl (zac (.inl rfl) (ev1 rfl)) ?_
      refine zab rfl rfl rfl (zac (.inl rfl) (ev1 rfl)) ?_
      refine zab rfl rfl rfl ((op_neq rfl (ev1 rfl) (ev1 rfl)).cast (d' := .val (.bool false)) (by rw [(uni_no (Bool.eq_false_iff.2 ha)).2]; rfl)) ?_
      refine zab rfl rfl rfl (zac (.inl rfl) (ev1 rfl)) ?_
      refine walk_k (gd_f (b := false) rfl rfl rfl) rfl rfl rfl (zac (.inl rfl) (ev1 rfl)) (by simp only [upd, zaa, za]; exact rfl) ?_
      refine walk_k (gd_f (b := false) rfl rfl rfl) rfl rfl rfl (zac (.inl rfl) (ev1 rfl)) (by simp only [upd, zaa, za]; exact rfl) ?_
      refine walk_k (gd_f (b := false) rfl rfl rfl) rfl rfl rfl ((dop_call [] [] [] rfl (ev1 rfl) (ec (ev2 rfl) (ec (evnil 3 (ev2 rfl)) en)) rfl rfl (equalS (uniL (fsR l (min l.length 4))) []) rfl rfl rfl rfl rfl rfl).cast (d' := .val (.bool true)) (by rw [(uni_no (Bool.eq_false_iff.2 ha)).1]; simp)) (by simp only [upd, zaa, za]; exact rfl) ?_
      refine walk_k (gd_f (b := false) rfl rfl rfl) rfl rfl rfl ((op_not rfl (ev2 rfl)).cast (d' := .val (.bool false)) (by kernel_rfl)) (by simp only [upd, zaa, za]; exact rfl) ?_
      refine zab rfl rfl rfl ((op_or rfl (ev1 rfl) (ev3 rfl (fun _ => rfl))).cast (d' := .val (.bool false)) (by rfl)) ?_
      refine zaf ?_
      refine dwp_if_f rfl (rfl) ?_
      refine dwp_skip ?_
      refine zae ?_
      refine zae ?_
      have hfrl : (fsR l (min l.length 4)).length = min l.length 4 := fsR_len (by omega)
      refine zad ?_
      refine zab rfl rfl rfl (zac (.inl rfl) (ev1 rfl)) ?_
      refine zab rfl rfl rfl (op_lenm rfl sl51 (ev1 rfl)) ?_
      refine zab rfl rfl rfl (zac (.inl rfl) (ev1 rfl)) ?_
      refine zaf ?_
      refine dwp_block ?_
      refine dwp_loopS ⟨hs0, rfl⟩ (α := Nat) (fun k => [(166, .val (.int .i64 (k : Int)))]) [(0, _), (6, _), (164, _), (165, _)] (fun k => []) [_, _, _] (fun k => k ≤ (fsR l (min l.length 4)).length) (fun k => (fsR l (min l.length 4)).length - k) 0 [0, 1, 2] (Nat.zero_le _) rfl ⟨rfl, rfl, rfl, rfl, trivial⟩ ⟨rfl, trivial⟩ ⟨rfl, rfl, rfl, trivial⟩ ?_
      intro k hx
      simp only [upd, zaa, za, List.cons_append, List.nil_append]
      have hk0 := hx
      refine zae ?_
      refine zad ?_
      refine zab rfl rfl rfl (op_lss rfl (ev1 rfl) (ev1 rfl)) ?_
      refine zaf ?_
      refine zae ?_
      refine dwp_cond rfl (fun c34 => ?_) (fun c34 => ?_)
      · try simp only [yg, ya, beq_iff_eq, bne_iff_ne, yb, yc, yf, ye, yh, yi, yd, ne_eq, yj, Int.not_lt, Int.not_le] at c34
        refine dwp_skip ?_
        refine zae ?_
        refine dwp_block ?_
        refine zae ?_
        have hk : k < (fsR l (min l.length 4)).length := by omega
        have hkl : k < l.length := by omega
        refine zad ?_
        refine zab rfl rfl rfl (zac (.inl rfl) (ev1 rfl)) ?_
        refine zab rfl rfl rfl (op_ixm (k) rfl sl51 (ev1 rfl) (ev1 rfl) (fun _ => rfl) (flat1_at (by omega))) ?_
        refine zab rfl rfl rfl (op_lddm rfl tb32 (ev1 rfl) rfl) ?_
        refine zab rfl rfl rfl (zac (.inr rfl) (ev1 rfl)) ?_
        refine zab rfl rfl rfl (zac (.inr rfl) (ev1 rfl)) ?_
        refine zaf ?_
        refine zae ?_
        refine zad ?_
        refine zab rfl rfl rfl (zac (.inl rfl) (ev1 rfl)) ?_
        refine zab rfl rfl rfl (zac (.inl rfl) (ev1 rfl)) ?_
        refine zab rfl rfl rfl (zac (.inl rfl) (ev1 rfl)) ?_
        refine zab rfl rfl rfl (op_ixm (k) rfl sl51 (ev1 rfl) (ev1 rfl) (fun _ => rfl) (flat1_at (by omega))) ?_
        refine zab rfl rfl rfl (op_lddm rfl tb32 (ev1 rfl) rfl) ?_
        refine zab rfl rfl rfl (dop_call [] [] [] rfl (ev1 rfl) (ec (ev1 rfl) en) rfl rfl (few_d l[k]) rfl rfl rfl rfl rfl rfl) ?_
        refine zab rfl rfl rfl ((dop_call [] [] [] rfl (ev1 rfl) (ec (ev1 rfl) (ec (ev1 rfl) en)) rfl rfl (equalS (fsR l (min l.length 4))[k] (fewL l[k])) rfl rfl rfl rfl rfl rfl).cast (d' := .val (.bool true)) (by rw [fsR_at hk hkl]; simp)) ?_
        refine zab rfl rfl rfl ((op_not rfl (ev1 rfl)).cast (d' := .val (.bool false)) (by kernel_rfl)) ?_
        refine zaf ?_
        refine dwp_if_f rfl (rfl) ?_
        refine dwp_skip ?_
        refine zad ?_
        refine zab rfl rfl rfl (op_add' rfl (ev1 rfl) (ev1 rfl) (fun _ => IntWalk.i64_in _ (by omega))) ?_
        refine zab rfl rfl rfl (zac (.inl rfl) (ev1 rfl)) ?_
        refine zaf ?_
        refine ⟨k + 1, [0, 1, 2], by omega, by simp only []; omega, rfl, ⟨rfl, rfl, rfl, rfl, rfl, trivial⟩, ⟨rfl, rfl, rfl, trivial⟩⟩
      · try simp only [yg, ya, beq_iff_eq, bne_iff_ne, yb, yc, yf, ye, yh, yi, yd, ne_eq, yj, Int.not_lt, Int.not_le] at c34
        refine dwp_exit ?_
        refine zae ?_
        refine zad ?_
        refine walk_s rfl rfl (op_stwb rfl tb4 (ev1 rfl) (ev1 rfl) rfl) (by simp only [upd, zaa, za]; exact rfl) ?_
        refine zaf ?_
        refine dwp_ret ?_
        refine kend0 (rs1 rfl (rv_1 tb4 rfl rfl rfl)) rfl ?_
        rfl
end Go.Proofs.Ytoffbkjhoelghaa
