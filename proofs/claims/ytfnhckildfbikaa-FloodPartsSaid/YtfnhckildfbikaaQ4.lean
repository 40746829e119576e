/- tiles, and canvases as they show; canvases shown, and new; dots painted; canvases with dots; canvases with dots, as they show; where canvases differ; colours laid over colours; spans; lines, rectangles, boxes, and what rows of spans have; places, row by row, as spans; rows of spans asked; rows of spans checked; places that may be drawn; spans by rows; rows, one behind another; what a row has, and how many; rows copied and compared; places ranged over; fields of places, and their rows; what a row of spans has, by the document; places of canvases; colours that are near; A variable that holds one value with an address, then numbers, then another value with an address: its numbers told as one list; fields of numbers. No condition. -/
import Derived.Test.YtfnhckildfbikaaQ3
import Derived.Test.YtfnhckildfbikaaRows
namespace Go.Proofs.Ytfnhckildfbikaa
set_option maxRecDepth 4000
set_option linter.unusedVariables false
set_option linter.unusedSimpArgs false
open Go.RowKit
theorem eq34 {a b : P2} : eqT Try.prog 9 34 (p2 a) (p2 b) = some (decide (a = b)) := by
  have h : ((a.x == b.x) && ((a.y == b.y) && true)) = decide (a = b) := by
    obtain ⟨x, y⟩ := a
    obtain ⟨x', y'⟩ := b
    rw [Bool.eq_iff_iff]
    simp
  rw [← h]
  exact (show eqT Try.prog 9 34 [.int .i64 a.x, .int .i64 a.y] [.int .i64 b.x, .int .i64 b.y] = some ((a.x == b.x) && ((a.y == b.y) && true)) by kernel_rfl)
theorem eq81 {t u : TL} : eqT Try.prog 9 81 (tc t) (tc u) = some (decide (t = u)) := by
  have h : ∀ a b : C4, eqT Try.prog 8 27 (c4 a) (c4 b) = some (decide (a = b)) := fun a b => by
    rw [← eqC_iff]
    exact (show eqT Try.prog 8 27 [.int .u8 a.r, .int .u8 a.g, .int .u8 a.b, .int .u8 a.a] [.int .u8 b.r, .int .u8 b.g, .int .u8 b.b, .int .u8 b.a] = some (eqC a b) by kernel_rfl)
  have h2 := eqA_row (en := c4) c4_len h t.l u.l (by rw [t.h, u.h])
  rw [t.h] at h2
  have h3 : eqT Try.prog 9 81 (tc t) (tc u) = eqA (eqT Try.prog 8 27) 4 64 (tc t) (tc u) := by
    have e1 : Try.prog.underlying 81 = some (.array 64 27) := by kernel_rfl
    obtain ⟨_, i, _, e3, _, e4⟩ := tyB_spec (show tyB Try.prog 27 = some (true, 4) by kernel_rfl)
    unfold eqT
    simp only [e1, e3, e4]
  refine h3.trans (h2.trans ?_)
  congr 1
  rw [Bool.eq_iff_iff]
  simp only [decide_eq_true_eq]
  exact ⟨TL.ext, fun e => by rw [e]⟩
theorem fl104 : fdL Try.prog 104 = some [(0, 1), (1, 1)] := by kernel_rfl
theorem fo24_0 : fdO Try.prog 24 0 = some 0 := by kernel_rfl
theorem fo24_1 : fdO Try.prog 24 1 = some 1 := by kernel_rfl
theorem fo24_2 : fdO Try.prog 24 2 = some 2 := by kernel_rfl
theorem gd34 : Try.prog.eqGuardType Try.prog.depth 34 = false := by kernel_rfl
theorem gd81 : Try.prog.eqGuardType Try.prog.depth 81 = false := by kernel_rfl
theorem sl22 : slE Try.prog 22 = some (81, 256, 256) := by kernel_rfl
theorem sl64 : slE Try.prog 64 = some (34, 2, 16) := by kernel_rfl
theorem tb22 : tyB Try.prog 22 = some (false, 1) := by kernel_rfl
theorem tb34 : tyB Try.prog 34 = some (true, 2) := by kernel_rfl
theorem tb81 : tyB Try.prog 81 = some (true, 256) := by kernel_rfl
theorem zr104 : zrC Try.prog 104 = some [.int .i64 0, .int .i64 0] := by kernel_rfl
theorem zr81 : zrC Try.prog 81 = some (tc zT) := by kernel_rfl
set_option maxRecDepth 4000 in
set_option maxHeartbeats 1000000 in
theorem cloneT (l : List TL) (h : l.length ≤ 5000) : DFun Try.prog 32 [.slf 256 l.length (l.flatMap tc)] [] (.arr 0) [.arr 81 256 l.length (l.flatMap tc)] := by
  refine zan (N := 8) 0 (by kernel_rfl) Try.func32 rfl rfl rfl (by simp only [fr0, Nat.zero_add, Nat.reduceAdd]; exact rfl) rfl fun s0 hs0 => ?_
  refine dwp_len (t := 0) rfl fun hl0 hL0 => ?_
  refine zaf ?_
  refine zad ?_
  refine zab rfl rfl rfl (zac (.inr rfl) (ev1 rfl)) ?_
  refine zae ?_
  refine zaf ?_
  refine zaf ?_
  refine zad ?_
  refine zab rfl rfl rfl (zac (.inl rfl) (ev1 rfl)) ?_
  refine walk_nil? rfl rfl rfl rfl sl22 (ev1 rfl) fun nb4 hnb4 => ?_
  refine zae ?_
  refine dwp_cond rfl (fun c1 => ?_) (fun c1 => ?_)
  · try simp only [decide_eq_true_eq, decide_eq_false_iff_not, beq_iff_eq, bne_iff_ne, beq_eq_false_iff_ne, bne_eq_false_iff_eq, Bool.not_eq_true', Bool.not_eq_false', Bool.and_eq_true, Bool.or_eq_true, Bool.or_eq_false_iff, ne_eq, Decidable.not_not, Int.not_lt, Int.not_le] at c1
    refine zaf ?_
    refine zad ?_
    refine zab rfl rfl rfl (zac (.inr rfl) (ev1 rfl)) ?_
    refine zae ?_
    refine dwp_adopt 2 81 256 rfl rfl rfl ?_
    refine zao ?_
    refine kend [0] (rs1 rfl (rv_t rfl)) rfl rfl ?_ ⟨?_, trivial⟩
    rfl
    exact (by obtain ⟨h1, h2⟩ := hnb4 c1; simp_all [MFits, vwB])
  · try simp only [decide_eq_true_eq, decide_eq_false_iff_not, beq_iff_eq, bne_iff_ne, beq_eq_false_iff_ne, bne_eq_false_iff_eq, Bool.not_eq_true', Bool.not_eq_false', Bool.and_eq_true, Bool.or_eq_true, Bool.or_eq_false_iff, ne_eq, Decidable.not_not, Int.not_lt, Int.not_le] at c1
    refine zak ?_
    refine zaf ?_
    refine zai 2 (by simp only [holes, List.cons_append, List.nil_append]; exact rfl) ?_
    refine zad ?_
    refine zaj rfl rfl rfl (op_bsa (ps := []) 0 rfl sl22 zr81 rfl vn rfl (by decide) (by decide) rfl) (by simp only [upd, zaa, za]; exact rfl) ?_
    refine zab rfl rfl rfl (zac (.inl rfl) (ev1 rfl)) ?_
    refine zaj rfl rfl rfl (op_app (j := 1) rfl sl22 zr81 rfl (ev1 rfl) (ev1 rfl) src_slf rfl rfl (fun _ => flat_oc (fun t => flat_oc (fun _ => rfl) t.l) l) (fun _ => ⟨by omega, by omega⟩)) (by simp only [upd, zaa, za]; exact rfl) ?_
    refine zab rfl rfl rfl (zac (.inr rfl) (ev1 rfl)) ?_
    refine zae ?_
    refine zao ?_
    refine kend [1] (rs1 rfl (rv_t rfl)) rfl rfl ?_ ⟨?_, trivial⟩
    rfl
    simp [vwB]
theorem cloneT_f (l : List TL) (h : l.length ≤ 5000) : DFun Try.prog 32 [.slf 256 l.length (l.flatMap tc)] [] (.slf 256 l.length (l.flatMap tc)) [] := freeze (cloneT l h) rfl
set_option maxRecDepth 4000 in
set_option maxHeartbeats 1000000 in
theorem ccheck_d (w h : Int) (ts : List TL) : DFun Try.prog 65 [shD w h ts] [] (.val (.int .i64 (errOr (rightB w h ts) 150))) [] := by
  refine zan (N := 23) 0 (by kernel_rfl) Try.func65 rfl rfl rfl (by simp only [fr0, Nat.zero_add, Nat.reduceAdd]; exact rfl) rfl fun s0 hs0 => ?_
  refine zaf ?_
  refine zai 1 (by simp only [holes, List.cons_append, List.nil_append]; exact rfl) ?_
  refine zad ?_
  refine zaj rfl rfl rfl (op_boxam 0 rfl (ev1 rfl) rfl) (by simp only [upd, zaa, za]; exact rfl) ?_
  refine zab rfl rfl rfl (zac (.inr rfl) (ev1 rfl)) ?_
  refine zae ?_
  refine zaf ?_
  refine zaf ?_
  refine zai 1 (by simp only [holes, List.cons_append, List.nil_append]; exact rfl) ?_
  refine zad ?_
  refine zab rfl rfl rfl (op_fa rfl fo24_0 (ev1 rfl)) ?_
  refine zab rfl rfl rfl (op_ldm rfl tb3 (ev1 rfl) rfl rfl) ?_
  refine zab rfl rfl rfl (op_fa rfl fo24_1 (ev1 rfl)) ?_
  refine zab rfl rfl rfl (op_ldm rfl tb3 (ev1 rfl) rfl rfl) ?_
  refine zab rfl rfl rfl (op_build (ps := [(0, .tmp 5), (1, .tmp 7)]) rfl fl104 zr104 (vc (ev1 rfl) (vc (ev1 rfl) vn)) rfl rfl) ?_
  refine zaj rfl rfl rfl (op_alloc 1 rfl zr104 rfl) (by simp only [upd, zaa, za]; exact rfl) ?_
  refine walk_s rfl rfl (op_stwa rfl tb104 (ev1 rfl) (ev1 rfl) rfl rfl rfl rfl) (by simp only [upd, zaa, za]; exact rfl) ?_
  refine zae ?_
  refine zaf ?_
  refine zad ?_
  refine zab rfl rfl rfl (op_ldw rfl tb104 (ev1 rfl) rfl rfl) ?_
  refine zab rfl rfl rfl (zah [] [] [] rfl (ev1 rfl) (ec (ev1 rfl) en) rfl rfl (smay_d _ _) rfl rfl rfl rfl rfl rfl) ?_
  refine zab rfl rfl rfl (op_not rfl (ev1 rfl)) ?_
  refine zab rfl rfl rfl (zac (.inl rfl) (ev1 rfl)) ?_
  refine walk_gr (gd_f rfl rfl rfl) rfl rfl rfl (op_fa rfl fo24_2 (ev1 rfl)) ?_
  refine walk_gr (gd_f rfl rfl rfl) rfl rfl rfl (op_ldm rfl tb22 (ev2 rfl) rfl rfl) ?_
  refine walk_gr (gd_f rfl rfl rfl) rfl rfl rfl (op_len rfl sl22 (ev2 rfl)) ?_
  refine walk_gr (gd_f rfl rfl rfl) rfl rfl rfl (op_fa rfl fo104_0 (ev1 rfl)) ?_
  refine walk_gr (gd_f rfl rfl rfl) rfl rfl rfl (zam rfl tb3 (ev2 rfl) rfl rfl) ?_
  refine walk_gr (gd_f rfl rfl rfl) rfl rfl rfl (op_fa rfl fo104_1 (ev1 rfl)) ?_
  refine walk_gr (gd_f rfl rfl rfl) rfl rfl rfl (zam rfl tb3 (ev2 rfl) rfl rfl) ?_
  refine walk_gr (gd_f rfl rfl rfl) rfl rfl rfl (op_mul rfl (ev2 rfl) (ev2 rfl)) ?_
  refine walk_gr (gd_f rfl rfl rfl) rfl rfl rfl (op_neq rfl (ev2 rfl) (ev2 rfl)) ?_
  refine zab rfl rfl rfl (op_or rfl (ev1 rfl) (ev3 rfl id)) ?_
  refine zae ?_
  refine dwp_cond rfl (fun c1 => ?_) (fun c1 => ?_)
  · have hr : rightB w h ts = false := by
      cases hm : mayS w h with
      | false => unfold rightB; rw [hm]; rfl
      | true =>
        have hb := mul_in hm
        rw [hm, IntWalk.i64_in _ (by omega)] at c1
        simp at c1
        unfold rightB
        rw [decide_eq_false (by omega)]
        exact Bool.and_false _
    refine zaf ?_
    refine zad ?_
    refine zab rfl rfl rfl (zac (.inr rfl) (ev1 rfl)) ?_
    refine zae ?_
    refine zao ?_
    refine kend0 (rs1 rfl (rv_t rfl)) rfl ?_
    rw [hr]
    rfl
  · have hr : rightB w h ts = true := by
      cases hm : mayS w h with
      | false => rw [hm] at c1; simp at c1
      | true =>
        have hb := mul_in hm
        rw [hm, IntWalk.i64_in _ (by omega)] at c1
        simp at c1
        unfold rightB
        rw [hm, decide_eq_true (by omega)]
        rfl
    refine zak ?_
    refine zaf ?_
    refine zad ?_
    refine zab rfl rfl rfl (zac (.inr rfl) (ev1 rfl)) ?_
    refine zae ?_
    refine zao ?_
    refine kend0 (rs1 rfl (rv_t rfl)) rfl ?_
    rw [hr]
    rfl
end Go.Proofs.Ytfnhckildfbikaa
namespace Go.Proofs.Ytfnhckildfbikaa
set_option maxRecDepth 4000
set_option linter.unusedVariables false
set_option linter.unusedSimpArgs false
open Go.RowKit
theorem fl107 : fdL Try.prog 107 = some [(0, 2), (2, 1)] := by kernel_rfl
theorem fl24 : fdL Try.prog 24 = some [(0, 1), (1, 1), (2, 1)] := by kernel_rfl
theorem tb24 : tyB Try.prog 24 = some (true, 3) := by kernel_rfl
theorem zr107 : zrC Try.prog 107 = some [.int .i64 0, .int .i64 0, .slice none 0 0] := by kernel_rfl
theorem zr109 : zrC Try.prog 109 = some [.pointer none] := by kernel_rfl
theorem zr24 : zrC Try.prog 24 = some [.int .i64 0, .int .i64 0, .slice none 0 0] := by kernel_rfl
set_option maxRecDepth 4000 in
set_option maxHeartbeats 1000000 in
theorem new_d (c : C4) : DFun Try.prog 88 [.val (.agg (c4 c).toArray)] [] (tD (nT c)) [] := by
  refine zan (N := 13) 0 (by kernel_rfl) Try.func88 rfl rfl rfl (by simp only [fr0, Nat.zero_add, Nat.reduceAdd]; exact rfl) rfl fun s0 hs0 => ?_
  refine zaf ?_
  refine zai 2 (by simp only [holes, List.cons_append, List.nil_append]; exact rfl) ?_
  refine zad ?_
  refine zaj rfl rfl rfl (op_boxa 0 rfl (ev1 rfl) rfl) (by simp only [upd, zaa, za]; exact rfl) ?_
  refine zaj rfl rfl rfl (op_alloc 1 rfl zr81 rfl) (by simp only [upd, zaa, za]; exact rfl) ?_
  refine zae ?_
  refine zaf ?_
  refine zai 1 (by simp only [holes, List.cons_append, List.nil_append]; exact rfl) ?_
  refine zad ?_
  refine zaj rfl rfl rfl (op_alloc 2 rfl zr81 rfl) (by simp only [upd, zaa, za]; exact rfl) ?_
  refine zae ?_
  refine zaf ?_
  refine zaf ?_
  refine zad ?_
  refine zab rfl rfl rfl (zac (.inl rfl) (ev1 rfl)) ?_
  refine zae ?_
  refine zal ?_
  refine dwp_loopS ⟨hs0, rfl⟩ (α := Nat) (fun k => [(5, .val (.int .i64 (k : Int)))]) [(1, _), (2, _), (3, _)] (fun k => [(2, .flat 81 (tc (newT c k)))]) [_, _, .hole] (fun k => k ≤ 64) (fun k => 64 - k) 0 [0, 1, 2] (by simp) rfl ⟨rfl, rfl, rfl, trivial⟩ ⟨rfl, trivial⟩ ⟨rfl, rfl, rfl, trivial⟩ ?_
  intro k hx
  simp only [upd, zaa, za, List.cons_append, List.nil_append]
  have hk := hx
  refine zaf ?_
  refine zad ?_
  refine zab rfl rfl rfl (op_lss rfl (ev1 rfl) (ev1 rfl)) ?_
  refine zae ?_
  refine zaf ?_
  refine dwp_cond rfl (fun c1 => ?_) (fun c1 => ?_)
  · try simp only [decide_eq_true_eq, decide_eq_false_iff_not, beq_iff_eq, bne_iff_ne, beq_eq_false_iff_ne, bne_eq_false_iff_eq, Bool.not_eq_true', Bool.not_eq_false', Bool.and_eq_true, Bool.or_eq_true, Bool.or_eq_false_iff, ne_eq, Decidable.not_not, Int.not_lt, Int.not_le] at c1
    refine zak ?_
    refine zaf ?_
    refine zal ?_
    refine zaf ?_
    refine zad ?_
    refine zab rfl rfl rfl (zac (.inl rfl) (ev1 rfl)) ?_
    refine zab rfl rfl rfl (zac (.inr rfl) (ev1 rfl)) ?_
    refine zae ?_
    refine zad ?_
    refine zab rfl rfl rfl (zac (.inl rfl) (ev1 rfl)) ?_
    refine zab rfl rfl rfl (op_ldw rfl tb27 (ev1 rfl) rfl rfl) ?_
    refine zab rfl rfl rfl (op_ixfr (j := k) rfl ar81 (ev1 rfl) (ev1 rfl) (fun _ => by omega) (fun _ => by omega)) ?_
    refine walk_s rfl rfl (op_stfr (q := c) rfl tb27 (ev1 rfl) (ev1 rfl) rfl rfl rfl (fun _ => rfl) (fun _ => by rw [TL.h]; omega)) (by simp only [upd, zaa, za]; exact rfl) ?_
    refine zae ?_
    refine zad ?_
    refine zab rfl rfl rfl (op_add' rfl (ev1 rfl) (ev1 rfl) (fun _ => IntWalk.i64_in _ (by omega))) ?_
    refine zab rfl rfl rfl (zac (.inl rfl) (ev1 rfl)) ?_
    refine zae ?_
    refine ⟨k + 1, [0, 1, 2], by omega, by simp only []; omega, rfl, ⟨rfl, rfl, rfl, rfl, trivial⟩, ⟨rfl, rfl, by rw [newT_succ]; rfl, trivial⟩⟩
  · try simp only [decide_eq_true_eq, decide_eq_false_iff_not, beq_iff_eq, bne_iff_ne, beq_eq_false_iff_ne, bne_eq_false_iff_eq, Bool.not_eq_true', Bool.not_eq_false', Bool.and_eq_true, Bool.or_eq_true, Bool.or_eq_false_iff, ne_eq, Decidable.not_not, Int.not_lt, Int.not_le] at c1
    refine dwp_exit ?_
    refine zaf ?_
    refine zad ?_
    refine zab rfl rfl rfl (op_ldw rfl tb81 (ev1 rfl) rfl (tc_len _)) ?_
    refine walk_s rfl rfl (op_stwa rfl tb81 (ev1 rfl) (ev1 rfl) rfl (tc_len _) (tc_oc _) ((tc_len _).trans (tc_len _).symm)) (by simp only [upd, zaa, za]; exact rfl) ?_
    refine zae ?_
    refine zao ?_
    refine kend0 (rs1 rfl (rv_w tb81 rfl rfl (tc_len _))) rfl ?_
    rw [show k = 64 by omega, newT_end]
def pinsR (A : List Nat) (ts : List TL) : List D := (A.zip ts).map fun p => .pin p.1 (tc p.2)
theorem pinsR_len {A : List Nat} {ts : List TL} (h : A.length = ts.length) : (pinsR A ts).length = ts.length := by simp [pinsR, h]
theorem pinsR_at {A : List Nat} {ts : List TL} {q : Nat} {d : D} (hd : (pinsR A ts)[q]? = some d) : ∃ b t, A[q]? = some b ∧ ts[q]? = some t ∧ d = .pin b (tc t) := by
  unfold pinsR at hd
  rw [List.getElem?_map] at hd
  cases e : (A.zip ts)[q]? with
  | none => rw [e] at hd; cases hd
  | some p =>
    rw [e] at hd
    obtain ⟨h1, h2⟩ := List.getElem?_zip_eq_some.1 e
    cases hd
    exact ⟨p.1, p.2, h1, h2, rfl⟩
theorem nlL_all {l : List D} (h : ∀ d ∈ l, d.nl = true) : D.nlL l = true := by
  induction l with
  | nil => rfl
  | cons d l ih => rw [D.nlL, h d (by simp), ih fun e he => h e (by simp [he])]; rfl
theorem pinsR_ok {A : List Nat} {ts : List TL} (h : A.length = ts.length) : RowOk (pinsR A ts) ts := by
  have hm : ∀ d ∈ pinsR A ts, ∃ b t, d = .pin b (tc t) := fun d hd => by
    obtain ⟨q, hq⟩ := List.getElem?_of_mem hd
    obtain ⟨b, t, _, _, e⟩ := pinsR_at hq
    exact ⟨b, t, e⟩
  refine ⟨pinsR_len h, nlL_all fun d hd => ?_, List.all_eq_true.2 fun d hd => ?_, fun q d t h1 h2 => ?_⟩
  · obtain ⟨b, t, rfl⟩ := hm d hd; rfl
  · obtain ⟨b, t, rfl⟩ := hm d hd; rfl
  · obtain ⟨b, u, h3, h4, rfl⟩ := pinsR_at h1
    rw [h2] at h4
    cases h4
    exact Wk.pin _ _
theorem pinsR_add {A : List Nat} {ts : List TL} (h : A.length = ts.length) (b : Nat) (t : TL) : pinsR (A ++ [b]) (ts ++ [t]) = pinsR A ts ++ [.pin b (tc t)] := by
  unfold pinsR
  rw [List.zip_append h, List.map_append]
  rfl
theorem pinsR_rep (A : List Nat) (b : Nat) (t : TL) : pinsR A (List.replicate A.length t) ++ List.flatMap D.cs [.pin b (tc t)] = pinsR (A ++ [b]) (List.replicate (A ++ [b]).length t) := by
  rw [List.length_append, show A.length + [b].length = A.length + 1 from rfl, List.replicate_succ', pinsR_add (by simp)]
  rfl
def NewCv (I : Nat → Prop) (w h : Int) (ts : List TL) (d : D) : Prop := ∃ A : List Nat, A.length = ts.length ∧ (∀ b ∈ A, ¬ I b) ∧ d = cvD w h (pinsR A ts)
def Okd (Q : D → Prop) (d : D) : Prop := ∃ e, Q e ∧ d = .tup [e, .val (.int .i64 0)]
set_option maxRecDepth 4000 in
set_option maxHeartbeats 1000000 in
theorem cnew_i (w h : Int) (n : Nat) (hm : mayS w h = true) (hn : w * h = (n : Int)) : DFunI Try.prog 64 [.val (.int .i64 w), .val (.int .i64 h)] [] (fun I => Okd (NewCv I w h (List.replicate n (nT zC4)))) [] := by
  have hb := mul_in hm
  refine dcallsI_go (N := 36) 0 (by kernel_rfl) Try.func64 rfl rfl rfl (by simp only [fr0, Nat.zero_add, Nat.reduceAdd]; exact rfl) rfl fun s0 hs0 => ?_
  refine zaf ?_
  refine zad ?_
  refine zab rfl rfl rfl (zac (.inr rfl) (ev1 rfl)) ?_
  refine zab rfl rfl rfl (zac (.inr rfl) (ev1 rfl)) ?_
  refine zae ?_
  refine zaf ?_
  refine zai 1 (by simp only [holes, List.cons_append, List.nil_append]; exact rfl) ?_
  refine zad ?_
  refine zab rfl rfl rfl (zac (.inl rfl) (ev1 rfl)) ?_
  refine zab rfl rfl rfl (zac (.inl rfl) (ev1 rfl)) ?_
  refine zab rfl rfl rfl (op_build (ps := [(0, .tmp 9), (1, .tmp 10)]) rfl fl104 zr104 (vc (ev1 rfl) (vc (ev1 rfl) vn)) rfl rfl) ?_
  refine zaj rfl rfl rfl (op_alloc 0 rfl zr104 rfl) (by simp only [upd, zaa, za]; exact rfl) ?_
  refine walk_s rfl rfl (op_stwa rfl tb104 (ev1 rfl) (ev1 rfl) rfl rfl rfl rfl) (by simp only [upd, zaa, za]; exact rfl) ?_
  refine zae ?_
  refine zaf ?_
  refine zaf ?_
  refine zad ?_
  refine zab rfl rfl rfl (op_ldw rfl tb104 (ev1 rfl) rfl rfl) ?_
  refine zab rfl rfl rfl (zah [] [] [] rfl (ev1 rfl) (ec (ev1 rfl) en) rfl rfl (smay_d _ _) rfl rfl rfl rfl rfl rfl) ?_
  refine zab rfl rfl rfl (op_not rfl (ev1 rfl)) ?_
  refine zae ?_
  refine dwp_if_f rfl (by rw [hm]; rfl) ?_
  refine zak ?_
  refine zaf ?_
  refine zai 1 (by simp only [holes, List.cons_append, List.nil_append]; exact rfl) ?_
  refine zad ?_
  refine zab rfl rfl rfl (op_ldw rfl tb104 (ev1 rfl) rfl rfl) ?_
  refine zab rfl rfl rfl (op_build (ps := [(0, .tmp 15)]) rfl fl107 zr107 (vc (ev1 rfl) vn) rfl rfl) ?_
  refine zaj rfl rfl rfl (op_boxa 1 rfl (ev1 rfl) rfl) (by simp only [upd, zaa, za]; exact rfl) ?_
  refine zab rfl rfl rfl (zac (.inr rfl) (ev1 rfl)) ?_
  refine zae ?_
  refine zaf ?_
  refine zaf ?_
  refine dwp_reb 1 reb_mix rfl rfl (by simp only [List.cons_append, List.nil_append, zaa, za, List.map]; exact rfl) ?_
  refine dwp_adoptc (l' := [.val (.int .i64 w), .val (.int .i64 h), .arr 2]) 1 2 109 1 rfl rfl rfl rfl (by simp only [List.cons_append, List.nil_append, zaa, za]; exact rfl) ?_
  refine zad ?_
  refine zab rfl rfl rfl (zac (.inl rfl) (ev1 rfl)) ?_
  refine zab rfl rfl rfl (zac (.inl rfl) (ev1 rfl)) ?_
  refine zab rfl rfl rfl (op_mul' rfl (ev1 rfl) (ev1 rfl) (fun _ => IntWalk.i64_in _ (by omega))) ?_
  refine zab rfl rfl rfl (zac (.inl rfl) (ev1 rfl)) ?_
  refine zae ?_
  refine zal ?_
  refine dwp_loopS ⟨hs0, rfl⟩ (α := List Nat) (fun A => [(21, .val (.int .i64 (A.length : Int)))]) [(7, _), (20, _)] (fun A => [(2, .arx 109 1 A.length (pinsR A (List.replicate A.length (nT zC4))))]) [_, _, .hole] (fun A => A.length ≤ n ∧ ∀ b ∈ A, ¬ s0.I b) (fun A => n - A.length) [] [0, 1, 2] (⟨Nat.zero_le _, fun b hb => by simp at hb⟩) rfl ⟨rfl, rfl, trivial⟩ ⟨rfl, trivial⟩ ⟨rfl, rfl, rfl, trivial⟩ ?_
  intro A hx
  simp only [upd, zaa, za, List.cons_append, List.nil_append]
  obtain ⟨hA, hAI⟩ := hx
  refine zaf ?_
  refine zad ?_
  refine zab rfl rfl rfl (op_lss rfl (ev1 rfl) (ev1 rfl)) ?_
  refine zae ?_
  refine zaf ?_
  refine dwp_cond rfl (fun c2 => ?_) (fun c2 => ?_)
  · try simp only [decide_eq_true_eq, decide_eq_false_iff_not, beq_iff_eq, bne_iff_ne, beq_eq_false_iff_ne, bne_eq_false_iff_eq, Bool.not_eq_true', Bool.not_eq_false', Bool.and_eq_true, Bool.or_eq_true, Bool.or_eq_false_iff, ne_eq, Decidable.not_not, Int.not_lt, Int.not_le] at c2
    refine zak ?_
    refine zaf ?_
    refine zal ?_
    refine zaf ?_
    refine zai 1 (by simp only [holes, List.cons_append, List.nil_append]; exact rfl) ?_
    refine zad ?_
    refine zab rfl rfl rfl (op_build0 rfl fl27 zr27) ?_
    refine zab rfl rfl rfl (zah [] [] [] rfl (ev1 rfl) (ec (ev1 rfl) en) rfl rfl (new_d zC4) rfl rfl rfl rfl rfl rfl) ?_
    refine zaj rfl rfl rfl (op_alloc 3 rfl zr81 rfl) (by simp only [upd, zaa, za]; exact rfl) ?_
    refine walk_s rfl rfl (op_stwa rfl tb81 (ev1 rfl) (ev1 rfl) rfl (tc_len _) (tc_oc _) ((tc_len _).trans (tc_len _).symm)) (by simp only [upd, zaa, za]; exact rfl) ?_
    refine zae ?_
    refine dwp_pin 8 rfl rfl (by simp only [zaa, za]; exact rfl) fun b hb => ?_
    refine zai 1 (by simp only [holes, List.cons_append, List.nil_append]; exact rfl) ?_
    refine zad ?_
    refine zab rfl rfl rfl (zac (.inl rfl) (ev1 rfl)) ?_
    refine zab rfl rfl rfl (zac (.inl rfl) (ev1 rfl)) ?_
    refine zab rfl rfl rfl (op_nc rfl (ev1 rfl) (fun s v h => by cases h; exact ⟨_, rfl⟩)) ?_
    refine zab rfl rfl rfl (op_fa rfl fo107_1 (ev1 rfl)) ?_
    refine zab rfl rfl rfl (op_ldm rfl tb105 (ev1 rfl) rfl rfl) ?_
    refine zab rfl rfl rfl (op_bsr (ps := [(0, .tmp 8)]) rfl sl105 zr109 rfl (ec (ev1 rfl) en) rfl rfl rfl (by rfl) rfl (by decide) (by decide)) ?_
    refine zaj rfl rfl rfl (op_appr (j := 4) rfl sl105 zr109 rfl (ev1 rfl) (ev1 rfl) rfl rfl (rfl) (fun _ => ⟨by omega, by omega⟩)) (by simp only [upd, zaa, za]; exact rfl) ?_
    refine zab rfl rfl rfl (op_nc rfl (ev1 rfl) (fun s v h => by cases h; exact ⟨_, rfl⟩)) ?_
    refine zab rfl rfl rfl (op_fa rfl fo107_1 (ev1 rfl)) ?_
    refine walk_s rfl rfl (op_stm rfl tb105 (ev1 rfl) (ev1 rfl) (fun s v h => by cases h <;> exact ⟨rfl, rfl⟩) rfl (by first | decide | exact Nat.le_of_ble_eq_true rfl | simp)) (by simp only [upd, zaa, za]; exact rfl) ?_
    refine zae ?_
    refine zad ?_
    refine zab rfl rfl rfl (op_add' rfl (ev1 rfl) (ev1 rfl) (fun _ => IntWalk.i64_in _ (by omega))) ?_
    refine zab rfl rfl rfl (zac (.inl rfl) (ev1 rfl)) ?_
    refine zae ?_
    refine ⟨A ++ [b], [0, 1, 4], ⟨by simp; omega, fun c hc => by
    rcases List.mem_append.1 hc with hc | hc
    · exact hAI c hc
    · simp at hc; subst hc; exact hb⟩, by simp; omega, rfl, ⟨by rw [List.length_append]; rfl, rfl, rfl, trivial⟩, ⟨rfl, rfl, arxn_fits (by rw [pinsR_rep]; exact (pinsR_ok (by simp)).nl) (by simp) (pinsR_rep _ _ _), trivial⟩⟩
  · try simp only [decide_eq_true_eq, decide_eq_false_iff_not, beq_iff_eq, bne_iff_ne, beq_eq_false_iff_ne, bne_eq_false_iff_eq, Bool.not_eq_true', Bool.not_eq_false', Bool.and_eq_true, Bool.or_eq_true, Bool.or_eq_false_iff, ne_eq, Decidable.not_not, Int.not_lt, Int.not_le] at c2
    refine dwp_exit ?_
    refine zaf ?_
    refine zad ?_
    refine zab rfl rfl rfl (zac (.inl rfl) (ev1 rfl)) ?_
    refine zab rfl rfl rfl (zac (.inr rfl) (ev1 rfl)) ?_
    refine zab rfl rfl rfl (zac (.inr rfl) (ev1 rfl)) ?_
    refine zae ?_
    refine dwp_givem 1 2 ((pinsR_ok (by simp)).nl) rfl rfl rfl (by simp only [zaa, za]; exact rfl) ?_
    refine zao ?_
    refine kendI (post := fun I => Okd (NewCv I w h (List.replicate n (nT zC4)))) (I := s0.I) (Mo := []) [] (rs2 rfl (rv_t rfl) (rv_t rfl)) rfl rfl ?_ trivial
    obtain rfl : A.length = n := by omega
    exact ⟨_, ⟨A, by simp, hAI, rfl⟩, by rw [cvD, pinsR_len (by simp), List.length_replicate]; rfl⟩
set_option maxRecDepth 4000 in
set_option maxHeartbeats 1000000 in
theorem of1_d (t : TL) : DFun Try.prog 67 [tD t] [] (.loc 0 0) [.flat 81 (tc t)] := by
  refine zan (N := 3) 0 (by kernel_rfl) Try.func67 rfl rfl rfl (by simp only [fr0, Nat.zero_add, Nat.reduceAdd]; exact rfl) rfl fun s0 hs0 => ?_
  refine zaf ?_
  refine zai 1 (by simp only [holes, List.cons_append, List.nil_append]; exact rfl) ?_
  refine zad ?_
  refine zaj rfl rfl rfl (op_boxa 0 rfl (ev1 rfl) rfl) (by simp only [upd, zaa, za]; exact rfl) ?_
  refine zab rfl rfl rfl (zac (.inr rfl) (ev1 rfl)) ?_
  refine zae ?_
  refine zaf ?_
  refine zad ?_
  refine zab rfl rfl rfl (zac (.inr rfl) (ev1 rfl)) ?_
  refine zae ?_
  refine zao ?_
  refine kend [0] (rs1 rfl (rv_t rfl)) rfl rfl ?_ ⟨rfl, trivial⟩
  rfl
abbrev tlM (l : List TL) : List Mem := l.map fun t => .flat 81 (tc t)
abbrev ptN (f n : Nat) : List D := (List.range n).map fun k => .floc f k 0
theorem ptN_fits {σ : List Nat} {V : Nat → Bool} {M : List Blk} {T : TypeId} {f g n : Nat} {l l' : List D} (hl : l = ptN f n) (hl' : l' = ptN g n) (hp : pos σ f = some g) : (vwL σ V M l).map (Blk.arx T 1 n) = some (Blk.arx T 1 n l') := by
  subst hl hl'
  have h : ∀ r : List Nat, vwL σ V M (r.map fun k => D.floc f k 0) = some (r.map fun k => D.floc g k 0) := fun r => by
    induction r with
    | nil => rfl
    | cons a r ih =>
      rw [List.map_cons, vwL, ih]
      have : vw σ V M (.floc f a 0) = some (.floc g a 0) := by unfold vw; rw [hp]
      rw [this]; rfl
  rw [h]; rfl
theorem sb_ptN {τ : List Nat} {T : TypeId} {f g n m : Nat} (hp : τ[f]? = some g) : sbB τ (.arx T 1 m (ptN f n)) = some (.arx T 1 m (ptN g n)) := by
  have h : ∀ r : List Nat, sbL τ (r.map fun k => D.floc f k 0) = some (r.map fun k => D.floc g k 0) := fun r => by
    induction r with
    | nil => rfl
    | cons a r ih =>
      rw [List.map_cons, sbL, ih]
      have : sb τ (.floc f a 0) = some (.floc g a 0) := by unfold sb; rw [hp]; rfl
      rw [this]; rfl
  show (sbL τ _).map _ = _
  rw [h]; rfl
theorem ptN_add (f n : Nat) : ptN f n ++ [.floc f n 0] = ptN f (n + 1) := by rw [ptN, ptN, List.range_succ, List.map_append]; rfl
theorem tlM_add {ts : List TL} {k : Nat} (h : k < ts.length) : tlM (ts.take k) ++ [.flat 81 (tc ts[k])] = tlM (ts.take (k + 1)) := by
  rw [List.take_succ_eq_append_getElem h, tlM, tlM, List.map_append]; rfl
theorem tlM_flat {l : List TL} : ∀ (k : Nat) B, (tlM l)[k]? = some B → ∃ T L, B = Mem.flat T L := fun k B h => by
  rw [List.getElem?_map] at h
  cases e : l[k]? with
  | none => rw [e] at h; cases h
  | some t => rw [e] at h; cases h; exact ⟨_, _, rfl⟩
theorem ptN_frz (f : Nat) (ad : Nat → Nat) (l : List TL) : (ptN f l.length).map (frz f ad (tlM l)) = pinsR ((List.range l.length).map ad) l := by
  apply List.ext_getElem?
  intro q
  unfold pinsR
  rw [List.getElem?_map, List.getElem?_map, List.getElem?_map]
  by_cases hq : q < l.length
  · have e2 : ((List.range l.length).map ad).zip l = (List.range l.length).zipWith (fun k t => (ad k, t)) l := by rw [List.zip, List.zipWith_map_left]
    rw [e2, List.getElem?_zipWith, List.getElem?_range hq, List.getElem?_eq_getElem hq]
    simp only [Option.map_some, frz, if_pos, List.getElem?_map, List.getElem?_eq_getElem hq]
  · rw [List.getElem?_eq_none (by simpa using hq), List.getElem?_eq_none (by simp; omega)]; rfl
set_option maxRecDepth 4000 in
set_option maxHeartbeats 1000000 in
theorem each1_d (ts : List TL) (hn : ts.length ≤ 5000) : DFun Try.prog 66 [.slf 256 ts.length (ts.flatMap tc), .fn (.func 67) [] []] [] (.arr 0) [.arx 109 1 ts.length (ptN 1 ts.length), .fam (tlM ts)] := by
  refine zan (N := 25) 0 (by kernel_rfl) Try.func66 rfl rfl rfl (by simp only [fr0, Nat.zero_add, Nat.reduceAdd]; exact rfl) rfl fun s0 hs0 => ?_
  refine dwp_len (t := 0) rfl fun hl0 hL0 => ?_
  refine zaf ?_
  refine zad ?_
  refine zab rfl rfl rfl (zac (.inr rfl) (ev1 rfl)) ?_
  refine zae ?_
  refine zaf ?_
  refine zai 1 (by simp only [holes, List.cons_append, List.nil_append]; exact rfl) ?_
  refine zad ?_
  refine zab rfl rfl rfl (zac (.inl rfl) (ev1 rfl)) ?_
  refine zab rfl rfl rfl (op_len rfl sl22 (ev1 rfl)) ?_
  refine zaj rfl rfl rfl (op_mk0x 0 (ts.length) rfl sl105 zr109 (ev1 rfl) (ev1 rfl) (fun _ => rfl) (fun _ => by omega) rfl (fun _ => ⟨by omega, by omega⟩)) (by simp only [upd, zaa, za]; exact rfl) ?_
  refine zab rfl rfl rfl (zac (.inr rfl) (ev1 rfl)) ?_
  refine zae ?_
  refine zaf ?_
  refine zaf ?_
  refine dwp_hole ?_
  refine dwp_fam 1 rfl (by simp only [List.cons_append, List.nil_append, zaa, za]; exact rfl) ?_
  refine zad ?_
  refine zab rfl rfl rfl (zac (.inl rfl) (ev1 rfl)) ?_
  refine zab rfl rfl rfl (op_len rfl sl22 (ev1 rfl)) ?_
  refine zab rfl rfl rfl (zac (.inl rfl) (ev1 rfl)) ?_
  refine zae ?_
  refine zal ?_
  refine dwp_loopS ⟨hs0, rfl⟩ (α := Nat) (fun k => [(13, .val (.int .i64 (k : Int)))]) [(1, _), (5, _), (11, _), (12, _)] (fun k => [(0, .arx 109 1 k (ptN 1 k)), (1, .fam (tlM (ts.take k)))]) [.hole, .hole] (fun k => k ≤ ts.length) (fun k => ts.length - k) 0 [0, 1] (Nat.zero_le _) rfl ⟨rfl, rfl, rfl, rfl, trivial⟩ ⟨rfl, trivial⟩ ⟨rfl, rfl, trivial⟩ ?_
  intro k hx
  simp only [upd, zaa, za, List.cons_append, List.nil_append]
  have hk := hx
  have htl : (tlM (ts.take k)).length = k := by simp; omega
  refine zaf ?_
  refine zad ?_
  refine zab rfl rfl rfl (op_lss rfl (ev1 rfl) (ev1 rfl)) ?_
  refine zae ?_
  refine zaf ?_
  refine dwp_cond rfl (fun c1 => ?_) (fun c1 => ?_)
  · try simp only [decide_eq_true_eq, decide_eq_false_iff_not, beq_iff_eq, bne_iff_ne, beq_eq_false_iff_ne, bne_eq_false_iff_eq, Bool.not_eq_true', Bool.not_eq_false', Bool.and_eq_true, Bool.or_eq_true, Bool.or_eq_false_iff, ne_eq, Decidable.not_not, Int.not_lt, Int.not_le] at c1
    refine zak ?_
    refine zaf ?_
    refine zal ?_
    refine zaf ?_
    refine zai 1 (by simp only [holes, List.cons_append, List.nil_append]; exact rfl) ?_
    refine zad ?_
    refine zab rfl rfl rfl (op_ixsr (j := k) rfl sl22 (ev1 rfl) (ev1 rfl) tc_len (by decide) (by omega) (by omega)) ?_
    refine zab rfl rfl rfl (op_ldwd rfl tb81 (ev1 rfl) (tc_len _)) ?_
    refine zaj rfl rfl rfl (op_alloc 2 rfl zr81 rfl) (by simp only [upd, zaa, za]; exact rfl) ?_
    refine walk_s rfl rfl (op_stwa rfl tb81 (ev1 rfl) (ev1 rfl) rfl (tc_len _) (tc_oc _) ((tc_len _).trans (tc_len _).symm)) (by simp only [upd, zaa, za]; exact rfl) ?_
    refine zae ?_
    refine zai 3 (by simp only [holes, List.cons_append, List.nil_append]; exact rfl) ?_
    refine zad ?_
    refine zab rfl rfl rfl (zac (.inl rfl) (ev1 rfl)) ?_
    refine zab rfl rfl rfl (zac (.inl rfl) (ev1 rfl)) ?_
    refine zab rfl rfl rfl (op_ldw rfl tb81 (ev1 rfl) rfl (tc_len _)) ?_
    refine zaj rfl rfl rfl (zah [] [] [3] rfl (ev1 rfl) (ec (ev1 rfl) en) rfl rfl (of1_d ts[k]) rfl rfl rfl rfl rfl rfl) (by simp only [upd, zaa, za]; exact rfl) ?_
    refine walk_absl 20 1 rfl rfl rfl (by simp only [zaa, za]; exact rfl) ?_
    refine zaj rfl rfl rfl (op_bsx (ps := [(0, .tmp 20)]) 4 (fun s d v hd hr => by simp only [List.mem_cons, List.not_mem_nil, or_false] at hd; subst hd <;> first | exact rep_own_cells hr | (cases hr <;> rfl)) rfl sl105 zr109 rfl (ec (ev1 rfl) en) (by decide) rfl) (by simp only [upd, zaa, za]; exact rfl) ?_
    refine zaj rfl rfl rfl (op_appxx (j := 5) rfl sl105 zr109 rfl (ev1 rfl) (ev1 rfl) rfl rfl rfl rfl (fun _ => ⟨by omega, by omega⟩)) (by simp only [upd, zaa, za]; exact rfl) ?_
    refine zab rfl rfl rfl (zac (.inr rfl) (ev1 rfl)) ?_
    refine zae ?_
    refine zad ?_
    refine zab rfl rfl rfl (op_add' rfl (ev1 rfl) (ev1 rfl) (fun _ => IntWalk.i64_in _ (by omega))) ?_
    refine zab rfl rfl rfl (zac (.inl rfl) (ev1 rfl)) ?_
    refine zae ?_
    refine ⟨k + 1, [5, 1], by omega, by simp only []; omega, rfl, ⟨rfl, rfl, rfl, rfl, rfl, trivial⟩, ⟨ptN_fits (by rw [htl]; exact ptN_add 1 k) rfl rfl, by rw [← tlM_add (by omega)]; rfl, trivial⟩⟩
  · try simp only [decide_eq_true_eq, decide_eq_false_iff_not, beq_iff_eq, bne_iff_ne, beq_eq_false_iff_ne, bne_eq_false_iff_eq, Bool.not_eq_true', Bool.not_eq_false', Bool.and_eq_true, Bool.or_eq_true, Bool.or_eq_false_iff, ne_eq, Decidable.not_not, Int.not_lt, Int.not_le] at c1
    refine dwp_exit ?_
    refine zaf ?_
    refine zad ?_
    refine zab rfl rfl rfl (zac (.inl rfl) (ev1 rfl)) ?_
    refine zab rfl rfl rfl (zac (.inr rfl) (ev1 rfl)) ?_
    refine zae ?_
    refine zao ?_
    obtain rfl : k = ts.length := by omega
    refine kend [0, 1] (rs1 rfl (rv_t rfl)) rfl rfl ?_ ⟨?_, ?_, trivial⟩
    rfl
    exact ptN_fits rfl rfl rfl
    exact (by rw [List.take_length]; rfl)
set_option maxRecDepth 4000 in
set_option maxHeartbeats 1000000 in
theorem of_0 (w h : Int) (ts : List TL) (hr : rightB w h ts = false) : DFun Try.prog 33 [shD w h ts] [] (.tup [.val (.pointer none), .val (.int .i64 150)]) [] := by
  refine zan (N := 20) 0 (by kernel_rfl) Try.func33 rfl rfl rfl (by simp only [fr0, Nat.zero_add, Nat.reduceAdd]; exact rfl) rfl fun s0 hs0 => ?_
  refine zaf ?_
  refine zai 1 (by simp only [holes, List.cons_append, List.nil_append]; exact rfl) ?_
  refine zad ?_
  refine zaj rfl rfl rfl (op_boxam 0 rfl (ev1 rfl) rfl) (by simp only [upd, zaa, za]; exact rfl) ?_
  refine zab rfl rfl rfl (zac (.inr rfl) (ev1 rfl)) ?_
  refine zab rfl rfl rfl (zac (.inr rfl) (ev1 rfl)) ?_
  refine zae ?_
  refine zaf ?_
  refine zaf ?_
  refine zad ?_
  refine zab rfl rfl rfl (op_ldmw rfl tb24 (ev1 rfl) rfl rfl) ?_
  refine zab rfl rfl rfl (zah [] [] [] rfl (ev1 rfl) (ec (ev1 rfl) en) rfl rfl (ccheck_d _ _ _) rfl rfl rfl rfl rfl rfl) ?_
  refine zab rfl rfl rfl (zac (.inr rfl) (ev1 rfl)) ?_
  refine zae ?_
  refine zaf ?_
  refine zad ?_
  refine zab rfl rfl rfl (zac (.inl rfl) (ev1 rfl)) ?_
  refine zab rfl rfl rfl (op_neq rfl (ev1 rfl) (ev1 rfl)) ?_
  refine zae ?_
  refine dwp_if_t rfl (by rw [hr]; rfl) ?_
  refine zaf ?_
  refine zad ?_
  refine zab rfl rfl rfl (zac (.inl rfl) (ev1 rfl)) ?_
  refine zab rfl rfl rfl (zac (.inr rfl) (ev1 rfl)) ?_
  refine zab rfl rfl rfl (zac (.inr rfl) (ev1 rfl)) ?_
  refine zae ?_
  refine zao ?_
  refine kend0 (rs2 rfl (rv_t rfl) (rv_t rfl)) rfl ?_
  rw [hr]; rfl
set_option maxRecDepth 4000 in
set_option maxHeartbeats 1000000 in
theorem of_i (w h : Int) (ts : List TL) (hc : CvOk w h ts) : DFunI Try.prog 33 [shD w h ts] [] (fun I => Okd (NewCv I w h ts)) [] := by
  have hr := hc.right
  have hle := hc.le
  refine dcallsI_go (N := 20) 0 (by kernel_rfl) Try.func33 rfl rfl rfl (by simp only [fr0, Nat.zero_add, Nat.reduceAdd]; exact rfl) rfl fun s0 hs0 => ?_
  refine zaf ?_
  refine zai 1 (by simp only [holes, List.cons_append, List.nil_append]; exact rfl) ?_
  refine zad ?_
  refine zaj rfl rfl rfl (op_boxam 0 rfl (ev1 rfl) rfl) (by simp only [upd, zaa, za]; exact rfl) ?_
  refine zab rfl rfl rfl (zac (.inr rfl) (ev1 rfl)) ?_
  refine zab rfl rfl rfl (zac (.inr rfl) (ev1 rfl)) ?_
  refine zae ?_
  refine zaf ?_
  refine zaf ?_
  refine zad ?_
  refine zab rfl rfl rfl (op_ldmw rfl tb24 (ev1 rfl) rfl rfl) ?_
  refine zab rfl rfl rfl (zah [] [] [] rfl (ev1 rfl) (ec (ev1 rfl) en) rfl rfl (ccheck_d _ _ _) rfl rfl rfl rfl rfl rfl) ?_
  refine zab rfl rfl rfl (zac (.inr rfl) (ev1 rfl)) ?_
  refine zae ?_
  refine zaf ?_
  refine zad ?_
  refine zab rfl rfl rfl (zac (.inl rfl) (ev1 rfl)) ?_
  refine zab rfl rfl rfl (op_neq rfl (ev1 rfl) (ev1 rfl)) ?_
  refine zae ?_
  refine dwp_if_f rfl (by rw [hr]; rfl) ?_
  refine zak ?_
  refine zaf ?_
  refine zai 3 (by simp only [holes, List.cons_append, List.nil_append]; exact rfl) ?_
  refine dwp_draw [([], []), ([0], []), ([], []), ([0], []), ([], []), ([], []), ([0], []), ([1, 2], [1, 2]), ([], []), ([3], [3]), ([], []), ([], [])] mixed (by kernel_rfl) ?_
  refine zag rfl rfl (op_fa rfl fo24_0 (ev1 rfl)) ?_
  refine zag rfl rfl (op_ldm rfl tb3 (ev1 rfl) rfl rfl) ?_
  refine zag rfl rfl (op_fa rfl fo24_1 (ev1 rfl)) ?_
  refine zag rfl rfl (op_ldm rfl tb3 (ev1 rfl) rfl rfl) ?_
  refine zag rfl rfl (op_build (ps := [(0, .tmp 11), (1, .tmp 13)]) rfl fl104 zr104 (vc (ev1 rfl) (vc (ev1 rfl) vn)) rfl rfl) ?_
  refine zag rfl rfl (op_fa rfl fo24_2 (ev1 rfl)) ?_
  refine zag rfl rfl (op_ldm rfl tb22 (ev1 rfl) rfl rfl) ?_
  refine lex_w rfl rfl (zah [] [] [1, 2] rfl (ev1 rfl) (ec (ev1 rfl) (ec (ev1 rfl) en)) rfl rfl (each1_d ts (by omega)) rfl rfl rfl (by exact (wrc (sb_ptN rfl) (wrc rfl rfl))) rfl rfl) rfl (by simp only [upd, zaa, za]; exact rfl) ?_
  refine zag rfl rfl (op_bldD (ps := [(0, .tmp 14), (1, .tmp 17)]) rfl fl107 zr107 (ec (ev1 rfl) (ec (ev1 rfl) en)) rfl rfl rfl) ?_
  refine lex_w rfl rfl (op_boxam 3 rfl (ev1 rfl) rfl) rfl (by simp only [upd, zaa, za]; exact rfl) ?_
  refine zag rfl rfl (zac (.inr rfl) (ev1 rfl)) ?_
  refine zag rfl rfl (zac (.inr rfl) (ev1 rfl)) ?_
  refine lex_nil ?_
  refine dwp_frz 2 1 rfl rfl (tlM_flat) fun ad had => ?_
  simp only [zaa, za]
  refine dwp_givem 3 2 ((by rw [ptN_frz]; exact (pinsR_ok (by simp)).nl)) rfl rfl rfl (by simp only [zaa, za]; exact rfl) ?_
  refine zao ?_
  refine kendI (post := fun I => Okd (NewCv I w h ts)) (I := s0.I) (Mo := []) [] (rs2 rfl (rv_t rfl) (rv_t rfl)) rfl rfl ?_ trivial
  rw [ptN_frz]
  exact ⟨_, ⟨(List.range ts.length).map ad, by simp, fun b hb => by
      obtain ⟨k, hk, rfl⟩ := List.mem_map.1 hb
      exact had k (by simpa using hk), rfl⟩, by rw [cvD, pinsR_len (by simp)]; rfl⟩
end Go.Proofs.Ytfnhckildfbikaa
namespace Go.Proofs.Ytfnhckildfbikaa
set_option maxRecDepth 4000
set_option linter.unusedVariables false
set_option linter.unusedSimpArgs false
open Go.RowKit
theorem fo139_0 : fdO Try.prog 139 0 = some 0 := by kernel_rfl
theorem fo139_1 : fdO Try.prog 139 1 = some 1 := by kernel_rfl
theorem fo139_2 : fdO Try.prog 139 2 = some 2 := by kernel_rfl
theorem fo155_0 : fdO Try.prog 155 0 = some 0 := by kernel_rfl
theorem fo155_1 : fdO Try.prog 155 1 = some 2 := by kernel_rfl
theorem fo155_2 : fdO Try.prog 155 2 = some 3 := by kernel_rfl
theorem fo155_3 : fdO Try.prog 155 3 = some 4 := by kernel_rfl
theorem it3 : intT Try.prog 3 = some .i64 := by kernel_rfl
theorem mp153 : mpT Try.prog 153 = some (3, 109) := by kernel_rfl
theorem pt109 : ptT Try.prog 109 = some 81 := by kernel_rfl
theorem tb143 : tyB Try.prog 143 = some (false, 1) := by kernel_rfl
theorem tb153 : tyB Try.prog 153 = some (false, 1) := by kernel_rfl
theorem zv109 : zrV Try.prog 109 = some (.pointer none) := by kernel_rfl
def dotS (w h : Int) (ts : List TL) (s : List Nat × List TL) (d : Dt) : List Nat × List TL :=
  if onS w h d.x d.y = true then
    (if plN w d.x d.y ∈ s.1 then (s.1, s.2.set (s.1.idxOf (plN w d.x d.y)) ((s.2.getD (s.1.idxOf (plN w d.x d.y)) zT).set (pxN d.x d.y) d.c))
    else (s.1 ++ [plN w d.x d.y], s.2 ++ [(ts.getD (plN w d.x d.y) zT).set (pxN d.x d.y) d.c]))
  else s
theorem dotS_off {w h : Int} {ts : List TL} {s : List Nat × List TL} {d : Dt} (ho : onS w h d.x d.y = false) : dotS w h ts s d = s := by unfold dotS; rw [if_neg (by rw [ho]; decide)]
theorem dotS_in {w h : Int} {ts : List TL} {s : List Nat × List TL} {d : Dt} (ho : onS w h d.x d.y = true) (hi : plN w d.x d.y ∈ s.1) : dotS w h ts s d = (s.1, s.2.set (s.1.idxOf (plN w d.x d.y)) ((s.2.getD (s.1.idxOf (plN w d.x d.y)) zT).set (pxN d.x d.y) d.c)) := by unfold dotS; rw [if_pos ho, if_pos hi]
theorem dotS_new {w h : Int} {ts : List TL} {s : List Nat × List TL} {d : Dt} (ho : onS w h d.x d.y = true) (hi : plN w d.x d.y ∉ s.1) : dotS w h ts s d = (s.1 ++ [plN w d.x d.y], s.2 ++ [(ts.getD (plN w d.x d.y) zT).set (pxN d.x d.y) d.c]) := by unfold dotS; rw [if_pos ho, if_neg hi]
structure DotOk (ts us : List TL) (s : List Nat × List TL) : Prop where
  len : s.2.length = s.1.length
  nd : s.1.Nodup
  lt : ∀ p ∈ s.1, p < ts.length
  ul : us.length = ts.length
  val : ∀ (i p : Nat), s.1[i]? = some p → s.2[i]? = us[p]?
  oth : ∀ (p : Nat), p ∉ s.1 → us[p]? = ts[p]?
theorem dotOk_nil (ts : List TL) : DotOk ts ts ([], []) := ⟨rfl, List.nodup_nil, fun p hp => by simp at hp, rfl, fun i p h => by simp at h, fun p _ => rfl⟩
theorem idx_at {ks : List Nat} {p : Nat} (h : p ∈ ks) : ks[ks.idxOf p]? = some p ∧ ks.idxOf p < ks.length := by
  have h1 := List.idxOf_lt_length_of_mem h
  exact ⟨by rw [List.getElem?_eq_getElem h1, List.getElem_idxOf h1], h1⟩
theorem idx_of {ks : List Nat} (hn : ks.Nodup) {i p : Nat} (h : ks[i]? = some p) : ks.idxOf p = i := by
  have hm : p ∈ ks := List.mem_of_getElem? h
  obtain ⟨h1, h2⟩ := idx_at hm
  have hi := (List.getElem?_eq_some_iff.1 h).1
  exact ((List.getElem?_inj h2 hn).1 (h1.trans h.symm))
theorem DotOk.step {w h : Int} {ts us : List TL} {s : List Nat × List TL} (hc : CvOk w h ts) (hs : DotOk ts us s) (d : Dt) : DotOk ts (putC w h us d) (dotS w h ts s d) := by
  obtain ⟨ks, es⟩ := s
  obtain ⟨h1, h2, h3, h4, h5, h6⟩ := hs
  dsimp only at h1 h2 h3 h4 h5 h6
  cases ho : onS w h d.x d.y with
  | false =>
    rw [dotS_off ho, show putC w h us d = us by rw [putC, if_neg (by rw [ho]; decide)]]
    exact ⟨h1, h2, h3, h4, h5, h6⟩
  | true =>
    have hp := hc.pl ho
    rw [show putC w h us d = us.set (plN w d.x d.y) ((us.getD (plN w d.x d.y) zT).set (pxN d.x d.y) d.c) by rw [putC, if_pos ho]]
    by_cases hi : plN w d.x d.y ∈ ks
    · rw [dotS_in ho hi]
      dsimp only
      generalize plN w d.x d.y = p at hp hi ⊢
      obtain ⟨g1, g2⟩ := idx_at hi
      have e : es.getD (ks.idxOf p) zT = us.getD p zT := by rw [List.getD_eq_getElem?_getD, List.getD_eq_getElem?_getD, h5 _ p g1]
      rw [e]
      refine ⟨by simp [h1], h2, h3, by simp [h4], fun j r hj => ?_, fun r hr => ?_⟩
      · by_cases ej : ks.idxOf p = j
        · subst ej
          rw [g1] at hj
          cases hj
          rw [List.getElem?_set_self (by omega), List.getElem?_set_self (by omega)]
        · have er : p ≠ r := fun er => ej (by subst er; exact idx_of h2 hj)
          rw [List.getElem?_set_ne ej, List.getElem?_set_ne er]
          exact h5 j r hj
      · have er : p ≠ r := fun er => hr (by subst er; exact hi)
        rw [List.getElem?_set_ne er]
        exact h6 r hr
    · rw [dotS_new ho hi]
      dsimp only
      generalize plN w d.x d.y = p at hp hi ⊢
      have e : us.getD p zT = ts.getD p zT := by rw [List.getD_eq_getElem?_getD, List.getD_eq_getElem?_getD, h6 p hi]
      rw [e]
      refine ⟨by simp [h1], ?_, fun r hr => ?_, by simp [h4], fun j r hj => ?_, fun r hr => ?_⟩
      · rw [List.nodup_append]
        exact ⟨h2, by simp, fun a ha b hb => by simp at hb; subst hb; exact fun e => hi (e ▸ ha)⟩
      · rcases List.mem_append.1 hr with hr | hr
        · exact h3 r hr
        · simp at hr; subst hr; exact hp
      · by_cases hj2 : j < ks.length
        · rw [List.getElem?_append_left hj2] at hj
          rw [List.getElem?_append_left (by omega)]
          have er : p ≠ r := fun er => hi (by subst er; exact List.mem_of_getElem? hj)
          rw [List.getElem?_set_ne er]
          exact h5 j r hj
        · rw [List.getElem?_append_right (by omega)] at hj
          have hj3 : j - ks.length = 0 := by have := (List.getElem?_eq_some_iff.1 hj).1; simp at this; omega
          rw [hj3] at hj
          simp at hj
          subst hj
          rw [List.getElem?_append_right (by omega), h1, hj3, List.getElem?_set_self (by omega)]
          rfl
      · have er : p ≠ r := fun er => hr (by subst er; simp)
        rw [List.getElem?_set_ne er]
        exact h6 r fun hr2 => hr (by simp [hr2])
def dotsS (w h : Int) (ts : List TL) (l : List Dt) : List Nat × List TL := l.foldl (dotS w h ts) ([], [])
theorem dotsS_take {w h : Int} {ts : List TL} {l : List Dt} {k : Nat} (hk : k < l.length) : dotsS w h ts (l.take (k + 1)) = dotS w h ts (dotsS w h ts (l.take k)) l[k] := by
  rw [List.take_succ_eq_append_getElem hk, dotsS, List.foldl_append]; rfl
theorem dotsS_ok {w h : Int} {ts : List TL} (hc : CvOk w h ts) : ∀ (l : List Dt) (us : List TL) (s : List Nat × List TL), DotOk ts us s → DotOk ts (putsC w h us l) (l.foldl (dotS w h ts) s)
  | [], us, s, hs => hs
  | d :: l, us, s, hs => dotsS_ok hc l _ _ (hs.step hc d)
def rowS (f : Nat) (ts es : List TL) (ds : List D) (ks seen : List Nat) : List D := (List.range ds.length).map fun q => if q ∈ ks ∧ ks.idxOf q ∈ seen ∧ es[ks.idxOf q]? ≠ ts[q]? then .floc f (ks.idxOf q) 0 else ds.getD q .junk
theorem rowS_len (f : Nat) (ts es : List TL) (ds : List D) (ks seen : List Nat) : (rowS f ts es ds ks seen).length = ds.length := by simp [rowS]
theorem rowS_get {f : Nat} {ts es : List TL} {ds : List D} {ks seen : List Nat} {q : Nat} (hq : q < ds.length) : (rowS f ts es ds ks seen)[q]? = some (if q ∈ ks ∧ ks.idxOf q ∈ seen ∧ es[ks.idxOf q]? ≠ ts[q]? then .floc f (ks.idxOf q) 0 else ds.getD q .junk) := by
  unfold rowS
  rw [List.getElem?_map, List.getElem?_range hq]; rfl
theorem dsD {ds : List D} {q : Nat} (hq : q < ds.length) : ds[q]? = some (ds.getD q .junk) := by rw [List.getD_eq_getElem?_getD, List.getElem?_eq_getElem hq]; rfl
theorem rowS_nil (f : Nat) (ts es : List TL) (ds : List D) (ks : List Nat) : rowS f ts es ds ks [] = ds := by
  apply List.ext_getElem?
  intro q
  by_cases hq : q < ds.length
  · rw [rowS_get hq, if_neg (fun h => by simp at h), dsD hq]
  · rw [List.getElem?_eq_none (by rw [rowS_len]; omega), List.getElem?_eq_none (by omega)]
theorem rowS_at {f : Nat} {ts es : List TL} {ds : List D} {ks seen : List Nat} {p q : Nat} (hn : ks.Nodup) (hp : ks[p]? = some q) (hs : p ∉ seen) (hq : q < ds.length) : (rowS f ts es ds ks seen)[q]? = ds[q]? := by
  rw [rowS_get hq, if_neg (fun h => hs (by rw [← idx_of hn hp]; exact h.2.1)), dsD hq]
theorem rowS_step {f : Nat} {ts es : List TL} {ds : List D} {ks seen : List Nat} {p q : Nat} (hn : ks.Nodup) (hp : ks[p]? = some q) (hs : p ∉ seen) (hq : q < ds.length) :
    rowS f ts es ds ks (seen ++ [p]) = if es[p]? ≠ ts[q]? then (rowS f ts es ds ks seen).set q (.floc f p 0) else rowS f ts es ds ks seen := by
  have hi := idx_of hn hp
  apply List.ext_getElem?
  intro r
  by_cases hr : r < ds.length
  · by_cases er : q = r
    · subst er
      have hm : q ∈ ks := List.mem_of_getElem? hp
      rw [rowS_get hr, hi]
      by_cases hne : es[p]? ≠ ts[q]?
      · rw [if_pos hne, if_pos ⟨hm, by simp, hne⟩, List.getElem?_set_self (by rw [rowS_len]; exact hr)]
      · rw [if_neg hne, if_neg (fun h => hne h.2.2), rowS_get hr, hi, if_neg (fun h => hne h.2.2)]
    · have e : (if es[p]? ≠ ts[q]? then (rowS f ts es ds ks seen).set q (.floc f p 0) else rowS f ts es ds ks seen)[r]? = (rowS f ts es ds ks seen)[r]? := by
        split
        · rw [List.getElem?_set_ne er]
        · rfl
      rw [e, rowS_get hr, rowS_get hr]
      congr 1
      have hiff : (r ∈ ks ∧ ks.idxOf r ∈ seen ++ [p] ∧ es[ks.idxOf r]? ≠ ts[r]?) ↔ (r ∈ ks ∧ ks.idxOf r ∈ seen ∧ es[ks.idxOf r]? ≠ ts[r]?) := by
        refine ⟨fun ⟨h1, h2, h3⟩ => ⟨h1, ?_, h3⟩, fun ⟨h1, h2, h3⟩ => ⟨h1, by simp [h2], h3⟩⟩
        rcases List.mem_append.1 h2 with h2 | h2
        · exact h2
        · exfalso
          simp at h2
          have := (idx_at h1).1
          rw [h2, hp] at this
          exact er (Option.some.inj this)
      simp only [hiff]
  · rw [List.getElem?_eq_none (by rw [rowS_len]; omega), List.getElem?_eq_none (by split <;> simp [rowS_len] <;> omega)]
structure RowP (I : Nat → Prop) (ds ps : List D) (ts us : List TL) : Prop where
  len : ps.length = ds.length
  eq : ∀ (q : Nat), us[q]? = ts[q]? → ps[q]? = ds[q]?
  ne : ∀ (q : Nat) t, us[q]? = some t → ts[q]? ≠ some t → ∃ b, ¬ I b ∧ ps[q]? = some (.pin b (tc t))
theorem frz_nl {f : Nat} {ad : Nat → Nat} {Bs : List Mem} {d : D} (h : d.nl = true) : frz f ad Bs d = d := by
  cases d <;> first | rfl | (cases h)
theorem rowS_frz {I : Nat → Prop} {f : Nat} {ad : Nat → Nat} {ts es us : List TL} {ds : List D} {ks seen : List Nat} (hr : RowOk ds ts) (hs : DotOk ts us (ks, es)) (hall : ∀ p, p < ks.length → p ∈ seen) (had : ∀ k, k < es.length → ¬ I (ad k)) : RowP I ds ((rowS f ts es ds ks seen).map (frz f ad (tlM es))) ts us := by
  obtain ⟨h1, h2, h3, h4, h5, h6⟩ := hs
  dsimp only at h1 h2 h3 h4 h5 h6
  have hlen := hr.len
  refine ⟨by simp [rowS_len], fun q hq => ?_, fun q t hq hne => ?_⟩
  · by_cases hql : q < ds.length
    · rw [List.getElem?_map, rowS_get hql, if_neg, dsD hql]
      · have := nlL_mem hr.nl (dsD hql)
        rw [Option.map_some, frz_nl this]
      · rintro ⟨a1, a2, a3⟩
        obtain ⟨g1, g2⟩ := idx_at a1
        exact a3 (by rw [h5 _ q g1, hq])
    · rw [List.getElem?_eq_none (by simp [rowS_len]; omega), List.getElem?_eq_none (by omega)]
  · have hql : q < ds.length := by have := (List.getElem?_eq_some_iff.1 hq).1; omega
    have hm : q ∈ ks := Classical.byContradiction fun hno => hne (by rw [← h6 q hno]; exact hq)
    obtain ⟨g1, g2⟩ := idx_at hm
    have e5 := h5 _ q g1
    refine ⟨ad (ks.idxOf q), had _ (by omega), ?_⟩
    rw [List.getElem?_map, rowS_get hql, if_pos ⟨hm, hall _ g2, by rw [e5, hq]; exact fun e => hne e.symm⟩, Option.map_some]
    have e6 : (tlM es)[ks.idxOf q]? = some (.flat 81 (tc t)) := by rw [List.getElem?_map, e5, hq]; rfl
    simp only [frz, if_pos, e6]
theorem RowP.ok {I : Nat → Prop} {ds ps : List D} {ts us : List TL} (hr : RowOk ds ts) (hp : RowP I ds ps ts us) (hl : us.length = ts.length) : RowOk ps us := by
  have hq : ∀ (q : Nat) t, us[q]? = some t → ∃ d, ps[q]? = some d ∧ d.nl = true ∧ d.oc2 = true ∧ Wk d (.dpf (tc t)) := by
    intro q t ht
    have hql : q < ts.length := by have := (List.getElem?_eq_some_iff.1 ht).1; omega
    by_cases e : ts[q]? = some t
    · obtain ⟨d, g1, g2, g3, g4, g5⟩ := hr.at hql
      refine ⟨d, by rw [hp.eq q (by rw [ht, e]), g1], g3, g4, ?_⟩
      rw [List.getD_eq_getElem?_getD, e] at g5
      exact g5
    · obtain ⟨b, _, h2⟩ := hp.ne q t ht e
      exact ⟨_, h2, rfl, rfl, Wk.pin _ _⟩
  have hlen : ps.length = us.length := by rw [hp.len, hr.len, hl]
  have hm : ∀ d ∈ ps, ∃ (q : Nat) (t : TL), us[q]? = some t ∧ ps[q]? = some d := fun d hd => by
    obtain ⟨q, h1⟩ := List.getElem?_of_mem hd
    have : q < us.length := by rw [← hlen]; exact (List.getElem?_eq_some_iff.1 h1).1
    exact ⟨q, _, List.getElem?_eq_getElem this, h1⟩
  refine ⟨hlen, nlL_all fun d hd => ?_, List.all_eq_true.2 fun d hd => ?_, fun q d t h1 h2 => ?_⟩
  · obtain ⟨q, t, h1, h2⟩ := hm d hd
    obtain ⟨e, g1, g2, g3, g4⟩ := hq q t h1
    rw [h2] at g1; cases g1; exact g2
  · obtain ⟨q, t, h1, h2⟩ := hm d hd
    obtain ⟨e, g1, g2, g3, g4⟩ := hq q t h1
    rw [h2] at g1; cases g1; exact g3
  · obtain ⟨e, g1, g2, g3, g4⟩ := hq q t h2
    rw [h1] at g1; cases g1; exact g4
abbrev kI (ks : List Nat) : List Int := ks.map fun (k : Nat) => (k : Int)
theorem kI_nd {ks : List Nat} (h : ks.Nodup) : (kI ks).Nodup := by
  rw [List.nodup_iff_pairwise_ne, List.pairwise_map]
  exact (List.nodup_iff_pairwise_ne.1 h).imp fun hne e => hne (by omega)
theorem kI_no {ks : List Nat} {p : Nat} {z : Int} (hz : z = (p : Int)) (h : p ∉ ks) : z ∉ kI ks := fun hm => by
  obtain ⟨q, h1, h2⟩ := List.mem_map.1 hm
  exact h (by rw [show p = q by omega]; exact h1)
theorem kI_app (ks : List Nat) (p : Nat) : kI ks ++ [(p : Int)] = kI (ks ++ [p]) := by rw [kI, kI, List.map_append]; rfl
theorem kI_at {ks : List Nat} {p : Nat} (h : p ∈ ks) : (kI ks)[ks.idxOf p]? = some (p : Int) := by rw [List.getElem?_map, (idx_at h).1]; rfl
theorem ptN_at {f n k : Nat} (h : k < n) : (ptN f n)[k]? = some (.floc f k 0) := by rw [List.getElem?_map, List.getElem?_range h]; rfl
theorem ptN_mpd {σ : List Nat} {V : Nat → Bool} {M : List Blk} {ks ks' : List Int} {f g n : Nat} {l l' : List D} (hk : ks = ks') (hl : l = ptN f n) (hl' : l' = ptN g n) (hp : pos σ f = some g) : (vwL σ V M l).map (Blk.mpd ks) = some (Blk.mpd ks' l') := by
  subst hk hl hl'
  have h : ∀ r : List Nat, vwL σ V M (r.map fun k => D.floc f k 0) = some (r.map fun k => D.floc g k 0) := fun r => by
    induction r with
    | nil => rfl
    | cons a r ih =>
      rw [List.map_cons, vwL, ih]
      have : vw σ V M (.floc f a 0) = some (.floc g a 0) := by unfold vw; rw [hp]
      rw [this]; rfl
  rw [h]; rfl
theorem tlM_at {es : List TL} {k : Nat} (h : k < es.length) : (tlM es)[k]? = some (.flat 81 (tc (es.getD k zT))) := by rw [List.getElem?_map, List.getElem?_eq_getElem h, tl_at h]; rfl
theorem tlM_len (es : List TL) : (tlM es).length = es.length := by simp
theorem setT {t : TL} {q : Nat} {z : Int} {c : C4} (hz : z = (q : Int)) (hq : q < 64) : setL (tc t) (0 + z.toNat * 4) (c4 c) = tc (t.set q c) := by
  subst hz
  rw [Int.toNat_natCast, Nat.zero_add]
  exact flat_set c4_len (by rw [TL.h]; exact hq) c
theorem fitT {t : TL} {q : Nat} {z : Int} (hz : z = (q : Int)) (hq : q < 64) : 0 + z.toNat * 4 + 4 ≤ (tc t).length := by
  subst hz
  rw [Int.toNat_natCast, tc_len]; omega
theorem tlM_set {es : List TL} {k : Nat} {t : TL} : (tlM es).set k (.flat 81 (tc t)) = tlM (es.set k t) := by rw [tlM, tlM, List.map_set]
theorem tlM_app (es : List TL) (t : TL) : tlM es ++ [.flat 81 (tc t)] = tlM (es ++ [t]) := by rw [tlM, tlM, List.map_append]; rfl
theorem tlM_new (es : List TL) (t : TL) (q : Nat) (c : C4) : (tlM es ++ [Mem.flat 81 (tc t)]).set es.length (Mem.flat 81 (tc (((es ++ [t]).getD es.length zT).set q c))) = tlM (es ++ [t.set q c]) := by
  rw [tlM_app, tlM_set, tl_at (by simp), List.getElem_append_right (Nat.le_refl _), List.set_append_right _ _ (Nat.le_refl _)]
  simp
theorem arxd_fits {σ : List Nat} {V : Nat → Bool} {M : List Blk} {T : TypeId} {sz n : Nat} {ds : List D} {ts : List TL} (hr : RowOk ds ts) : (vwL σ V M ds).map (Blk.arx T sz n) = some (Blk.arx T sz n ds) := arxn_fits hr.nl rfl rfl
set_option maxRecDepth 4000 in
set_option maxHeartbeats 1000000 in
theorem dot_d (w h : Int) (ds : List D) (ts us : List TL) (hr : RowOk ds ts) (hc : CvOk w h ts) (s : List Nat × List TL) (hs : DotOk ts us s) (d : Dt) : DFun Try.prog 93 [.loc 0 0, .val (.agg (dtC d).toArray)] [.mix 155 [.val (.int .i64 w), .val (.int .i64 h), .fn (.func 96) [] [.loc 4 0, .loc 5 0], .arr 1, .hnd 2], .arx 109 1 ds.length ds, .mpd (kI s.1) (ptN 3 s.2.length), .fam (tlM s.2), .flat 3 [.int .i64 (w * 8)], .flat 3 [.int .i64 (h * 8)]] (.tup []) [.mix 155 [.val (.int .i64 w), .val (.int .i64 h), .fn (.func 96) [] [.loc 4 0, .loc 5 0], .arr 1, .hnd 2], .arx 109 1 ds.length ds, .mpd (kI (dotS w h ts s d).1) (ptN 3 (dotS w h ts s d).2.length), .fam (tlM (dotS w h ts s d).2), .flat 3 [.int .i64 (w * 8)], .flat 3 [.int .i64 (h * 8)]] := by
  refine zan (N := 61) 6 (by kernel_rfl) Try.func93 rfl rfl rfl (by simp only [fr0, Nat.zero_add, Nat.reduceAdd]; exact rfl) rfl fun s0 hs0 => ?_
  refine zaf ?_
  refine zai 1 (by simp only [holes, List.cons_append, List.nil_append]; exact rfl) ?_
  refine zad ?_
  refine zaj rfl rfl rfl (op_boxa 6 rfl (ev1 rfl) rfl) (by simp only [upd, zaa, za]; exact rfl) ?_
  refine zae ?_
  refine zaf ?_
  refine zaf ?_
  refine dwp_draw [([], []), ([], []), ([], []), ([0], []), ([], []), ([6], []), ([], []), ([6], []), ([4, 5], [4, 5]), ([], [])] mixed (by kernel_rfl) ?_
  refine zag rfl rfl (zac (.inl rfl) (ev1 rfl)) ?_
  refine zag rfl rfl (op_nc rfl (ev1 rfl) (fun s v h => by cases h; exact ⟨_, rfl⟩)) ?_
  refine zag rfl rfl (op_fa rfl fo155_1 (ev1 rfl)) ?_
  refine zag rfl rfl (op_ldm rfl tb143 (ev1 rfl) rfl rfl) ?_
  refine zag rfl rfl (op_fa rfl fo139_0 (ev1 rfl)) ?_
  refine zag rfl rfl (zam rfl tb3 (ev1 rfl) rfl rfl) ?_
  refine zag rfl rfl (op_fa rfl fo139_1 (ev1 rfl)) ?_
  refine zag rfl rfl (zam rfl tb3 (ev1 rfl) rfl rfl) ?_
  refine lex_w rfl rfl (zah [4, 5] [] [] rfl (ev1 rfl) (ec (ev1 rfl) (ec (ev1 rfl) en)) rfl rfl (sask1_d d.x d.y w h) rfl rfl rfl rfl rfl rfl) rfl (by simp only [upd, zaa, za]; exact rfl) ?_
  refine zag rfl rfl (op_not rfl (ev1 rfl)) ?_
  refine lex_nil ?_
  refine dwp_cond rfl (fun c1 => ?_) (fun c1 => ?_)
  · have ho : onS w h d.x d.y = false := bn_t c1
    refine zao ?_
    rw [dotS_off ho]
    refine kend [0, 1, 2, 3, 4, 5] (res_none rfl) rfl rfl ?_ ⟨?_, ?_, ?_, ?_, ?_, ?_, trivial⟩
    rfl
    exact rfl
    exact arxd_fits hr
    exact ptN_mpd rfl rfl rfl rfl
    exact rfl
    exact rfl
    exact rfl
  · have ho : onS w h d.x d.y = true := bn_f c1
    have hpl := on_pl hc.may ho
    have hpt := hc.pl ho
    have hlen := hs.len
    refine zak ?_
    refine zaf ?_
    refine dwp_draw [([], []), ([], []), ([], []), ([0], []), ([], []), ([6], []), ([], []), ([6], []), ([], []), ([], []), ([], []), ([], []), ([], []), ([], [])] mixed (by kernel_rfl) ?_
    refine zag rfl rfl (zac (.inl rfl) (ev1 rfl)) ?_
    refine zag rfl rfl (op_nc rfl (ev1 rfl) (fun s v h => by cases h; exact ⟨_, rfl⟩)) ?_
    refine zag rfl rfl (op_fa rfl fo155_0 (ev1 rfl)) ?_
    refine zag rfl rfl (op_ldmv (R := [_, _]) rfl tb104 (ev1 rfl) rfl rfl rfl) ?_
    refine zag rfl rfl (op_fa rfl fo139_0 (ev1 rfl)) ?_
    refine zag rfl rfl (zam rfl tb3 (ev1 rfl) rfl rfl) ?_
    refine zag rfl rfl (op_fa rfl fo139_1 (ev1 rfl)) ?_
    refine zag rfl rfl (zam rfl tb3 (ev1 rfl) rfl rfl) ?_
    refine zag rfl rfl (zah [] [] [] rfl (ev1 rfl) (ec (ev1 rfl) (ec (ev1 rfl) (ec (ev1 rfl) en))) rfl rfl (splace_d w h d.x d.y hc.may ho) rfl rfl rfl rfl rfl rfl) ?_
    refine zag rfl rfl (zac (.inl rfl) (ev1 rfl)) ?_
    refine zag rfl rfl (op_ext rfl (ev1 rfl) rfl) ?_
    refine zag rfl rfl (op_ext rfl (ev1 rfl) rfl) ?_
    refine zag rfl rfl (zac (.inr rfl) (ev1 rfl)) ?_
    refine zag rfl rfl (zac (.inr rfl) (ev1 rfl)) ?_
    refine lex_nil ?_
    refine zaf ?_
    refine zaf ?_
    by_cases hin : plN w d.x d.y ∈ s.1
    · obtain ⟨g1, g2⟩ := idx_at hin
      have g3 : s.1.idxOf (plN w d.x d.y) < s.2.length := by omega
      refine zad ?_
      refine zab rfl rfl rfl (zac (.inl rfl) (ev1 rfl)) ?_
      refine zab rfl rfl rfl (op_nc rfl (ev1 rfl) (fun s v h => by cases h; exact ⟨_, rfl⟩)) ?_
      refine zab rfl rfl rfl (op_fa rfl fo155_3 (ev1 rfl)) ?_
      refine zab rfl rfl rfl (op_ldm rfl tb153 (ev1 rfl) rfl rfl) ?_
      refine zab rfl rfl rfl (zac (.inl rfl) (ev1 rfl)) ?_
      refine zab rfl rfl rfl (op_lkdy (j := s.1.idxOf (plN w d.x d.y)) mp153 it3 rfl (ev1 rfl) (ev1 rfl) rfl (fun _ => kI_nd hs.nd) (fun _ => kI_at hin) (ptN_at g3)) ?_
      refine zab rfl rfl rfl (op_pnilf rfl pt109 (ev1 rfl)) ?_
      refine zae ?_
      refine dwp_if_f rfl (rfl) ?_
      refine zak ?_
      refine dwp_draw [([], []), ([], []), ([], []), ([0], []), ([], []), ([2], []), ([], []), ([], []), ([6], []), ([], []), ([], []), ([3], [3])] mixed (by kernel_rfl) ?_
      refine zag rfl rfl (zac (.inl rfl) (ev1 rfl)) ?_
      refine zag rfl rfl (op_nc rfl (ev1 rfl) (fun s v h => by cases h; exact ⟨_, rfl⟩)) ?_
      refine zag rfl rfl (op_fa rfl fo155_3 (ev1 rfl)) ?_
      refine zag rfl rfl (op_ldm rfl tb153 (ev1 rfl) rfl rfl) ?_
      refine zag rfl rfl (zac (.inl rfl) (ev1 rfl)) ?_
      refine zag rfl rfl (op_lkdy (j := s.1.idxOf (plN w d.x d.y)) mp153 it3 rfl (ev1 rfl) (ev1 rfl) rfl (fun _ => kI_nd hs.nd) (fun _ => kI_at hin) (ptN_at g3)) ?_
      refine zag rfl rfl (zac (.inl rfl) (ev1 rfl)) ?_
      refine zag rfl rfl (op_fa rfl fo139_2 (ev1 rfl)) ?_
      refine zag rfl rfl (op_ldr rfl tb27 (ev1 rfl) rfl rfl rfl) ?_
      refine zag rfl rfl (op_nc rfl (ev1 rfl) (fun s v h => by cases h; exact ⟨_, rfl⟩)) ?_
      refine zag rfl rfl (op_ixfl rfl ar81 (ev1 rfl) (ev1 rfl) (fun _ => by omega)) ?_
      refine lex_s rfl rfl (op_stfp rfl tb27 (ev1 rfl) (ev1 rfl) rfl (tlM_at g3) rfl rfl rfl (fitT rfl hpl.2.2.2) (setT rfl hpl.2.2.2)) rfl (by simp only [upd, zaa, za]; exact rfl) ?_
      refine lex_nil ?_
      rw [dotS_in ho hin]
      refine kend [0, 1, 2, 3, 4, 5] (res_none rfl) rfl rfl ?_ ⟨?_, ?_, ?_, ?_, ?_, ?_, trivial⟩
      rfl
      exact rfl
      exact arxd_fits hr
      exact ptN_mpd rfl rfl (by rw [List.length_set]) rfl
      exact (by rw [tlM_set]; rfl)
      exact rfl
      exact rfl
    · refine zad ?_
      refine zab rfl rfl rfl (zac (.inl rfl) (ev1 rfl)) ?_
      refine zab rfl rfl rfl (op_nc rfl (ev1 rfl) (fun s v h => by cases h; exact ⟨_, rfl⟩)) ?_
      refine zab rfl rfl rfl (op_fa rfl fo155_3 (ev1 rfl)) ?_
      refine zab rfl rfl rfl (op_ldm rfl tb153 (ev1 rfl) rfl rfl) ?_
      refine zab rfl rfl rfl (zac (.inl rfl) (ev1 rfl)) ?_
      refine zab rfl rfl rfl (op_lkdn mp153 it3 zv109 rfl (ev1 rfl) (ev1 rfl) rfl (fun _ => kI_no rfl hin)) ?_
      refine zab rfl rfl rfl (op_pnil0 rfl pt109 (ev1 rfl)) ?_
      refine zae ?_
      refine dwp_if_t rfl (rfl) ?_
      refine zaf ?_
      obtain ⟨e, hd, _, _, _, hw⟩ := hr.at hpt
      refine zai 1 (by simp only [holes, List.cons_append, List.nil_append]; exact rfl) ?_
      refine zad ?_
      refine zab rfl rfl rfl (zac (.inl rfl) (ev1 rfl)) ?_
      refine zab rfl rfl rfl (op_nc rfl (ev1 rfl) (fun s v h => by cases h; exact ⟨_, rfl⟩)) ?_
      refine zab rfl rfl rfl (op_fa rfl fo155_2 (ev1 rfl)) ?_
      refine zab rfl rfl rfl (op_ldm rfl tb105 (ev1 rfl) rfl rfl) ?_
      refine zab rfl rfl rfl (zac (.inl rfl) (ev1 rfl)) ?_
      refine zab rfl rfl rfl (op_ixx (plN w d.x d.y) rfl sl105 (ev1 rfl) (ev1 rfl) rfl (fun _ => rfl) (fun _ => by rw [hr.len]; exact hpt)) ?_
      refine zab rfl rfl rfl ((op_ldx rfl tb109 (ev1 rfl) rfl (by rw [Nat.mul_one]; exact hd)).wk (hw)) ?_
      refine zab rfl rfl rfl (op_nc rfl (ev1 rfl) (fun s v h => by cases h; exact ⟨_, rfl⟩)) ?_
      refine zab rfl rfl rfl (op_ldwd rfl tb81 (ev1 rfl) (tc_len _)) ?_
      refine zaj rfl rfl rfl (op_alloc 7 rfl zr81 rfl) (by simp only [upd, zaa, za]; exact rfl) ?_
      refine walk_s rfl rfl (op_stwa rfl tb81 (ev1 rfl) (ev1 rfl) rfl (tc_len _) (tc_oc _) ((tc_len _).trans (tc_len _).symm)) (by simp only [upd, zaa, za]; exact rfl) ?_
      refine zae ?_
      refine dwp_absl 6 3 rfl rfl rfl (by simp only [zaa, za]; exact rfl) ?_
      refine zad ?_
      refine zab rfl rfl rfl (zac (.inl rfl) (ev1 rfl)) ?_
      refine zab rfl rfl rfl (op_nc rfl (ev1 rfl) (fun s v h => by cases h; exact ⟨_, rfl⟩)) ?_
      refine zab rfl rfl rfl (op_fa rfl fo155_3 (ev1 rfl)) ?_
      refine zab rfl rfl rfl (op_ldm rfl tb153 (ev1 rfl) rfl rfl) ?_
      refine zab rfl rfl rfl (zac (.inl rfl) (ev1 rfl)) ?_
      refine walk_s rfl rfl (op_mud mp153 it3 rfl (ev1 rfl) (ev1 rfl) (ev1 rfl) rfl (fun _ => kI_no rfl hin)) (by simp only [upd, zaa, za]; exact rfl) ?_
      refine zae ?_
      refine dwp_draw [([], []), ([], []), ([], []), ([0], []), ([], []), ([2], []), ([], []), ([], []), ([6], []), ([], []), ([], []), ([3], [3])] mixed (by kernel_rfl) ?_
      refine zag rfl rfl (zac (.inl rfl) (ev1 rfl)) ?_
      refine zag rfl rfl (op_nc rfl (ev1 rfl) (fun s v h => by cases h; exact ⟨_, rfl⟩)) ?_
      refine zag rfl rfl (op_fa rfl fo155_3 (ev1 rfl)) ?_
      refine zag rfl rfl (op_ldm rfl tb153 (ev1 rfl) rfl rfl) ?_
      refine zag rfl rfl (zac (.inl rfl) (ev1 rfl)) ?_
      refine zag rfl rfl (op_lkdy (j := s.2.length) mp153 it3 rfl (ev1 rfl) (ev1 rfl) rfl (fun _ => by rw [kI_app]; exact kI_nd (hs.step hc d |>.nd |> fun h => by rw [dotS_new ho hin] at h; exact h)) (fun _ => by rw [kI_app, List.getElem?_map, List.getElem?_append_right (by omega), hlen, Nat.sub_self]; rfl) (by rw [tlM_len, ptN_add]; exact ptN_at (by omega))) ?_
      refine zag rfl rfl (zac (.inl rfl) (ev1 rfl)) ?_
      refine zag rfl rfl (op_fa rfl fo139_2 (ev1 rfl)) ?_
      refine zag rfl rfl (op_ldr rfl tb27 (ev1 rfl) rfl rfl rfl) ?_
      refine zag rfl rfl (op_nc rfl (ev1 rfl) (fun s v h => by cases h; exact ⟨_, rfl⟩)) ?_
      refine zag rfl rfl (op_ixfl rfl ar81 (ev1 rfl) (ev1 rfl) (fun _ => by omega)) ?_
      refine lex_s rfl rfl (op_stfp rfl tb27 (ev1 rfl) (ev1 rfl) rfl (by rw [tlM_app]; exact tlM_at (by simp)) rfl rfl rfl (fitT rfl hpl.2.2.2) (setT rfl hpl.2.2.2)) rfl (by simp only [upd, zaa, za]; exact rfl) ?_
      refine lex_nil ?_
      rw [dotS_new ho hin]
      refine kend [0, 1, 2, 3, 4, 5] (res_none rfl) rfl rfl ?_ ⟨?_, ?_, ?_, ?_, ?_, ?_, trivial⟩
      rfl
      exact rfl
      exact arxd_fits hr
      exact ptN_mpd (by rw [kI_app]) (by rw [tlM_len, ptN_add, List.length_append]; rfl) rfl rfl
      exact (by rw [tlM_new]; rfl)
      exact rfl
      exact rfl
end Go.Proofs.Ytfnhckildfbikaa
namespace Go.Proofs.Ytfnhckildfbikaa
set_option maxRecDepth 4000
set_option linter.unusedVariables false
set_option linter.unusedSimpArgs false
open Go.RowKit
theorem fl155 : fdL Try.prog 155 = some [(0, 2), (2, 1), (3, 1), (4, 1)] := by kernel_rfl
theorem sl136 : slE Try.prog 136 = some (139, 6, 24) := by kernel_rfl
theorem tb139 : tyB Try.prog 139 = some (true, 6) := by kernel_rfl
theorem zr139 : zrC Try.prog 139 = some [.int .i64 0, .int .i64 0, .int .u8 0, .int .u8 0, .int .u8 0, .int .u8 0] := by kernel_rfl
theorem zr155 : zrC Try.prog 155 = some [.int .i64 0, .int .i64 0, .nilFunc, .slice none 0 0, .map none] := by kernel_rfl
theorem rowS_fits {f g n : Nat} {ts es : List TL} {ds : List D} {ks seen : List Nat} {σ : List Nat} {V : Nat → Bool} {M : List Blk} {T : TypeId} {l l' : List D} (hn : D.nlL ds = true) (hl : l = rowS f ts es ds ks seen) (hl' : l' = rowS g ts es ds ks seen) (hp : pos σ f = some g) : (vwL σ V M l).map (Blk.arx T 1 n) = some (Blk.arx T 1 n l') := by
  subst hl hl'
  have h : ∀ r : List Nat, (∀ q ∈ r, q < ds.length) → vwL σ V M (r.map fun q => if q ∈ ks ∧ ks.idxOf q ∈ seen ∧ es[ks.idxOf q]? ≠ ts[q]? then D.floc f (ks.idxOf q) 0 else ds.getD q .junk) = some (r.map fun q => if q ∈ ks ∧ ks.idxOf q ∈ seen ∧ es[ks.idxOf q]? ≠ ts[q]? then D.floc g (ks.idxOf q) 0 else ds.getD q .junk) := fun r hr => by
    induction r with
    | nil => rfl
    | cons a r ih =>
      rw [List.map_cons, vwL, ih fun q hq => hr q (by simp [hq])]
      have : vw σ V M (if a ∈ ks ∧ ks.idxOf a ∈ seen ∧ es[ks.idxOf a]? ≠ ts[a]? then D.floc f (ks.idxOf a) 0 else ds.getD a .junk) = some (if a ∈ ks ∧ ks.idxOf a ∈ seen ∧ es[ks.idxOf a]? ≠ ts[a]? then D.floc g (ks.idxOf a) 0 else ds.getD a .junk) := by
        split
        · unfold vw; rw [hp]
        · exact vw_nl σ V M _ (nlL_mem hn (dsD (hr a (by simp))))
      rw [this]; rfl
  have := h (List.range ds.length) fun q hq => by simpa using hq
  unfold rowS
  rw [this]; rfl
theorem tc_whole (t : TL) : ((tc t).drop 0).take 256 = tc t := by rw [List.drop_zero, List.take_of_length_le (by rw [tc_len]; exact Nat.le_refl _)]
theorem getq {l : List TL} {p : Nat} (h : p < l.length) : l[p]? = some (l.getD p zT) := by rw [List.getElem?_eq_getElem h, tl_at h]
theorem all_in : ∀ {n : Nat} {seen : List Nat} (h : seen.Nodup) (hl : ∀ p ∈ seen, p < n), seen.length ≤ n
  | 0, seen, h, hl => by
    cases seen with
    | nil => exact Nat.le_refl _
    | cons a l => exact absurd (hl a (by simp)) (Nat.not_lt_zero _)
  | n + 1, seen, h, hl => by
    have h1 := all_in (n := n) (seen := seen.erase n) (h.erase n) fun p hp => by
      have h2 := hl p (List.mem_of_mem_erase hp)
      have h3 : p ≠ n := fun e => by subst e; exact absurd hp (List.Nodup.not_mem_erase h)
      omega
    rw [List.length_erase] at h1
    split at h1 <;> omega
def FromCv (I : Nat → Prop) (w h : Int) (ds : List D) (ts us : List TL) (d : D) : Prop := ∃ ps, RowP I ds ps ts us ∧ d = cvD w h ps
set_option maxRecDepth 4000 in
set_option maxHeartbeats 1000000 in
theorem done_i (w h : Int) (ds : List D) (ts us : List TL) (hr : RowOk ds ts) (hc : CvOk w h ts) (s : List Nat × List TL) (hs : DotOk ts us s) : DFunI Try.prog 94 [.loc 0 0] [.mix 155 [.val (.int .i64 w), .val (.int .i64 h), .fn (.func 96) [] [.loc 4 0, .loc 5 0], .arr 1, .hnd 2], .arx 109 1 ds.length ds, .mpd (kI s.1) (ptN 3 s.2.length), .fam (tlM s.2), .flat 3 [.int .i64 (w * 8)], .flat 3 [.int .i64 (h * 8)]] (fun I => FromCv I w h ds ts us) [.gone, .gone, .gone, .gone, .gone, .gone] := by
  have hlen := hs.len
  have hdl := hr.len
  refine dcallsI_go (N := 45) 6 (by kernel_rfl) Try.func94 rfl rfl rfl (by simp only [fr0, Nat.zero_add, Nat.reduceAdd]; exact rfl) rfl fun s0 hs0 => ?_
  refine zaf ?_
  refine zad ?_
  refine zab rfl rfl rfl (zac (.inr rfl) (ev1 rfl)) ?_
  refine zae ?_
  refine zaf ?_
  refine zaf ?_
  refine zai 1 (by simp only [holes, List.cons_append, List.nil_append]; exact rfl) ?_
  refine zad ?_
  refine zab rfl rfl rfl (zac (.inl rfl) (ev1 rfl)) ?_
  refine zab rfl rfl rfl (op_nc rfl (ev1 rfl) (fun s v h => by cases h; exact ⟨_, rfl⟩)) ?_
  refine zab rfl rfl rfl (op_fa rfl fo155_3 (ev1 rfl)) ?_
  refine zab rfl rfl rfl (op_ldm rfl tb153 (ev1 rfl) rfl rfl) ?_
  refine zaj rfl rfl rfl (op_rgd 6 rfl mp153 (ev1 rfl) rfl rfl) (by simp only [upd, zaa, za]; exact rfl) ?_
  refine zae ?_
  refine zal ?_
  refine dwp_loopS ⟨hs0, rfl⟩ (α := List Nat) (fun sn => []) [(0, _), (9, _)] (fun sn => [(1, .arx 109 1 ds.length (rowS 3 ts s.2 ds s.1 sn)), (6, .mit (.hnd 2) (kI s.1).length sn)]) [_, .hole, _, _, _, _, .hole] (fun sn => sn.Nodup ∧ ∀ p ∈ sn, p < s.1.length) (fun sn => s.1.length - sn.length) [] [0, 1, 2, 3, 4, 5, 6] (⟨List.nodup_nil, fun p hp => by simp at hp⟩) rfl ⟨rfl, rfl, trivial⟩ trivial ⟨rfl, arxn_fits hr.nl rfl (rowS_nil ..).symm, ptN_mpd rfl rfl rfl rfl, rfl, rfl, rfl, rfl, trivial⟩ ?_
  intro sn hx
  simp only [upd, zaa, za, List.cons_append, List.nil_append]
  obtain ⟨hnd, hlt⟩ := hx
  refine zaf ?_
  refine zad ?_
  refine walk_e rfl rfl rfl (op_nxd rfl (ev1 rfl) rfl rfl) ?_
  rintro d wr (⟨rfl, rfl, hall⟩ | ⟨p, kp, ep, hkp, hep, hnp, rfl, rfl⟩)
  · simp only [upd]
    refine zab rfl rfl rfl (op_ext rfl (ev1 rfl) rfl) ?_
    refine zae ?_
    refine zaf ?_
    refine dwp_if_f rfl (rfl) ?_
    refine dwp_exit ?_
    refine zaf ?_
    refine dwp_frz 3 1 rfl rfl (tlM_flat) fun ad had => ?_
    simp only [zaa, za]
    have hP := rowS_frz (f := 3) (I := s0.I) (seen := sn) hr hs (fun p hp => hall p (by simpa using hp)) (fun k hk => had k (by simpa using hk))
    have hPk := hP.ok hr hs.ul
    refine dwp_givem 0 3 (hPk.nl) rfl rfl rfl (by simp only [zaa, za]; exact rfl) ?_
    refine dwp_draw [([], []), ([], []), ([], []), ([0], []), ([], []), ([], []), ([], []), ([0], []), ([], []), ([], []), ([], [])] mixed (by kernel_rfl) ?_
    refine zag rfl rfl (zac (.inl rfl) (ev1 rfl)) ?_
    refine zag rfl rfl (op_nc rfl (ev1 rfl) (fun s v h => by cases h; exact ⟨_, rfl⟩)) ?_
    refine zag rfl rfl (op_fa rfl fo155_0 (ev1 rfl)) ?_
    refine zag rfl rfl (op_ldmv (R := [_, _]) rfl tb104 (ev1 rfl) rfl rfl rfl) ?_
    refine zag rfl rfl (zac (.inl rfl) (ev1 rfl)) ?_
    refine zag rfl rfl (op_nc rfl (ev1 rfl) (fun s v h => by cases h; exact ⟨_, rfl⟩)) ?_
    refine zag rfl rfl (op_fa rfl fo155_2 (ev1 rfl)) ?_
    refine zag rfl rfl (op_ldm rfl tb105 (ev1 rfl) rfl rfl) ?_
    refine zag rfl rfl (op_bldD (ps := [(0, .tmp 38), (1, .tmp 42)]) rfl fl107 zr107 (ec (ev1 rfl) (ec (ev1 rfl) en)) rfl rfl rfl) ?_
    refine zag rfl rfl (op_boxf rfl rfl (ev1 rfl)) ?_
    refine zag rfl rfl (zac (.inr rfl) (ev1 rfl)) ?_
    refine lex_nil ?_
    refine dwp_gone 0 (by simp only [zaa, za]; exact rfl) ?_
    refine dwp_gone 2 (by simp only [zaa, za]; exact rfl) ?_
    refine dwp_gone 4 (by simp only [zaa, za]; exact rfl) ?_
    refine dwp_gone 5 (by simp only [zaa, za]; exact rfl) ?_
    refine zao ?_
    refine kendI (post := fun I => FromCv I w h ds ts us) (I := s0.I) (Mo := [.gone, .gone, .gone, .gone, .gone, .gone]) [0, 1, 2, 3, 4, 5] (rs1 rfl (rv_t rfl)) rfl rfl ?_ ⟨rfl, rfl, rfl, rfl, rfl, rfl, trivial⟩
    exact ⟨_, hP, by rw [cvD, hP.len]; rfl⟩
  · simp only [upd, zaa, za]
    have hp1 : p < s.1.length := by have := (List.getElem?_eq_some_iff.1 hkp).1; simpa using this
    obtain ⟨q, hq⟩ : ∃ q, s.1[p]? = some q := ⟨_, List.getElem?_eq_getElem hp1⟩
    obtain rfl : kp = (q : Int) := by rw [List.getElem?_map, hq] at hkp; exact (Option.some.inj hkp).symm
    obtain rfl : ep = .floc 3 p 0 := by rw [ptN_at (by omega)] at hep; exact (Option.some.inj hep).symm
    have hqt := hs.lt q (List.mem_of_getElem? hq)
    obtain ⟨e, hd, _, _, _, hw⟩ := hr.at hqt
    have hes := tlM_at (es := s.2) (k := p) (by omega)
    refine zab rfl rfl rfl (op_ext rfl (ev1 rfl) rfl) ?_
    refine zae ?_
    refine zaf ?_
    refine dwp_if_t rfl (rfl) ?_
    refine zak ?_
    refine zal ?_
    refine zaf ?_
    refine zad ?_
    refine zab rfl rfl rfl (op_ent rfl (ev1 rfl) rfl rfl (hkp) (hep)) ?_
    refine zab rfl rfl rfl (op_ext rfl (ev1 rfl) rfl) ?_
    refine zab rfl rfl rfl (op_ext rfl (ev1 rfl) rfl) ?_
    refine zab rfl rfl rfl (zac (.inr rfl) (ev1 rfl)) ?_
    refine zab rfl rfl rfl (zac (.inr rfl) (ev1 rfl)) ?_
    refine zae ?_
    refine zaf ?_
    refine dwp_draw [([], []), ([], []), ([3], []), ([], []), ([], []), ([], []), ([0], []), ([], []), ([1], []), ([1], []), ([], []), ([], []), ([], [])] mixed (by kernel_rfl) ?_
    refine zag rfl rfl (zac (.inl rfl) (ev1 rfl)) ?_
    refine zag rfl rfl (op_nc rfl (ev1 rfl) (fun s v h => by cases h; exact ⟨_, rfl⟩)) ?_
    refine zag rfl rfl (op_ldfp rfl tb81 (ev1 rfl) rfl (hes) (tc_whole _) (tc_len _)) ?_
    refine zag rfl rfl (zac (.inl rfl) (ev1 rfl)) ?_
    refine zag rfl rfl (op_nc rfl (ev1 rfl) (fun s v h => by cases h; exact ⟨_, rfl⟩)) ?_
    refine zag rfl rfl (op_fa rfl fo155_2 (ev1 rfl)) ?_
    refine zag rfl rfl (op_ldm rfl tb105 (ev1 rfl) rfl rfl) ?_
    refine zag rfl rfl (zac (.inl rfl) (ev1 rfl)) ?_
    refine zag rfl rfl (op_ixx (q) rfl sl105 (ev1 rfl) (ev1 rfl) rfl (fun _ => rfl) (fun _ => by omega)) ?_
    refine zag rfl rfl ((op_ldx rfl tb109 (ev1 rfl) rfl (by rw [Nat.mul_one, rowS_at hs.nd hq hnp (by omega)]; exact hd)).wk (hw)) ?_
    refine zag rfl rfl (op_nc rfl (ev1 rfl) (fun s v h => by cases h; exact ⟨_, rfl⟩)) ?_
    refine zag rfl rfl (op_ldwd rfl tb81 (ev1 rfl) (tc_len _)) ?_
    refine zag rfl rfl (op_ner eq81 rfl gd81 tb81 (ev1 rfl) (ev1 rfl)) ?_
    refine lex_nil ?_
    have hle2 := all_in (n := s.1.length) (seen := sn ++ [p]) (by rw [List.nodup_append]; exact ⟨hnd, by simp, fun a ha b hb => by simp at hb; subst hb; exact fun e => hnp (e ▸ ha)⟩) (fun r hr => (List.mem_append.1 hr).elim (hlt r) fun h => by simp at h; subst h; exact hp1)
    rw [List.length_append] at hle2
    have hI : (sn ++ [p]).Nodup ∧ ∀ r ∈ sn ++ [p], r < s.1.length := ⟨by rw [List.nodup_append]; exact ⟨hnd, by simp, fun a ha b hb => by simp at hb; subst hb; exact fun e => hnp (e ▸ ha)⟩, fun r hr => (List.mem_append.1 hr).elim (hlt r) fun h => by simp at h; subst h; exact hp1⟩
    refine dwp_cond rfl (fun c2 => ?_) (fun c2 => ?_)
    · have hne : s.2[p]? ≠ ts[q]? := by rw [getq (by omega), getq hqt]; exact fun e => (show ¬ s.2.getD p zT = ts.getD q zT by simpa using c2) (Option.some.inj e)
      refine zad ?_
      refine zab rfl rfl rfl (zac (.inl rfl) (ev1 rfl)) ?_
      refine zab rfl rfl rfl (op_nc rfl (ev1 rfl) (fun s v h => by cases h; exact ⟨_, rfl⟩)) ?_
      refine zab rfl rfl rfl (op_fa rfl fo155_2 (ev1 rfl)) ?_
      refine zab rfl rfl rfl (op_ldm rfl tb105 (ev1 rfl) rfl rfl) ?_
      refine zab rfl rfl rfl (zac (.inl rfl) (ev1 rfl)) ?_
      refine zab rfl rfl rfl (zac (.inl rfl) (ev1 rfl)) ?_
      refine zab rfl rfl rfl (op_ixx (q) rfl sl105 (ev1 rfl) (ev1 rfl) rfl (fun _ => rfl) (fun _ => by omega)) ?_
      refine walk_s rfl rfl (op_stx0 (j := q) rfl tb109 (ev1 rfl) (ev1 rfl) rfl (by rw [rowS_len]; omega) (fun s v h => by cases h <;> exact ⟨rfl, rfl⟩)) (by simp only [upd, zaa, za]; exact rfl) ?_
      refine zae ?_
      refine ⟨sn ++ [p], [0, 1, 2, 3, 4, 5, 6], hI, by simp only [List.length_append, List.length_cons, List.length_nil] at hle2 ⊢; omega, rfl, ⟨rfl, rfl, trivial⟩, ⟨rfl, rowS_fits hr.nl (by rw [rowS_step hs.nd hq hnp (by omega), if_pos hne]) rfl rfl, ptN_mpd rfl rfl rfl rfl, rfl, rfl, rfl, rfl, trivial⟩⟩
    · have hne : ¬ s.2[p]? ≠ ts[q]? := by rw [getq (by omega), getq hqt]; simpa using c2
      refine zak ?_
      refine ⟨sn ++ [p], [0, 1, 2, 3, 4, 5, 6], hI, by simp only [List.length_append, List.length_cons, List.length_nil] at hle2 ⊢; omega, rfl, ⟨rfl, rfl, trivial⟩, ⟨rfl, rowS_fits hr.nl rfl (by rw [rowS_step hs.nd hq hnp (by omega), if_neg hne]) rfl, ptN_mpd rfl rfl rfl rfl, rfl, rfl, rfl, rfl, trivial⟩⟩
theorem sb_ptNm {τ : List Nat} {ks : List Int} {f g n : Nat} (hp : τ[f]? = some g) : sbB τ (.mpd ks (ptN f n)) = some (.mpd ks (ptN g n)) := by
  have h : ∀ r : List Nat, sbL τ (r.map fun k => D.floc f k 0) = some (r.map fun k => D.floc g k 0) := fun r => by
    induction r with
    | nil => rfl
    | cons a r ih =>
      rw [List.map_cons, sbL, ih]
      have : sb τ (.floc f a 0) = some (.floc g a 0) := by unfold sb; rw [hp]; rfl
      rw [this]; rfl
  show (sbL τ _).map _ = _
  rw [h]; rfl
theorem FromCv.nl {I : Nat → Prop} {w h : Int} {ds : List D} {ts us : List TL} {d : D} (hr : RowOk ds ts) (hl : us.length = ts.length) (hf : FromCv I w h ds ts us d) : d.nl = true := by
  obtain ⟨ps, hp, rfl⟩ := hf
  rfl
set_option maxRecDepth 4000 in
set_option maxHeartbeats 1000000 in
theorem clonePt_d (ds : List D) (ts : List TL) (hr : RowOk ds ts) (h1 : 1 ≤ ts.length) (hn : ts.length ≤ 5000) : DFun Try.prog 92 [.slm 1 ds.length ds] [] (.arr 0) [.arx 109 1 ds.length ds] := by
  have hdl := hr.len
  refine zan (N := 8) 0 (by kernel_rfl) Try.func92 rfl rfl rfl (by simp only [fr0, Nat.zero_add, Nat.reduceAdd]; exact rfl) rfl fun s0 hs0 => ?_
  refine dwp_lenm (t := 0) rfl fun hl0 hL0 => ?_
  refine zaf ?_
  refine zad ?_
  refine zab rfl rfl rfl (zac (.inr rfl) (ev1 rfl)) ?_
  refine zae ?_
  refine zaf ?_
  refine zaf ?_
  refine zad ?_
  refine zab rfl rfl rfl (zac (.inl rfl) (ev1 rfl)) ?_
  refine walk_nilm? rfl rfl rfl rfl sl105 (ev1 rfl) fun nb4 hnb4 => ?_
  refine zae ?_
  refine dwp_cond rfl (fun c1 => ?_) (fun c1 => ?_)
  · exact absurd (hnb4 c1).1 (by omega)
  · try simp only [decide_eq_true_eq, decide_eq_false_iff_not, beq_iff_eq, bne_iff_ne, beq_eq_false_iff_ne, bne_eq_false_iff_eq, Bool.not_eq_true', Bool.not_eq_false', Bool.and_eq_true, Bool.or_eq_true, Bool.or_eq_false_iff, ne_eq, Decidable.not_not, Int.not_lt, Int.not_le] at c1
    refine zak ?_
    refine zaf ?_
    refine zai 2 (by simp only [holes, List.cons_append, List.nil_append]; exact rfl) ?_
    refine zad ?_
    refine zaj rfl rfl rfl (op_bsx (ps := []) 0 (fun s d v hd hr => by simp at hd) rfl sl105 zr109 rfl en (by decide) rfl) (by simp only [upd, zaa, za]; exact rfl) ?_
    refine zab rfl rfl rfl (zac (.inl rfl) (ev1 rfl)) ?_
    refine zaj rfl rfl rfl (op_appr (j := 1) rfl sl105 zr109 rfl (ev1 rfl) (ev1 rfl) rfl rfl (hr.oc) (fun _ => ⟨by omega, by omega⟩)) (by simp only [upd, zaa, za]; exact rfl) ?_
    refine zab rfl rfl rfl (zac (.inr rfl) (ev1 rfl)) ?_
    refine zae ?_
    refine zao ?_
    refine kend [1] (rs1 rfl (rv_t rfl)) rfl rfl ?_ ⟨?_, trivial⟩
    rfl
    exact arxn_fits hr.nl (Nat.zero_add _) rfl
set_option maxRecDepth 4000 in
set_option maxHeartbeats 1000000 in
theorem with_i (w h : Int) (ds : List D) (ts : List TL) (hr : RowOk ds ts) (hc : CvOk w h ts) (l : List Dt) : DFunI Try.prog 73 [cvD w h ds, .slf 6 l.length (l.flatMap dtC)] [] (fun I => FromCv I w h ds ts (putsC w h ts l)) [] := by
  have hle := hc.le
  have hdl := hr.len
  refine dcallsI_go (N := 42) 0 (by kernel_rfl) Try.func73 rfl rfl rfl (by simp only [fr0, Nat.zero_add, Nat.reduceAdd]; exact rfl) rfl fun s0 hs0 => ?_
  refine dwp_len (t := 1) rfl fun hl1 hL1 => ?_
  refine zaf ?_
  refine zad ?_
  refine zab rfl rfl rfl (zac (.inr rfl) (ev1 rfl)) ?_
  refine zae ?_
  refine zaf ?_
  refine zaf ?_
  refine zad ?_
  refine zab rfl rfl rfl (zac (.inl rfl) (ev1 rfl)) ?_
  refine zab rfl rfl rfl (op_pnilm rfl pt29 (ev1 rfl)) ?_
  refine zae ?_
  refine dwp_if_f rfl (rfl) ?_
  refine zak ?_
  refine zaf ?_
  refine zai 5 (by simp only [holes, List.cons_append, List.nil_append]; exact rfl) ?_
  refine dwp_draw [([], []), ([], []), ([], []), ([], []), ([], []), ([], []), ([], []), ([], []), ([0, 1], [0, 1]), ([], []), ([], []), ([], []), ([], []), ([2], [2]), ([3], [3]), ([3], []), ([4], [4]), ([], [])] mixed (by kernel_rfl) ?_
  refine zag rfl rfl (zac (.inl rfl) (ev1 rfl)) ?_
  refine zag rfl rfl (op_nc rfl (ev1 rfl) (fun s v h => by cases h; exact ⟨_, rfl⟩)) ?_
  refine zag rfl rfl (op_fadm rfl fo107_0 (ev1 rfl)) ?_
  refine zag rfl rfl (op_lddv [_, _] rfl tb104 (ev1 rfl) rfl rfl) ?_
  refine zag rfl rfl (zac (.inl rfl) (ev1 rfl)) ?_
  refine zag rfl rfl (op_nc rfl (ev1 rfl) (fun s v h => by cases h; exact ⟨_, rfl⟩)) ?_
  refine zag rfl rfl (op_fadm rfl fo107_0 (ev1 rfl)) ?_
  refine zag rfl rfl (op_lddv [_, _] rfl tb104 (ev1 rfl) rfl rfl) ?_
  refine lex_w rfl rfl (zah [] [] [0, 1] rfl (ev1 rfl) (ec (ev1 rfl) en) rfl rfl (sasks_d w h hc.may) rfl rfl rfl rfl rfl rfl) rfl (by simp only [upd, zaa, za]; exact rfl) ?_
  refine zag rfl rfl (zac (.inl rfl) (ev1 rfl)) ?_
  refine zag rfl rfl (op_nc rfl (ev1 rfl) (fun s v h => by cases h; exact ⟨_, rfl⟩)) ?_
  refine zag rfl rfl (op_fadm rfl fo107_1 (ev1 rfl)) ?_
  refine zag rfl rfl (op_lddm rfl tb105 (ev1 rfl) rfl) ?_
  refine lex_w rfl rfl (zah [] [] [2] rfl (ev1 rfl) (ec (ev1 rfl) en) rfl rfl (clonePt_d ds ts hr hle.2 (by omega)) rfl rfl rfl (by exact (wrc (sb_arxn hr.nl) rfl)) rfl rfl) rfl (by simp only [upd, zaa, za]; exact rfl) ?_
  refine lex_w rfl rfl (op_mkd 3 rfl rfl) rfl (by simp only [upd, zaa, za]; exact rfl) ?_
  refine zag rfl rfl (op_bldDh (ps := [(0, .tmp 14), (1, .tmp 19), (2, .tmp 24), (3, .tmp 25)]) 3 rfl fl155 zr155 (ec (ev1 rfl) (ec (ev1 rfl) (ec (ev1 rfl) (ec (ev1 rfl) en)))) rfl rfl rfl rfl) ?_
  refine lex_w rfl rfl (op_boxam 4 rfl (ev1 rfl) rfl) rfl (by simp only [upd, zaa, za]; exact rfl) ?_
  refine zag rfl rfl (zac (.inr rfl) (ev1 rfl)) ?_
  refine lex_nil ?_
  refine zaf ?_
  refine zad ?_
  refine zab rfl rfl rfl (zac (.inl rfl) (ev1 rfl)) ?_
  refine zab rfl rfl rfl (op_mkf rfl (ec (ev1 rfl) en) en) ?_
  refine zab rfl rfl rfl (zac (.inr rfl) (ev1 rfl)) ?_
  refine zae ?_
  refine zaf ?_
  refine zaf ?_
  refine dwp_hole ?_
  refine dwp_fam 5 rfl (by simp only [List.cons_append, List.nil_append, zaa, za]; exact rfl) ?_
  refine zad ?_
  refine zab rfl rfl rfl (zac (.inl rfl) (ev1 rfl)) ?_
  refine zab rfl rfl rfl (op_len rfl sl136 (ev1 rfl)) ?_
  refine zab rfl rfl rfl (zac (.inl rfl) (ev1 rfl)) ?_
  refine zae ?_
  refine zal ?_
  refine dwp_loopS ⟨hs0, rfl⟩ (α := Nat) (fun k => [(32, .val (.int .i64 (k : Int)))]) [(5, _), (6, _), (30, _), (31, _)] (fun k => [(3, .mpd (kI (dotsS w h ts (l.take k)).1) (ptN 5 (dotsS w h ts (l.take k)).2.length)), (5, .fam (tlM (dotsS w h ts (l.take k)).2))]) [_, _, _, .hole, _, .hole] (fun k => k ≤ l.length) (fun k => l.length - k) 0 [0, 1, 2, 3, 4, 5] (Nat.zero_le _) rfl ⟨rfl, rfl, rfl, rfl, trivial⟩ ⟨rfl, trivial⟩ ⟨rfl, rfl, arxd_fits hr, rfl, rfl, rfl, trivial⟩ ?_
  intro k hx
  simp only [upd, zaa, za, List.cons_append, List.nil_append]
  have hk := hx
  have hs := dotsS_ok hc (l.take k) ts _ (dotOk_nil ts)
  refine zaf ?_
  refine zad ?_
  refine zab rfl rfl rfl (op_lss rfl (ev1 rfl) (ev1 rfl)) ?_
  refine zae ?_
  refine zaf ?_
  refine dwp_cond rfl (fun c2 => ?_) (fun c2 => ?_)
  · try simp only [decide_eq_true_eq, decide_eq_false_iff_not, beq_iff_eq, bne_iff_ne, beq_eq_false_iff_ne, bne_eq_false_iff_eq, Bool.not_eq_true', Bool.not_eq_false', Bool.and_eq_true, Bool.or_eq_true, Bool.or_eq_false_iff, ne_eq, Decidable.not_not, Int.not_lt, Int.not_le] at c2
    refine zak ?_
    refine zaf ?_
    refine zal ?_
    refine zaf ?_
    refine zai 1 (by simp only [holes, List.cons_append, List.nil_append]; exact rfl) ?_
    refine zad ?_
    refine zab rfl rfl rfl (op_ixsr (j := k) rfl sl136 (ev1 rfl) (ev1 rfl) (fun _ => rfl) (by decide) (by omega) (by omega)) ?_
    refine zab rfl rfl rfl (op_ldwd rfl tb139 (ev1 rfl) rfl) ?_
    refine zaj rfl rfl rfl (op_alloc 6 rfl zr139 rfl) (by simp only [upd, zaa, za]; exact rfl) ?_
    refine walk_s rfl rfl (op_stwa rfl tb139 (ev1 rfl) (ev1 rfl) rfl rfl rfl rfl) (by simp only [upd, zaa, za]; exact rfl) ?_
    refine zae ?_
    refine zad ?_
    refine zab rfl rfl rfl (zac (.inl rfl) (ev1 rfl)) ?_
    refine zab rfl rfl rfl (op_ldw rfl tb139 (ev1 rfl) rfl rfl) ?_
    refine zaj rfl rfl rfl (zah [4, 2, 3, 5, 0, 1] [] [] rfl (ev1 rfl) (ec (ev1 rfl) en) rfl (by exact mfits _ _ ⟨rfl, arxd_fits hr, ptN_mpd rfl rfl rfl rfl, rfl, rfl, rfl, trivial⟩) (dot_d w h ds ts _ hr hc (dotsS w h ts (l.take k)) hs l[k]) rfl rfl rfl (by exact (wrc rfl (wrc (sb_arxn hr.nl) (wrc (sb_ptNm rfl) (wrc rfl (wrc rfl (wrc rfl rfl))))))) rfl rfl) (by simp only [upd, zaa, za]; exact rfl) ?_
    refine zae ?_
    refine zad ?_
    refine zab rfl rfl rfl (op_add' rfl (ev1 rfl) (ev1 rfl) (fun _ => IntWalk.i64_in _ (by omega))) ?_
    refine zab rfl rfl rfl (zac (.inl rfl) (ev1 rfl)) ?_
    refine zae ?_
    refine ⟨k + 1, [0, 1, 2, 3, 4, 5], by omega, by simp only []; omega, rfl, ⟨rfl, rfl, rfl, rfl, rfl, trivial⟩, ⟨rfl, rfl, arxd_fits hr, ptN_mpd (by rw [dotsS_take (by omega)]) rfl (by rw [dotsS_take (by omega)]) rfl, rfl, by rw [dotsS_take (by omega)]; rfl, trivial⟩⟩
  · try simp only [decide_eq_true_eq, decide_eq_false_iff_not, beq_iff_eq, bne_iff_ne, beq_eq_false_iff_ne, bne_eq_false_iff_eq, Bool.not_eq_true', Bool.not_eq_false', Bool.and_eq_true, Bool.or_eq_true, Bool.or_eq_false_iff, ne_eq, Decidable.not_not, Int.not_lt, Int.not_le] at c2
    refine dwp_exit ?_
    refine zaf ?_
    rw [List.take_of_length_le (by omega)] at *
    refine zad ?_
    refine zab rfl rfl rfl (zac (.inl rfl) (ev1 rfl)) ?_
    refine walk_i rfl rfl rfl (dop_callI [4, 2, 3, 5, 0, 1] [] rfl (ev1 rfl) (ec (ev1 rfl) en) rfl (by exact mfits _ _ ⟨rfl, arxd_fits hr, ptN_mpd rfl rfl rfl rfl, rfl, rfl, rfl, trivial⟩) (done_i w h ds ts _ hr hc _ (dotsS_ok hc l ts _ (dotOk_nil ts))) rfl rfl rfl rfl (fun I d hf => hf.nl hr (putsC_len ..))) (by simp only [upd, zaa, za]; exact rfl) ?_
    rintro I _ hI hP ⟨ps, h1, rfl⟩
    refine zab rfl rfl rfl (zac (.inr rfl) (ev1 rfl)) ?_
    refine zae ?_
    refine zao ?_
    refine kendI (post := fun I => FromCv I w h ds ts (putsC w h ts l)) (I := s0.I) (Mo := []) [] (rs1 rfl (rv_t rfl)) rfl rfl ?_ trivial
    exact ⟨ps, ⟨h1.len, h1.eq, fun q t h2 h3 => let ⟨b, h4, h5⟩ := h1.ne q t h2 h3; ⟨b, fun h6 => h4 (hI b h6), h5⟩⟩, rfl⟩
end Go.Proofs.Ytfnhckildfbikaa
namespace Go.Proofs.Ytfnhckildfbikaa
set_option maxRecDepth 4000
set_option linter.unusedVariables false
set_option linter.unusedSimpArgs false
open Go.RowKit
theorem fl139 : fdL Try.prog 139 = some [(0, 1), (1, 1), (2, 4)] := by kernel_rfl
theorem with_d (w h : Int) (ds : List D) (ts : List TL) (hr : RowOk ds ts) (hc : CvOk w h ts) (l : List Dt) : DFun Try.prog 73 [cvD w h ds, .slf 6 l.length (l.flatMap dtC)] [] (cvD w h (dpR (putsC w h ts l))) [] :=
  (with_i w h ds ts hr hc l).fun fun I d hf => by
    obtain ⟨ps, h1, rfl⟩ := hf
    exact (h1.ok hr (putsC_len ..)).wkd w h
set_option maxRecDepth 4000 in
set_option maxHeartbeats 1000000 in
theorem set1_d (p : P2) (c : C4) : DFun Try.prog 75 [.val (.agg (p2 p).toArray), .dpf (c4 c)] [] (.val (.agg (dtC ⟨p.x, p.y, c⟩).toArray)) [] := by
  refine zan (N := 10) 0 (by kernel_rfl) Try.func75 rfl rfl rfl (by simp only [fr0, Nat.zero_add, Nat.reduceAdd]; exact rfl) rfl fun s0 hs0 => ?_
  refine zaf ?_
  refine zai 2 (by simp only [holes, List.cons_append, List.nil_append]; exact rfl) ?_
  refine zad ?_
  refine zaj rfl rfl rfl (op_boxa 0 rfl (ev1 rfl) rfl) (by simp only [upd, zaa, za]; exact rfl) ?_
  refine zaj rfl rfl rfl (op_alloc 1 rfl zr139 rfl) (by simp only [upd, zaa, za]; exact rfl) ?_
  refine zae ?_
  refine zaf ?_
  refine zad ?_
  refine zab rfl rfl rfl (op_fa rfl fo34_0 (ev1 rfl)) ?_
  refine zab rfl rfl rfl (zam rfl tb3 (ev1 rfl) rfl rfl) ?_
  refine zab rfl rfl rfl (op_fa rfl fo34_1 (ev1 rfl)) ?_
  refine zab rfl rfl rfl (zam rfl tb3 (ev1 rfl) rfl rfl) ?_
  refine zab rfl rfl rfl (op_ldwd rfl tb27 (ev1 rfl) rfl) ?_
  refine zab rfl rfl rfl (op_build (ps := [(0, .tmp 5), (1, .tmp 7), (2, .tmp 8)]) rfl fl139 zr139 (vc (ev1 rfl) (vc (ev1 rfl) (vc (ev1 rfl) vn))) rfl rfl) ?_
  refine walk_s rfl rfl (op_stwa rfl tb139 (ev1 rfl) (ev1 rfl) rfl rfl rfl rfl) (by simp only [upd, zaa, za]; exact rfl) ?_
  refine zae ?_
  refine zao ?_
  refine kend0 (rs1 rfl (rv_w tb139 rfl rfl rfl)) rfl ?_
  rfl
def dtsC (c : C4) (l : List P2) : List Dt := l.map fun p => ⟨p.x, p.y, c⟩
theorem dtsC_len (c : C4) (l : List P2) : (dtsC c l).length = l.length := by simp [dtsC]
theorem dtsC_add {c : C4} {l : List P2} {k : Nat} (h : k < l.length) : dtsC c (l.take (k + 1)) = dtsC c (l.take k) ++ [⟨l[k].x, l[k].y, c⟩] := by rw [List.take_succ_eq_append_getElem h, dtsC, dtsC, List.map_append]; rfl
set_option maxRecDepth 4000 in
set_option maxHeartbeats 1000000 in
theorem each3_d (l : List P2) (c : C4) (hn : l.length ≤ 5000) : DFun Try.prog 74 [.slf 2 l.length (l.flatMap p2), .fn (.func 75) [] [.dpf (c4 c)]] [] (.slf 6 (dtsC c l).length ((dtsC c l).flatMap dtC)) [] := by
  refine zan (N := 25) 0 (by kernel_rfl) Try.func74 rfl rfl rfl (by simp only [fr0, Nat.zero_add, Nat.reduceAdd]; exact rfl) rfl fun s0 hs0 => ?_
  refine dwp_len (t := 0) rfl fun hl0 hL0 => ?_
  refine zaf ?_
  refine zad ?_
  refine zab rfl rfl rfl (zac (.inr rfl) (ev1 rfl)) ?_
  refine zae ?_
  refine zaf ?_
  refine zai 1 (by simp only [holes, List.cons_append, List.nil_append]; exact rfl) ?_
  refine zad ?_
  refine zab rfl rfl rfl (zac (.inl rfl) (ev1 rfl)) ?_
  refine zab rfl rfl rfl (op_len rfl sl64 (ev1 rfl)) ?_
  refine zaj rfl rfl rfl (op_mk0 0 (l.length) rfl sl136 zr139 (ev1 rfl) (ev1 rfl) (fun _ => rfl) (fun _ => by omega) rfl (fun _ => ⟨by omega, by omega⟩)) (by simp only [upd, zaa, za]; exact rfl) ?_
  refine zab rfl rfl rfl (zac (.inr rfl) (ev1 rfl)) ?_
  refine zae ?_
  refine zaf ?_
  refine zaf ?_
  refine zad ?_
  refine zab rfl rfl rfl (zac (.inl rfl) (ev1 rfl)) ?_
  refine zab rfl rfl rfl (op_len rfl sl64 (ev1 rfl)) ?_
  refine zab rfl rfl rfl (zac (.inl rfl) (ev1 rfl)) ?_
  refine zae ?_
  refine zal ?_
  refine dwp_loopS ⟨hs0, rfl⟩ (α := Nat) (fun k => [(13, .val (.int .i64 (k : Int)))]) [(1, _), (5, _), (11, _), (12, _)] (fun k => [(0, .arr 139 6 (dtsC c (l.take k)).length ((dtsC c (l.take k)).flatMap dtC))]) [.hole] (fun k => k ≤ l.length) (fun k => l.length - k) 0 [0] (Nat.zero_le _) rfl ⟨rfl, rfl, rfl, rfl, trivial⟩ ⟨rfl, trivial⟩ ⟨rfl, trivial⟩ ?_
  intro k hx
  simp only [upd, zaa, za, List.cons_append, List.nil_append]
  have hk := hx
  have htl : (dtsC c (l.take k)).length = k := by rw [dtsC_len, List.length_take]; omega
  refine zaf ?_
  refine zad ?_
  refine zab rfl rfl rfl (op_lss rfl (ev1 rfl) (ev1 rfl)) ?_
  refine zae ?_
  refine zaf ?_
  refine dwp_cond rfl (fun c1 => ?_) (fun c1 => ?_)
  · try simp only [decide_eq_true_eq, decide_eq_false_iff_not, beq_iff_eq, bne_iff_ne, beq_eq_false_iff_ne, bne_eq_false_iff_eq, Bool.not_eq_true', Bool.not_eq_false', Bool.and_eq_true, Bool.or_eq_true, Bool.or_eq_false_iff, ne_eq, Decidable.not_not, Int.not_lt, Int.not_le] at c1
    refine zak ?_
    refine zaf ?_
    refine zal ?_
    refine zaf ?_
    refine zai 1 (by simp only [holes, List.cons_append, List.nil_append]; exact rfl) ?_
    refine zad ?_
    refine zab rfl rfl rfl (op_ixsr (j := k) rfl sl64 (ev1 rfl) (ev1 rfl) (fun _ => rfl) (by decide) (by omega) (by omega)) ?_
    refine zab rfl rfl rfl (op_ldwd rfl tb34 (ev1 rfl) rfl) ?_
    refine zaj rfl rfl rfl (op_alloc 1 rfl zr34 rfl) (by simp only [upd, zaa, za]; exact rfl) ?_
    refine walk_s rfl rfl (op_stwa rfl tb34 (ev1 rfl) (ev1 rfl) rfl rfl rfl rfl) (by simp only [upd, zaa, za]; exact rfl) ?_
    refine zae ?_
    refine zai 2 (by simp only [holes, List.cons_append, List.nil_append]; exact rfl) ?_
    refine zad ?_
    refine zab rfl rfl rfl (zac (.inl rfl) (ev1 rfl)) ?_
    refine zab rfl rfl rfl (zac (.inl rfl) (ev1 rfl)) ?_
    refine zab rfl rfl rfl (op_ldw rfl tb34 (ev1 rfl) rfl rfl) ?_
    refine zab rfl rfl rfl (zah [] [] [] rfl (ev1 rfl) (ec (ev1 rfl) en) rfl rfl (set1_d l[k] c) rfl rfl rfl rfl rfl rfl) ?_
    refine zaj rfl rfl rfl (op_bsa (ps := [(0, .tmp 20)]) 2 rfl sl136 zr139 rfl (vc (ev1 rfl) vn) rfl (by decide) (by decide) rfl) (by simp only [upd, zaa, za]; exact rfl) ?_
    refine zaj rfl rfl rfl (op_app (j := 3) rfl sl136 zr139 rfl (ev1 rfl) (ev1 rfl) (src_arr rfl) rfl rfl (fun _ => rfl) (fun _ => ⟨by omega, by omega⟩)) (by simp only [upd, zaa, za]; exact rfl) ?_
    refine zab rfl rfl rfl (zac (.inr rfl) (ev1 rfl)) ?_
    refine zae ?_
    refine zad ?_
    refine zab rfl rfl rfl (op_add' rfl (ev1 rfl) (ev1 rfl) (fun _ => IntWalk.i64_in _ (by omega))) ?_
    refine zab rfl rfl rfl (zac (.inl rfl) (ev1 rfl)) ?_
    refine zae ?_
    refine ⟨k + 1, [3], by omega, by simp only []; omega, rfl, ⟨rfl, rfl, rfl, rfl, rfl, trivial⟩, ⟨arr_eq (by rw [dtsC_add (by omega), List.length_append]; rfl) (by rw [dtsC_add (by omega), List.flatMap_append]; rfl), trivial⟩⟩
  · try simp only [decide_eq_true_eq, decide_eq_false_iff_not, beq_iff_eq, bne_iff_ne, beq_eq_false_iff_ne, bne_eq_false_iff_eq, Bool.not_eq_true', Bool.not_eq_false', Bool.and_eq_true, Bool.or_eq_true, Bool.or_eq_false_iff, ne_eq, Decidable.not_not, Int.not_lt, Int.not_le] at c1
    refine dwp_exit ?_
    refine zaf ?_
    refine dwp_giveA 5 rfl rfl (by simp only [zaa, za]; exact rfl) ?_
    refine zad ?_
    refine zab rfl rfl rfl (zac (.inl rfl) (ev1 rfl)) ?_
    refine zab rfl rfl rfl (zac (.inr rfl) (ev1 rfl)) ?_
    refine zae ?_
    refine zao ?_
    rw [List.take_of_length_le (by omega)]
    refine kend0 (rs1 rfl (rv_t rfl)) rfl ?_
    rfl
set_option maxRecDepth 4000 in
set_option maxHeartbeats 1000000 in
theorem set_d (w h : Int) (ds : List D) (ts : List TL) (hr : RowOk ds ts) (hc : CvOk w h ts) (c : C4) (l : List P2) (hn : l.length ≤ 5000) : DFun Try.prog 39 [cvD w h ds, .val (.agg (c4 c).toArray), .slf 2 l.length (l.flatMap p2)] [] (cvD w h (dpR (putsC w h ts (dtsC c l)))) [] := by
  refine zan (N := 12) 0 (by kernel_rfl) Try.func39 rfl rfl rfl (by simp only [fr0, Nat.zero_add, Nat.reduceAdd]; exact rfl) rfl fun s0 hs0 => ?_
  refine dwp_len (t := 2) rfl fun hl2 hL2 => ?_
  refine zaf ?_
  refine zai 1 (by simp only [holes, List.cons_append, List.nil_append]; exact rfl) ?_
  refine zad ?_
  refine zaj rfl rfl rfl (op_boxa 0 rfl (ev1 rfl) rfl) (by simp only [upd, zaa, za]; exact rfl) ?_
  refine zab rfl rfl rfl (zac (.inr rfl) (ev1 rfl)) ?_
  refine zae ?_
  refine zaf ?_
  refine dwp_view ⟨hs0, rfl⟩ [] [0] [(0, _), (2, _), (4, _)] [] rfl ⟨rfl, rfl, rfl, trivial⟩ trivial ?_
  refine zad ?_
  refine zab rfl rfl rfl (zac (.inl rfl) (ev1 rfl)) ?_
  refine zab rfl rfl rfl (zac (.inl rfl) (ev1 rfl)) ?_
  refine zab rfl rfl rfl (op_mkf rfl en (ec (ev1 rfl) en)) ?_
  refine zab rfl rfl rfl (zah [] [] [] rfl (ev1 rfl) (ec (ev1 rfl) (ec (ev1 rfl) en)) rfl rfl (each3_d l c hn) rfl rfl rfl rfl rfl rfl) ?_
  refine zab rfl rfl rfl (zah [] [] [] rfl (ev1 rfl) (ec (ev1 rfl) (ec (ev1 rfl) en)) rfl rfl (with_d w h ds ts hr hc (dtsC c l)) rfl rfl rfl rfl rfl rfl) ?_
  refine zab rfl rfl rfl (zac (.inr rfl) (ev1 rfl)) ?_
  refine zae ?_
  refine zao ?_
  refine kend0 (rs1 rfl (rv_t rfl)) rfl ?_
  rfl
def D.adr : D → Nat
  | .pin b _ => b
  | _ => 0
def Pins (l : List D) : Prop := ∀ d ∈ l, ∃ b L, d = .pin b L
theorem Pins.at {l : List D} (h : Pins l) {k : Nat} (hk : k < l.length) : ∃ L, l[k] = .pin l[k].adr L := by
  obtain ⟨b, L, e⟩ := h l[k] (List.getElem_mem hk)
  rw [e]
  exact ⟨L, rfl⟩
end Go.Proofs.Ytfnhckildfbikaa
namespace Go.Proofs.Ytfnhckildfbikaa
set_option maxRecDepth 4000
set_option linter.unusedVariables false
set_option linter.unusedSimpArgs false
open Go.RowKit
abbrev rowP (l : List P2) : Mem := .arr 34 2 l.length (l.flatMap p2)
def fmP (l : List P2) : List Mem := List.replicate l.length .gone ++ [rowP l]
theorem fmP_at (l : List P2) : (fmP l)[l.length]? = some (rowP l) := by
  unfold fmP
  rw [List.getElem?_append_right (by simp)]
  simp
theorem fmP_len (l : List P2) : (fmP l).length = (l.length) + 1 := by simp [fmP]
theorem fmP_add (l : List P2) (p : P2) : (fmP l).set l.length .gone ++ [Mem.arr 34 2 (l.length + 1) (l.flatMap p2 ++ p2 p)] = fmP (l ++ [p]) := by
  unfold fmP
  rw [List.set_append_right _ _ (by simp), List.length_append, List.length_replicate, Nat.sub_self, show l.length + [p].length = l.length + 1 from rfl, List.replicate_succ']
  simp [rowP, List.flatMap_append]
end Go.Proofs.Ytfnhckildfbikaa
namespace Go.Proofs.Ytfnhckildfbikaa
set_option maxRecDepth 4000
set_option linter.unusedVariables false
set_option linter.unusedSimpArgs false
open Go.RowKit
theorem ar161 : arE Try.prog 161 = some (4, 1) := by kernel_rfl
theorem fo27_0 : fdO Try.prog 27 0 = some 0 := by kernel_rfl
theorem fo27_1 : fdO Try.prog 27 1 = some 1 := by kernel_rfl
theorem fo27_2 : fdO Try.prog 27 2 = some 2 := by kernel_rfl
theorem fo27_3 : fdO Try.prog 27 3 = some 3 := by kernel_rfl
theorem tb161 : tyB Try.prog 161 = some (true, 4) := by kernel_rfl
theorem tb5 : tyB Try.prog 5 = some (false, 1) := by kernel_rfl
theorem zr161 : zrC Try.prog 161 = some [.int .u8 0, .int .u8 0, .int .u8 0, .int .u8 0] := by kernel_rfl
def C4.rng (c : C4) : Prop := (0 ≤ c.r ∧ c.r ≤ 255) ∧ (0 ≤ c.g ∧ c.g ≤ 255) ∧ (0 ≤ c.b ∧ c.b ≤ 255) ∧ 0 ≤ c.a ∧ c.a ≤ 255
theorem zC4_rng : zC4.rng := by unfold C4.rng zC4; decide
set_option maxRecDepth 4000 in
set_option maxHeartbeats 1000000 in
theorem partsOf_d (u : C4) : DFun Try.prog 99 [.val (.agg #[.int .u8 u.r, .int .u8 u.g, .int .u8 u.b, .int .u8 u.a])] [] (.val (.agg #[.int .u8 u.r, .int .u8 u.g, .int .u8 u.b, .int .u8 u.a])) [] := by
  refine zan (N := 12) 0 (by kernel_rfl) Try.func99 rfl rfl rfl (by simp only [fr0, Nat.zero_add, Nat.reduceAdd]; exact rfl) rfl fun s0 hs0 => ?_
  refine zaf ?_
  refine zai 2 (by simp only [holes, List.cons_append, List.nil_append]; exact rfl) ?_
  refine zad ?_
  refine zaj rfl rfl rfl (op_boxa 0 rfl (ev1 rfl) rfl) (by simp only [upd, zaa, za]; exact rfl) ?_
  refine zaj rfl rfl rfl (op_alloc 1 rfl zr161 rfl) (by simp only [upd, zaa, za]; exact rfl) ?_
  refine zae ?_
  refine zaf ?_
  refine zad ?_
  refine zab rfl rfl rfl (op_fa rfl fo27_0 (ev1 rfl)) ?_
  refine zab rfl rfl rfl (zam rfl tb5 (ev1 rfl) rfl rfl) ?_
  refine zab rfl rfl rfl (op_fa rfl fo27_1 (ev1 rfl)) ?_
  refine zab rfl rfl rfl (zam rfl tb5 (ev1 rfl) rfl rfl) ?_
  refine zab rfl rfl rfl (op_fa rfl fo27_2 (ev1 rfl)) ?_
  refine zab rfl rfl rfl (zam rfl tb5 (ev1 rfl) rfl rfl) ?_
  refine zab rfl rfl rfl (op_fa rfl fo27_3 (ev1 rfl)) ?_
  refine zab rfl rfl rfl (zam rfl tb5 (ev1 rfl) rfl rfl) ?_
  refine zab rfl rfl rfl ((op_bldaD (ps := [(0, .tmp 4), (1, .tmp 6), (2, .tmp 8), (3, .tmp 10)]) rfl ar161 zr161 (ec (ev1 rfl) (ec (ev1 rfl) (ec (ev1 rfl) (ec (ev1 rfl) en)))) rfl rfl rfl rfl).wk (by exact Wk.aggv [.int .u8 u.r, .int .u8 u.g, .int .u8 u.b, .int .u8 u.a] : Wk _ (.val (.agg #[.int .u8 u.r, .int .u8 u.g, .int .u8 u.b, .int .u8 u.a])))) ?_
  refine walk_s rfl rfl (op_stwa rfl tb161 (ev1 rfl) (ev1 rfl) rfl rfl rfl rfl) (by simp only [upd, zaa, za]; exact rfl) ?_
  refine zae ?_
  refine zao ?_
  refine kend0 (rs1 rfl (rv_w tb161 rfl rfl rfl)) rfl ?_
  rfl
end Go.Proofs.Ytfnhckildfbikaa
namespace Go.Proofs.Ytfnhckildfbikaa
set_option maxRecDepth 4000
set_option linter.unusedVariables false
set_option linter.unusedSimpArgs false
open Go.RowKit
structure Sp where
  y : Int
  f : Int
  t : Int
deriving DecidableEq
def s3 (s : Sp) : List Value := [.int .i64 s.y, .int .i64 s.f, .int .i64 s.t]
def zSp : Sp := ⟨0, 0, 0⟩
def Sp.has (s : Sp) (x y : Int) : Prop := s.y = y ∧ s.f ≤ x ∧ x ≤ s.t
instance (s : Sp) (x y : Int) : Decidable (s.has x y) := by unfold Sp.has; infer_instance
def hasS (l : List Sp) (x y : Int) : Prop := ∃ s ∈ l, s.has x y
instance (l : List Sp) (x y : Int) : Decidable (hasS l x y) := by unfold hasS; infer_instance
def apS (a s : Sp) : Prop := a.y < s.y ∨ a.y = s.y ∧ a.t + 1 < s.f
instance (a s : Sp) : Decidable (apS a s) := by unfold apS; infer_instance
def okS (l : List Sp) : Prop := (∀ s ∈ l, s.f ≤ s.t) ∧ l.Pairwise apS
theorem okS_nil : okS [] := ⟨fun s h => (List.not_mem_nil h).elim, List.Pairwise.nil⟩
theorem hasS_cons {a : Sp} {l : List Sp} {x y : Int} : hasS (a :: l) x y ↔ a.has x y ∨ hasS l x y := by
  unfold hasS
  constructor
  · rintro ⟨s, h, g⟩
    rcases List.mem_cons.1 h with rfl | h
    · exact .inl g
    · exact .inr ⟨s, h, g⟩
  · rintro (h | ⟨s, h, g⟩)
    · exact ⟨a, List.mem_cons_self .., h⟩
    · exact ⟨s, List.mem_cons_of_mem _ h, g⟩
theorem hasS_nil {x y : Int} : ¬ hasS [] x y := fun ⟨_, h, _⟩ => by cases h
theorem hasS_app {l m : List Sp} {x y : Int} : hasS (l ++ m) x y ↔ hasS l x y ∨ hasS m x y := by
  unfold hasS
  constructor
  · rintro ⟨s, h, g⟩
    rcases List.mem_append.1 h with h | h
    · exact .inl ⟨s, h, g⟩
    · exact .inr ⟨s, h, g⟩
  · rintro (⟨s, h, g⟩ | ⟨s, h, g⟩)
    · exact ⟨s, List.mem_append.2 (.inl h), g⟩
    · exact ⟨s, List.mem_append.2 (.inr h), g⟩
theorem hasS_perm {l m : List Sp} (h : l.Perm m) {x y : Int} : hasS l x y ↔ hasS m x y :=
  ⟨fun ⟨s, g, k⟩ => ⟨s, h.mem_iff.1 g, k⟩, fun ⟨s, g, k⟩ => ⟨s, h.mem_iff.2 g, k⟩⟩
theorem okS_tail {a : Sp} {l : List Sp} (h : okS (a :: l)) : okS l := ⟨fun s hs => h.1 s (List.mem_cons_of_mem _ hs), (List.pairwise_cons.1 h.2).2⟩
theorem okS_head {a : Sp} {l : List Sp} (h : okS (a :: l)) {x y : Int} (g : hasS (a :: l) x y) : a.y < y ∨ a.y = y ∧ a.f ≤ x := by
  rcases hasS_cons.1 g with ⟨h1, h2, h3⟩ | ⟨s, hs, h1, h2, h3⟩
  · exact .inr ⟨h1, h2⟩
  · have := (List.pairwise_cons.1 h.2).1 s hs
    have hv := h.1 a (List.mem_cons_self ..)
    unfold apS at this
    omega
theorem okS_apart {a : Sp} {l : List Sp} (h : okS (a :: l)) {x y : Int} (g : hasS l x y) : ¬ a.has x y ∧ ¬ (y = a.y ∧ x = a.t + 1) := by
  obtain ⟨s, hs, h1, h2, h3⟩ := g
  have := (List.pairwise_cons.1 h.2).1 s hs
  unfold apS at this
  unfold Sp.has
  omega
theorem okS_uniq : ∀ {l m : List Sp}, okS l → okS m → (∀ x y, hasS l x y ↔ hasS m x y) → l = m
  | [], [], _, _, _ => rfl
  | [], b :: m, _, hm, h => absurd ((h b.f b.y).2 (hasS_cons.2 (.inl ⟨rfl, Int.le_refl _, hm.1 b (List.mem_cons_self ..)⟩))) hasS_nil
  | a :: l, [], hl, _, h => absurd ((h a.f a.y).1 (hasS_cons.2 (.inl ⟨rfl, Int.le_refl _, hl.1 a (List.mem_cons_self ..)⟩))) hasS_nil
  | a :: l, b :: m, hl, hm, h => by
    have va := hl.1 a (List.mem_cons_self ..)
    have vb := hm.1 b (List.mem_cons_self ..)
    have h1 := okS_head hm ((h a.f a.y).1 (hasS_cons.2 (.inl ⟨rfl, Int.le_refl _, va⟩)))
    have h2 := okS_head hl ((h b.f b.y).2 (hasS_cons.2 (.inl ⟨rfl, Int.le_refl _, vb⟩)))
    have hy : a.y = b.y := by omega
    have hf : a.f = b.f := by omega
    have ht : a.t = b.t := by
      rcases Int.lt_trichotomy a.t b.t with e | e | e
      · have := (h (a.t + 1) a.y).2 (hasS_cons.2 (.inl ⟨hy.symm, by omega, by omega⟩))
        rcases hasS_cons.1 this with ⟨_, _, g⟩ | g
        · omega
        · exact absurd ⟨rfl, rfl⟩ (okS_apart hl g).2
      · exact e
      · have := (h (b.t + 1) b.y).1 (hasS_cons.2 (.inl ⟨hy, by omega, by omega⟩))
        rcases hasS_cons.1 this with ⟨_, _, g⟩ | g
        · omega
        · exact absurd ⟨rfl, rfl⟩ (okS_apart hm g).2
    obtain ⟨y1, f1, t1⟩ := a
    obtain ⟨y2, f2, t2⟩ := b
    simp only at hy hf ht
    subst hy hf ht
    congr 1
    refine okS_uniq (okS_tail hl) (okS_tail hm) fun x y => ⟨fun g => ?_, fun g => ?_⟩
    · exact (hasS_cons.1 ((h x y).1 (hasS_cons.2 (.inr g)))).resolve_left (okS_apart hl g).1
    · exact (hasS_cons.1 ((h x y).2 (hasS_cons.2 (.inr g)))).resolve_left (okS_apart hm g).1
def mergeS (out : List Sp) (s : Sp) : List Sp := match out.getLast? with
  | none => [s]
  | some a => if apS a s then out ++ [s] else out.dropLast ++ [⟨a.y, a.f, max a.t s.t⟩]
theorem mergeS_nil (s : Sp) : mergeS [] s = [s] := rfl
theorem mergeS_app (l : List Sp) (a s : Sp) : mergeS (l ++ [a]) s = if apS a s then l ++ [a] ++ [s] else l ++ [⟨a.y, a.f, max a.t s.t⟩] := by
  unfold mergeS
  rw [List.getLast?_concat, List.dropLast_concat]
def leS (a b : Sp) : Prop := a.y < b.y ∨ a.y = b.y ∧ a.f ≤ b.f
instance (a b : Sp) : Decidable (leS a b) := by unfold leS; infer_instance
theorem list_last {α : Type} (l : List α) : l = [] ∨ ∃ m a, l = m ++ [a] := by
  rcases List.eq_nil_or_concat l with h | ⟨m, a, h⟩
  · exact .inl h
  · exact .inr ⟨m, a, by simpa using h⟩
theorem mergeS_ok {out : List Sp} {s : Sp} (ho : okS out) (hs : s.f ≤ s.t) (hl : ∀ a ∈ out, leS a s) : okS (mergeS out s) ∧ (∀ x y, hasS (mergeS out s) x y ↔ hasS out x y ∨ s.has x y) ∧ ∀ b ∈ mergeS out s, leS b s := by
  rcases list_last out with rfl | ⟨l, a, rfl⟩
  · rw [mergeS_nil]
    refine ⟨⟨fun b hb => ?_, List.pairwise_singleton ..⟩, fun x y => ?_, fun b hb => ?_⟩
    · obtain rfl := List.mem_singleton.1 hb; exact hs
    · rw [hasS_cons]; constructor
      · rintro (h | h)
        · exact .inr h
        · exact absurd h hasS_nil
      · rintro (h | h)
        · exact absurd h hasS_nil
        · exact .inl h
    · obtain rfl := List.mem_singleton.1 hb; exact .inr ⟨rfl, Int.le_refl _⟩
  · rw [mergeS_app]
    obtain ⟨hv, hp⟩ := ho
    obtain ⟨p1, p2, p3⟩ := List.pairwise_append.1 hp
    have hla := hl a (by simp)
    have hva := hv a (by simp)
    by_cases e : apS a s
    · rw [if_pos e]
      refine ⟨⟨fun b hb => ?_, ?_⟩, fun x y => ?_, fun b hb => ?_⟩
      · rcases List.mem_append.1 hb with h | h
        · exact hv b h
        · obtain rfl := List.mem_singleton.1 h; exact hs
      · refine List.pairwise_append.2 ⟨hp, List.pairwise_singleton .., fun b hb c hc => ?_⟩
        obtain rfl := List.mem_singleton.1 hc
        rcases List.mem_append.1 hb with h | h
        · have := p3 b h a (by simp)
          unfold apS at *
          omega
        · obtain rfl := List.mem_singleton.1 h; exact e
      · rw [hasS_app, hasS_cons]
        constructor
        · rintro (h | h | h)
          · exact .inl h
          · exact .inr h
          · exact absurd h hasS_nil
        · rintro (h | h)
          · exact .inl h
          · exact .inr (.inl h)
      · rcases List.mem_append.1 hb with h | h
        · exact hl b h
        · obtain rfl := List.mem_singleton.1 h; exact .inr ⟨rfl, Int.le_refl _⟩
    · rw [if_neg e]
      have e1 : a.y = s.y := by unfold leS at hla; unfold apS at e; omega
      have e2 : s.f ≤ a.t + 1 := by unfold apS at e; omega
      have e3 : a.f ≤ s.f := by unfold leS at hla; omega
      refine ⟨⟨fun b hb => ?_, ?_⟩, fun x y => ?_, fun b hb => ?_⟩
      · rcases List.mem_append.1 hb with h | h
        · exact hv b (by simp [h])
        · obtain rfl := List.mem_singleton.1 h; show a.f ≤ max a.t s.t; omega
      · refine List.pairwise_append.2 ⟨p1, List.pairwise_singleton .., fun b hb c hc => ?_⟩
        obtain rfl := List.mem_singleton.1 hc
        exact p3 b hb a (by simp)
      · rw [hasS_app, hasS_app, hasS_cons, hasS_cons]
        have n : ¬ hasS [] x y := hasS_nil
        have k : Sp.has ⟨a.y, a.f, max a.t s.t⟩ x y ↔ a.has x y ∨ s.has x y := by unfold Sp.has; show a.y = y ∧ a.f ≤ x ∧ x ≤ max a.t s.t ↔ _; omega
        rw [k]
        constructor
        · rintro (h | (h | h) | h)
          · exact .inl (.inl h)
          · exact .inl (.inr (.inl h))
          · exact .inr h
          · exact absurd h n
        · rintro ((h | h | h) | h)
          · exact .inl h
          · exact .inr (.inl (.inl h))
          · exact absurd h n
          · exact .inr (.inl (.inr h))
      · rcases List.mem_append.1 hb with h | h
        · exact hl b (by simp [h])
        · obtain rfl := List.mem_singleton.1 h; exact .inr ⟨e1, e3⟩
theorem leS_trans {a b c : Sp} (h : leS a b) (k : leS b c) : leS a c := by unfold leS at *; omega
theorem merges_ok : ∀ (m out : List Sp), okS out → (∀ s ∈ m, s.f ≤ s.t) → m.Pairwise leS → (∀ a ∈ out, ∀ s ∈ m, leS a s) → okS (m.foldl mergeS out) ∧ ∀ x y, hasS (m.foldl mergeS out) x y ↔ hasS out x y ∨ hasS m x y
  | [], out, ho, _, _, _ => ⟨ho, fun x y => ⟨.inl, fun h => h.elim id fun h => absurd h hasS_nil⟩⟩
  | s :: m, out, ho, hv, hp, hl => by
    obtain ⟨h1, h2⟩ := List.pairwise_cons.1 hp
    obtain ⟨k1, k2, k3⟩ := mergeS_ok (s := s) ho (hv s (List.mem_cons_self ..)) fun a ha => hl a ha s (List.mem_cons_self ..)
    obtain ⟨g1, g2⟩ := merges_ok m (mergeS out s) k1 (fun b hb => hv b (List.mem_cons_of_mem _ hb)) h2 fun a ha b hb => leS_trans (k3 a ha) (h1 b hb)
    refine ⟨g1, fun x y => ?_⟩
    rw [List.foldl_cons, g2, k2, hasS_cons]
    constructor
    · rintro ((h | h) | h)
      · exact .inl h
      · exact .inr (.inl h)
      · exact .inr (.inr h)
    · rintro (h | h | h)
      · exact .inl (.inl h)
      · exact .inl (.inr h)
      · exact .inr h
def normS (l : List Sp) : List Sp := (l.mergeSort fun a b => decide (leS a b)).foldl mergeS []
theorem sort_leS (l : List Sp) : (l.mergeSort fun a b => decide (leS a b)).Pairwise leS := by
  have h := List.pairwise_mergeSort (le := fun a b => decide (leS a b)) (fun a b c h k => by
    simp only [decide_eq_true_eq] at *
    exact leS_trans h k) (fun a b => by
    simp only [Bool.or_eq_true, decide_eq_true_eq]
    unfold leS
    omega) l
  exact h.imp fun h => of_decide_eq_true h
theorem norm_ok {l : List Sp} (hv : ∀ s ∈ l, s.f ≤ s.t) : okS (normS l) ∧ ∀ x y, hasS (normS l) x y ↔ hasS l x y := by
  have hp := List.mergeSort_perm l fun a b => decide (leS a b)
  have h := merges_ok (l.mergeSort fun a b => decide (leS a b)) [] okS_nil (fun s h => hv s (hp.mem_iff.1 h)) (sort_leS l) (fun a h => by cases h)
  refine ⟨h.1, fun x y => ?_⟩
  show hasS (List.foldl mergeS [] _) x y ↔ _
  rw [h.2]
  exact ⟨fun g => g.elim (fun g => absurd g hasS_nil) fun g => (hasS_perm hp).1 g, fun g => .inr ((hasS_perm hp).2 g)⟩
theorem norm_uniq {l m : List Sp} (hv : ∀ s ∈ l, s.f ≤ s.t) (hm : okS m) (h : ∀ x y, hasS m x y ↔ hasS l x y) : m = normS l :=
  okS_uniq hm (norm_ok hv).1 fun x y => (h x y).trans ((norm_ok hv).2 x y).symm
theorem norm_of_sorted {l m : List Sp} (hv : ∀ s ∈ l, s.f ≤ s.t) (hp : m.Perm l) (hs : m.Pairwise leS) : m.foldl mergeS [] = normS l := by
  have h := merges_ok m [] okS_nil (fun s h => hv s (hp.mem_iff.1 h)) hs (fun a h => by cases h)
  refine norm_uniq hv h.1 fun x y => ?_
  rw [h.2]
  exact ⟨fun g => g.elim (fun g => absurd g hasS_nil) fun g => (hasS_perm hp).1 g, fun g => .inr ((hasS_perm hp).2 g)⟩
theorem mergeS_len (out : List Sp) (s : Sp) : out.length ≤ (mergeS out s).length ∧ (mergeS out s).length ≤ out.length + 1 ∧ 0 < (mergeS out s).length := by
  rcases list_last out with rfl | ⟨l, a, rfl⟩
  · simp [mergeS_nil]
  · rw [mergeS_app]; split <;> simp
theorem merges_len : ∀ (m out : List Sp), (m.foldl mergeS out).length ≤ out.length + m.length
  | [], out => by simp
  | s :: m, out => by have := merges_len m (mergeS out s); have := mergeS_len out s; simp only [List.foldl_cons, List.length_cons]; omega
end Go.Proofs.Ytfnhckildfbikaa
namespace Go.Proofs.Ytfnhckildfbikaa
set_option maxRecDepth 4000
set_option linter.unusedVariables false
set_option linter.unusedSimpArgs false
open Go.RowKit
def rchS (s : Sp) : Prop := (-256 ≤ s.y ∧ s.y ≤ 255) ∧ (-256 ≤ s.f ∧ s.f ≤ 255) ∧ -256 ≤ s.t ∧ s.t ≤ 255
instance (s : Sp) : Decidable (rchS s) := by unfold rchS; infer_instance
def chkS (l : List Sp) : Prop := (∀ s ∈ l, rchS s ∧ s.f ≤ s.t) ∧ l.Pairwise apS
instance (l : List Sp) : Decidable (chkS l) := by unfold chkS; infer_instance
theorem chkS.ok {l : List Sp} (h : chkS l) : okS l := ⟨fun s hs => (h.1 s hs).2, h.2⟩
theorem chkS_nil : chkS [] := ⟨fun s h => (List.not_mem_nil h).elim, List.Pairwise.nil⟩
theorem chkS_add {l : List Sp} {k : Nat} (hk : k < l.length) (h : chkS (l.take k)) (hv : rchS l[k] ∧ l[k].f ≤ l[k].t) (ha : ∀ (h0 : 0 < k), apS (l[k - 1]'(by omega)) l[k]) : chkS (l.take (k + 1)) := by
  rw [List.take_succ_eq_append_getElem hk]
  refine ⟨fun s hs => ?_, List.pairwise_append.2 ⟨h.2, List.pairwise_singleton .., fun a ha' b hb => ?_⟩⟩
  · rcases List.mem_append.1 hs with g | g
    · exact h.1 s g
    · obtain rfl := List.mem_singleton.1 g; exact hv
  · obtain rfl := List.mem_singleton.1 hb
    obtain ⟨i, hi, rfl⟩ := List.getElem_of_mem ha'
    have hi' : i < k := by rw [List.length_take] at hi; omega
    have hv1 := (h.1 _ ha').2
    have h0 := ha (by omega)
    rw [List.getElem_take] at hv1 ⊢
    by_cases e : i = k - 1
    · subst e; exact h0
    · have hkk : k - 1 < (l.take k).length := by rw [List.length_take]; omega
      have p := List.pairwise_iff_getElem.1 h.2 i (k - 1) (by rw [List.length_take]; omega) hkk (by omega)
      rw [List.getElem_take, List.getElem_take] at p
      have hv2 := (h.1 _ (List.getElem_mem hkk)).2
      rw [List.getElem_take] at hv2
      unfold apS at *
      omega
theorem chkS_not1 {l : List Sp} {k : Nat} (hk : k < l.length) (hv : ¬ (rchS l[k] ∧ l[k].f ≤ l[k].t)) : ¬ chkS l := fun h => hv (h.1 _ (List.getElem_mem hk))
theorem chkS_not2 {l : List Sp} {k : Nat} (hk : k < l.length) (h0 : 0 < k) (hv : ¬ apS (l[k - 1]'(by omega)) l[k]) : ¬ chkS l := fun h => hv (List.pairwise_iff_getElem.1 h.2 (k - 1) k (by omega) hk (by omega))
def Sp.wd (s : Sp) : Nat := (s.t - s.f + 1).toNat
def Sp.pts (s : Sp) : List P2 := (List.range s.wd).map fun i : Nat => ⟨s.f + (i : Int), s.y⟩
def ptsS (l : List Sp) : List P2 := l.flatMap Sp.pts
end Go.Proofs.Ytfnhckildfbikaa
namespace Go.Proofs.Ytfnhckildfbikaa
set_option maxRecDepth 4000
set_option linter.unusedVariables false
set_option linter.unusedSimpArgs false
open Go.RowKit
def pt1 (p : P2) : Sp := ⟨p.y, p.x, p.x⟩
theorem hasS_pts {l : List P2} {x y : Int} : hasS (l.map pt1) x y ↔ ⟨x, y⟩ ∈ l := by
  constructor
  · rintro ⟨s, hs, h1, h2, h3⟩
    obtain ⟨p, hp, rfl⟩ := List.mem_map.1 hs
    have e : p = ⟨x, y⟩ := by
      cases p
      simp only [pt1] at h1 h2 h3
      congr 1 <;> omega
    rw [← e]; exact hp
  · intro h
    exact ⟨pt1 ⟨x, y⟩, List.mem_map.2 ⟨_, h, rfl⟩, rfl, Int.le_refl _, Int.le_refl _⟩
theorem pts_valid (l : List P2) : ∀ s ∈ l.map pt1, s.f ≤ s.t := fun s hs => by
  obtain ⟨p, _, rfl⟩ := List.mem_map.1 hs
  exact Int.le_refl _
def beh (p q : P2) : Prop := p.y < q.y ∨ p.y = q.y ∧ p.x < q.x
def runS (l : List P2) : List Sp := (l.map pt1).foldl mergeS []
theorem run_norm {l : List P2} (h : l.Pairwise beh) : runS l = normS (l.map pt1) :=
  norm_of_sorted (pts_valid l) (List.Perm.refl _) (List.pairwise_map.2 (h.imp fun {a b} hab => by
    unfold beh at hab
    unfold leS pt1
    show a.y < b.y ∨ a.y = b.y ∧ a.x ≤ b.x
    omega))
theorem run_ok {l : List P2} (h : l.Pairwise beh) : okS (runS l) ∧ ∀ x y, hasS (runS l) x y ↔ (⟨x, y⟩ : P2) ∈ l := by
  rw [run_norm h]
  have := norm_ok (pts_valid l)
  exact ⟨this.1, fun x y => (this.2 x y).trans hasS_pts⟩
theorem runS_add (l : List P2) (p : P2) : runS (l ++ [p]) = mergeS (runS l) (pt1 p) := by
  unfold runS
  rw [List.map_append, List.foldl_append]
  rfl
def opnS (out : List Sp) (p : P2) : Bool := match out.getLast? with
  | none => false
  | some a => decide (a.y = p.y ∧ a.t + 1 = p.x)
theorem opnS_app (l : List Sp) (a : Sp) (p : P2) : opnS (l ++ [a]) p = decide (a.y = p.y ∧ a.t + 1 = p.x) := by unfold opnS; rw [List.getLast?_concat]
def endS (out : List Sp) (p : P2) : Prop := ∀ a ∈ out, a.y < p.y ∨ a.y = p.y ∧ a.t < p.x
theorem endS_run {l : List P2} {p : P2} (h : l.Pairwise beh) (hp : ∀ q ∈ l, beh q p) : endS (runS l) p := fun a ha => by
  have h1 := (run_ok h).1.1 a ha
  have := (run_ok h).2 a.t a.y |>.1 ⟨a, ha, rfl, h1, Int.le_refl _⟩
  have := hp _ this
  unfold beh at this
  exact this
theorem merge_open {l : List Sp} {a : Sp} {p : P2} (h : a.y = p.y ∧ a.t + 1 = p.x) : mergeS (l ++ [a]) (pt1 p) = l ++ [⟨a.y, a.f, p.x⟩] := by
  rw [mergeS_app, if_neg (by unfold apS pt1; simp only; omega)]
  congr 3
  show max a.t p.x = p.x
  omega
theorem merge_shut {out : List Sp} {p : P2} (he : endS out p) (h : opnS out p = false) : mergeS out (pt1 p) = out ++ [pt1 p] := by
  rcases list_last out with rfl | ⟨l, a, rfl⟩
  · rfl
  · rw [opnS_app] at h
    have h := of_decide_eq_false h
    have := he a (by simp)
    rw [mergeS_app, if_pos (by unfold apS pt1; simp only; omega)]
theorem opn_last {out : List Sp} {p : P2} (h : opnS out p = true) : ∃ l a, out = l ++ [a] ∧ a.y = p.y ∧ a.t + 1 = p.x := by
  rcases list_last out with rfl | ⟨l, a, rfl⟩
  · cases h
  · rw [opnS_app] at h
    exact ⟨l, a, rfl, of_decide_eq_true h⟩
def fieldN (w : Nat) (n : Nat) (X Y : Int) : List P2 := (List.range n).map fun i => ⟨X + ((i % w : Nat) : Int), Y + ((i / w : Nat) : Int)⟩
theorem field_beh {w : Nat} (hw : 0 < w) (n : Nat) (X Y : Int) : (fieldN w n X Y).Pairwise beh := by
  refine List.pairwise_map.2 (List.pairwise_lt_range.imp fun {i j} h => ?_)
  unfold beh
  simp only
  have hi := Nat.div_add_mod i w
  have hj := Nat.div_add_mod j w
  have hm := Nat.mod_lt i hw
  have hq := Nat.mod_lt j hw
  have hd : i / w ≤ j / w := Nat.div_le_div_right (Nat.le_of_lt h)
  rcases Nat.lt_or_eq_of_le hd with e | e
  · left; omega
  · right
    rw [← e] at hj
    generalize w * (i / w) = m at hi hj
    omega
theorem field_mem {w h : Nat} (hw : 0 < w) {X Y : Int} {p : P2} : p ∈ fieldN w (h * w) X Y ↔ (X ≤ p.x ∧ p.x < X + w) ∧ Y ≤ p.y ∧ p.y < Y + h := by
  unfold fieldN
  rw [List.mem_map]
  constructor
  · rintro ⟨i, hi, rfl⟩
    rw [List.mem_range] at hi
    have h1 := Nat.mod_lt i hw
    have h2 : i / w < h := (Nat.div_lt_iff_lt_mul hw).2 hi
    simp only
    generalize i % w = m at h1 ⊢
    generalize i / w = q at h2 ⊢
    omega
  · rintro ⟨⟨h1, h2⟩, h3, h4⟩
    have hx : (p.x - X).toNat < w := by omega
    have hy : (p.y - Y).toNat < h := by omega
    refine ⟨(p.y - Y).toNat * w + (p.x - X).toNat, List.mem_range.2 ?_, ?_⟩
    · have := Nat.mul_le_mul_right w (show (p.y - Y).toNat + 1 ≤ h by omega)
      rw [Nat.add_mul, Nat.one_mul] at this
      omega
    · have e1 : ((p.y - Y).toNat * w + (p.x - X).toNat) % w = (p.x - X).toNat := by rw [Nat.add_comm, Nat.add_mul_mod_self_right, Nat.mod_eq_of_lt hx]
      have e2 : ((p.y - Y).toNat * w + (p.x - X).toNat) / w = (p.y - Y).toNat := by rw [Nat.add_comm, Nat.add_mul_div_right _ _ hw, Nat.div_eq_of_lt hx, Nat.zero_add]
      rw [e1, e2]
      cases p
      simp only at *
      congr 1 <;> omega
theorem field_succ (w n : Nat) (X Y : Int) : fieldN w (n + 1) X Y = fieldN w n X Y ++ [⟨X + ((n % w : Nat) : Int), Y + ((n / w : Nat) : Int)⟩] := by
  unfold fieldN
  rw [List.range_succ, List.map_append]
  rfl
theorem ix_mod {W y x : Nat} (hx : x < W) : (y * W + x) % W = x := by rw [Nat.add_comm, Nat.add_mul_mod_self_right, Nat.mod_eq_of_lt hx]
theorem ix_div {W y x : Nat} (hx : x < W) : (y * W + x) / W = y := by rw [Nat.add_comm, Nat.add_mul_div_right _ _ (Nat.lt_of_le_of_lt (Nat.zero_le _) hx), Nat.div_eq_of_lt hx, Nat.zero_add]
theorem field_at {w y x : Nat} (hx : x < w) (X Y : Int) : fieldN w (y * w + (x + 1)) X Y = fieldN w (y * w + x) X Y ++ [⟨X + x, Y + y⟩] := by rw [← Nat.add_assoc, field_succ, ix_mod hx, ix_div hx]
theorem field_before {w n : Nat} (hw : 0 < w) {X Y : Int} : ∀ q ∈ fieldN w n X Y, beh q ⟨X + ((n % w : Nat) : Int), Y + ((n / w : Nat) : Int)⟩ := fun q hq => by
  have h := field_beh hw (n + 1) X Y
  rw [field_succ] at h
  exact (List.pairwise_append.1 h).2.2 q hq _ (by simp)
end Go.Proofs.Ytfnhckildfbikaa
namespace Go.Proofs.Ytfnhckildfbikaa
set_option maxRecDepth 4000
set_option linter.unusedVariables false
set_option linter.unusedSimpArgs false
open Go.RowKit
theorem fo53_0 : fdO Try.prog 53 0 = some 0 := by kernel_rfl
theorem fo53_1 : fdO Try.prog 53 1 = some 1 := by kernel_rfl
theorem fo53_2 : fdO Try.prog 53 2 = some 2 := by kernel_rfl
def bdS (s : Sp) : Prop := (-2000 ≤ s.y ∧ s.y ≤ 2000) ∧ (-2000 ≤ s.f ∧ s.f ≤ 2000) ∧ -2000 ≤ s.t ∧ s.t ≤ 2000
theorem rch_bd {s : Sp} (h : rchS s) : bdS s := by unfold rchS at h; unfold bdS; omega
def rchB (n : Int) : Bool := decide (-256 ≤ n) && decide (n ≤ 255)
def chkE (l : List Sp) : Int := if chkS l then 0 else 160
theorem chkE_ok {l : List Sp} (h : chkS l) : chkE l = 0 := if_pos h
theorem chkE_no {l : List Sp} (h : ¬ chkS l) : chkE l = 160 := if_neg h
theorem rchS_iff (s : Sp) : (rchS s ∧ s.f ≤ s.t) ↔ (rchB s.y = true ∧ rchB s.f = true ∧ rchB s.t = true ∧ s.f ≤ s.t) := by
  unfold rchS rchB
  simp only [Bool.and_eq_true, decide_eq_true_eq]
  omega
set_option maxRecDepth 4000 in
set_option maxHeartbeats 1000000 in
theorem reached_d (n : Int) : DFun Try.prog 80 [.val (.int .i64 n)] [] (.val (.bool (rchB n))) [] := by
  refine zan (N := 9) 0 (by kernel_rfl) Try.func80 rfl rfl rfl (by simp only [fr0, Nat.zero_add, Nat.reduceAdd]; exact rfl) rfl fun s0 hs0 => ?_
  refine zaf ?_
  refine zad ?_
  refine zab rfl rfl rfl (zac (.inr rfl) (ev1 rfl)) ?_
  refine zae ?_
  refine zaf ?_
  refine zad ?_
  refine zab rfl rfl rfl (zac (.inl rfl) (ev1 rfl)) ?_
  refine zab rfl rfl rfl (op_geq rfl (ev1 rfl) (ev1 rfl)) ?_
  refine zab rfl rfl rfl (zac (.inl rfl) (ev1 rfl)) ?_
  refine walk_gr (gd_t rfl rfl rfl) rfl rfl rfl (zac (.inl rfl) (ev1 rfl)) ?_
  refine walk_gr (gd_t rfl rfl rfl) rfl rfl rfl (op_leq rfl (ev2 rfl) (ev1 rfl)) ?_
  refine zab rfl rfl rfl (op_and rfl (ev1 rfl) (ev3 rfl id)) ?_
  refine zab rfl rfl rfl (zac (.inr rfl) (ev1 rfl)) ?_
  refine zae ?_
  refine zao ?_
  refine kend0 (rs1 rfl (rv_t rfl)) rfl ?_
  rfl
set_option maxRecDepth 4000 in
set_option maxHeartbeats 1000000 in
theorem apart_d (a s : Sp) (ha : bdS a) : DFun Try.prog 81 [.val (.agg #[.int .i64 a.y, .int .i64 a.f, .int .i64 a.t]), .val (.agg #[.int .i64 s.y, .int .i64 s.f, .int .i64 s.t])] [] (.val (.bool (decide (apS a s)))) [] := by
  have hb := ha
  unfold bdS at hb
  refine zan (N := 25) 0 (by kernel_rfl) Try.func81 rfl rfl rfl (by simp only [fr0, Nat.zero_add, Nat.reduceAdd]; exact rfl) rfl fun s0 hs0 => ?_
  refine zaf ?_
  refine zai 2 (by simp only [holes, List.cons_append, List.nil_append]; exact rfl) ?_
  refine zad ?_
  refine zaj rfl rfl rfl (op_boxa 0 rfl (ev1 rfl) rfl) (by simp only [upd, zaa, za]; exact rfl) ?_
  refine zaj rfl rfl rfl (op_boxa 1 rfl (ev1 rfl) rfl) (by simp only [upd, zaa, za]; exact rfl) ?_
  refine zab rfl rfl rfl (zac (.inr rfl) (ev1 rfl)) ?_
  refine zae ?_
  refine zaf ?_
  refine zad ?_
  refine zab rfl rfl rfl (op_fa rfl fo53_0 (ev1 rfl)) ?_
  refine zab rfl rfl rfl (zam rfl tb3 (ev1 rfl) rfl rfl) ?_
  refine zab rfl rfl rfl (op_fa rfl fo53_0 (ev1 rfl)) ?_
  refine zab rfl rfl rfl (zam rfl tb3 (ev1 rfl) rfl rfl) ?_
  refine zab rfl rfl rfl (op_gtr rfl (ev1 rfl) (ev1 rfl)) ?_
  refine zab rfl rfl rfl (zac (.inl rfl) (ev1 rfl)) ?_
  refine walk_gr (gd_f rfl rfl rfl) rfl rfl rfl (op_fa rfl fo53_0 (ev1 rfl)) ?_
  refine walk_gr (gd_f rfl rfl rfl) rfl rfl rfl (zam rfl tb3 (ev2 rfl) rfl rfl) ?_
  refine walk_gr (gd_f rfl rfl rfl) rfl rfl rfl (op_fa rfl fo53_0 (ev1 rfl)) ?_
  refine walk_gr (gd_f rfl rfl rfl) rfl rfl rfl (zam rfl tb3 (ev2 rfl) rfl rfl) ?_
  refine walk_gr (gd_f rfl rfl rfl) rfl rfl rfl (op_eql rfl (ev2 rfl) (ev2 rfl)) ?_
  refine walk_gr (gd_f rfl rfl rfl) rfl rfl rfl (zac (.inl rfl) (ev2 rfl)) ?_
  refine walk_gr (gd_tt rfl rfl rfl) rfl rfl rfl (op_fa rfl fo53_1 (ev1 rfl)) ?_
  refine walk_gr (gd_tt rfl rfl rfl) rfl rfl rfl (zam rfl tb3 (ev2 rfl) rfl rfl) ?_
  refine walk_gr (gd_tt rfl rfl rfl) rfl rfl rfl (op_fa rfl fo53_2 (ev1 rfl)) ?_
  refine walk_gr (gd_tt rfl rfl rfl) rfl rfl rfl (zam rfl tb3 (ev2 rfl) rfl rfl) ?_
  refine walk_gr (gd_tt rfl rfl rfl) rfl rfl rfl (op_add' rfl (ev2 rfl) (ev1 rfl) (fun hp => IntWalk.i64_in _ (by first | omega | (simp at hp; omega)))) ?_
  refine walk_gr (gd_tt rfl rfl rfl) rfl rfl rfl (op_gtr rfl (ev2 rfl) (ev2 rfl)) ?_
  refine walk_gr (gd_f rfl rfl rfl) rfl rfl rfl (op_and rfl (ev2 rfl) (ev2 rfl)) ?_
  refine zab rfl rfl rfl (op_or rfl (ev1 rfl) (ev3 rfl id)) ?_
  refine zab rfl rfl rfl (zac (.inr rfl) (ev1 rfl)) ?_
  refine zae ?_
  refine zao ?_
  refine kend0 (rs1 rfl (rv_t rfl)) rfl ?_
  rw [D.val.injEq, Value.bool.injEq, Bool.eq_iff_iff, decide_eq_true_eq]
  unfold apS
  simp
  omega
end Go.Proofs.Ytfnhckildfbikaa
namespace Go.Proofs.Ytfnhckildfbikaa
set_option maxRecDepth 4000
set_option linter.unusedVariables false
set_option linter.unusedSimpArgs false
open Go.RowKit
theorem sl35 : slE Try.prog 35 = some (53, 3, 24) := by kernel_rfl
theorem tb53 : tyB Try.prog 53 = some (true, 3) := by kernel_rfl
theorem zr53 : zrC Try.prog 53 = some [.int .i64 0, .int .i64 0, .int .i64 0] := by kernel_rfl
def ixZ {α : Type} (q : α → Bool) (l : List α) : Int := if l.any q = true then (l.findIdx q : Nat) else -1
theorem ixZ_no {α : Type} {q : α → Bool} {l : List α} (h : l.any q = false) : ixZ q l = -1 := by unfold ixZ; rw [h]; rfl
theorem ixZ_at {α : Type} {q : α → Bool} {l : List α} {i : Nat} (hi : i < l.length) (h : (l.take i).any q = false) (hq : q l[i] = true) : ixZ q l = i := by
  have h1 : l.any q = true := List.any_eq_true.2 ⟨_, List.getElem_mem hi, hq⟩
  have h2 : l.findIdx q = i := by
    refine (List.findIdx_eq hi).2 ⟨hq, fun j hj => ?_⟩
    have h3 := List.any_eq_false.1 h l[j] (List.mem_take_iff_getElem.2 ⟨j, by omega, rfl⟩)
    simpa using h3
  unfold ixZ
  rw [if_pos h1, h2]
theorem ixZ_nn {α : Type} (q : α → Bool) (l : List α) : decide (0 ≤ ixZ q l) = l.any q := by
  unfold ixZ
  cases h : l.any q with
  | true => simp
  | false => simp
theorem any_add {α : Type} {q : α → Bool} {l : List α} {i : Nat} (hi : i < l.length) (h : (l.take i).any q = false) (hq : q l[i] = false) : (l.take (i + 1)).any q = false := by
  rw [List.take_succ_eq_append_getElem hi, List.any_append, h]
  simp [hq]
theorem take_all {α : Type} {l : List α} {i : Nat} (h : l.length ≤ i) : l.take i = l := List.take_of_length_le h
theorem gD_at {α : Type} {l : List α} {i : Nat} (h : i < l.length) (d : α) : l.getD i d = l[i] := by rw [List.getD_eq_getElem?_getD, List.getElem?_eq_getElem h]; rfl
set_option maxRecDepth 4000 in
set_option maxHeartbeats 1000000 in
theorem check_d (l : List Sp) : DFun Try.prog 54 [.slf 3 l.length (l.flatMap s3)] [] (.val (.int .i64 (chkE l))) [] := by
  refine zan (N := 48) 0 (by kernel_rfl) Try.func54 rfl rfl rfl (by simp only [fr0, Nat.zero_add, Nat.reduceAdd]; exact rfl) rfl fun s0 hs0 => ?_
  refine dwp_len (t := 0) rfl fun hl0 hL0 => ?_
  refine zaf ?_
  refine zad ?_
  refine zab rfl rfl rfl (zac (.inr rfl) (ev1 rfl)) ?_
  refine zae ?_
  refine zaf ?_
  refine zaf ?_
  refine zad ?_
  refine zab rfl rfl rfl (zac (.inl rfl) (ev1 rfl)) ?_
  refine zab rfl rfl rfl (op_len rfl sl35 (ev1 rfl)) ?_
  refine zab rfl rfl rfl (zac (.inl rfl) (ev1 rfl)) ?_
  refine zae ?_
  refine zal ?_
  refine dwp_loopS ⟨hs0, rfl⟩ (α := Nat) (fun i => [(7, .val (.int .i64 (i : Int)))]) [(0, _), (5, _), (6, _)] (fun i => []) [] (fun i => i ≤ l.length ∧ chkS (l.take i)) (fun i => l.length - i) 0 [] (⟨Nat.zero_le _, chkS_nil⟩) rfl ⟨rfl, rfl, rfl, trivial⟩ ⟨rfl, trivial⟩ trivial ?_
  intro i hx
  simp only [upd, zaa, za, List.cons_append, List.nil_append]
  obtain ⟨hi0, hok⟩ := hx
  refine zaf ?_
  refine zad ?_
  refine zab rfl rfl rfl (op_lss rfl (ev1 rfl) (ev1 rfl)) ?_
  refine zae ?_
  refine zaf ?_
  refine dwp_cond rfl (fun c1 => ?_) (fun c1 => ?_)
  · try simp only [decide_eq_true_eq, decide_eq_false_iff_not, beq_iff_eq, bne_iff_ne, beq_eq_false_iff_ne, bne_eq_false_iff_eq, Bool.not_eq_true', Bool.not_eq_false', Bool.and_eq_true, Bool.or_eq_true, Bool.or_eq_false_iff, ne_eq, Decidable.not_not, Int.not_lt, Int.not_le] at c1
    refine zak ?_
    refine zaf ?_
    refine zal ?_
    refine zaf ?_
    have hi : i < l.length := by omega
    refine zai 1 (by simp only [holes, List.cons_append, List.nil_append]; exact rfl) ?_
    refine zad ?_
    refine zab rfl rfl rfl (zac (.inl rfl) (ev1 rfl)) ?_
    refine zab rfl rfl rfl (op_ixsr (j := i) rfl sl35 (ev1 rfl) (ev1 rfl) (fun _ => rfl) (by decide) (by omega) (by omega)) ?_
    refine zab rfl rfl rfl (op_ldwd rfl tb53 (ev1 rfl) rfl) ?_
    refine zaj rfl rfl rfl (op_alloc 0 rfl zr53 rfl) (by simp only [upd, zaa, za]; exact rfl) ?_
    refine zab rfl rfl rfl (zac (.inr rfl) (ev1 rfl)) ?_
    refine walk_s rfl rfl (op_stwa rfl tb53 (ev1 rfl) (ev1 rfl) rfl rfl rfl rfl) (by simp only [upd, zaa, za]; exact rfl) ?_
    refine zae ?_
    refine zaf ?_
    refine zaf ?_
    have hri := rchS_iff l[i]
    refine zad ?_
    refine zab rfl rfl rfl (op_fa rfl fo53_0 (ev1 rfl)) ?_
    refine zab rfl rfl rfl (zam rfl tb3 (ev1 rfl) rfl rfl) ?_
    refine zab rfl rfl rfl (zah [] [] [] rfl (ev1 rfl) (ec (ev1 rfl) en) rfl rfl (reached_d _) rfl rfl rfl rfl rfl rfl) ?_
    refine zab rfl rfl rfl (op_not rfl (ev1 rfl)) ?_
    refine zab rfl rfl rfl (zac (.inl rfl) (ev1 rfl)) ?_
    refine walk_gr (gd_f rfl rfl rfl) rfl rfl rfl (op_fa rfl fo53_1 (ev1 rfl)) ?_
    refine walk_gr (gd_f rfl rfl rfl) rfl rfl rfl (zam rfl tb3 (ev2 rfl) rfl rfl) ?_
    refine walk_gr (gd_f rfl rfl rfl) rfl rfl rfl (zah [] [] [] rfl (ev1 rfl) (ec (ev2 rfl) en) rfl rfl (reached_d _) rfl rfl rfl rfl rfl rfl) ?_
    refine walk_gr (gd_f rfl rfl rfl) rfl rfl rfl (op_not rfl (ev2 rfl)) ?_
    refine zab rfl rfl rfl (op_or rfl (ev1 rfl) (ev3 rfl id)) ?_
    refine zab rfl rfl rfl (zac (.inl rfl) (ev1 rfl)) ?_
    refine walk_gr (gd_f rfl rfl rfl) rfl rfl rfl (op_fa rfl fo53_2 (ev1 rfl)) ?_
    refine walk_gr (gd_f rfl rfl rfl) rfl rfl rfl (zam rfl tb3 (ev2 rfl) rfl rfl) ?_
    refine walk_gr (gd_f rfl rfl rfl) rfl rfl rfl (zah [] [] [] rfl (ev1 rfl) (ec (ev2 rfl) en) rfl rfl (reached_d _) rfl rfl rfl rfl rfl rfl) ?_
    refine walk_gr (gd_f rfl rfl rfl) rfl rfl rfl (op_not rfl (ev2 rfl)) ?_
    refine zab rfl rfl rfl (op_or rfl (ev1 rfl) (ev3 rfl id)) ?_
    refine zab rfl rfl rfl (zac (.inl rfl) (ev1 rfl)) ?_
    refine walk_gr (gd_f rfl rfl rfl) rfl rfl rfl (op_fa rfl fo53_1 (ev1 rfl)) ?_
    refine walk_gr (gd_f rfl rfl rfl) rfl rfl rfl (zam rfl tb3 (ev2 rfl) rfl rfl) ?_
    refine walk_gr (gd_f rfl rfl rfl) rfl rfl rfl (op_fa rfl fo53_2 (ev1 rfl)) ?_
    refine walk_gr (gd_f rfl rfl rfl) rfl rfl rfl (zam rfl tb3 (ev2 rfl) rfl rfl) ?_
    refine walk_gr (gd_f rfl rfl rfl) rfl rfl rfl (op_gtr rfl (ev2 rfl) (ev2 rfl)) ?_
    refine zab rfl rfl rfl (op_or rfl (ev1 rfl) (ev3 rfl id)) ?_
    refine zae ?_
    refine dwp_cond rfl (fun c2 => ?_) (fun c2 => ?_)
    · have hv : ¬ (rchS l[i] ∧ l[i].f ≤ l[i].t) := by
        intro hv
        obtain ⟨g1, g2, g3, g4⟩ := hri.1 hv
        rw [g1, g2, g3] at c2
        simp at c2
        omega
      refine zaf ?_
      refine zad ?_
      refine zab rfl rfl rfl (zac (.inr rfl) (ev1 rfl)) ?_
      refine zae ?_
      refine zao ?_
      refine kend0 (rs1 rfl (rv_t rfl)) rfl ?_
      rw [chkE_no (chkS_not1 hi hv)]
    · have hv : rchS l[i] ∧ l[i].f ≤ l[i].t := hri.2 (by revert c2; cases rchB l[i].y <;> cases rchB l[i].f <;> cases rchB l[i].t <;> simp)
      refine zak ?_
      refine zaf ?_
      have hbd : bdS (l.getD (i - 1) zSp) := by
          by_cases e : 0 < i
          · rw [gD_at (by omega)]; exact rch_bd ((hok.1 _ (List.mem_take_iff_getElem.2 ⟨i - 1, by omega, rfl⟩)).1)
          · obtain rfl : i = 0 := by omega
            rw [gD_at hi]; exact rch_bd hv.1
      refine dwp_draw [([], []), ([], []), ([], []), ([], []), ([], []), ([], []), ([], []), ([], []), ([0], []), ([], []), ([], []), ([], [])] mixed (by kernel_rfl) ?_
      refine zag rfl rfl (zac (.inl rfl) (ev1 rfl)) ?_
      refine zag rfl rfl (op_gtr rfl (ev1 rfl) (ev1 rfl)) ?_
      refine zag rfl rfl (zac (.inl rfl) (ev1 rfl)) ?_
      refine lex_gr (gd_t rfl rfl rfl) rfl rfl (zac (.inl rfl) (ev1 rfl)) ?_
      refine lex_gr (gd_t rfl rfl rfl) rfl rfl (zac (.inl rfl) (ev1 rfl)) ?_
      refine lex_gr (gd_t rfl rfl rfl) rfl rfl (op_sub' rfl (ev2 rfl) (ev1 rfl) (fun hp => IntWalk.i64_in _ (by first | omega | (simp at hp; omega)))) ?_
      refine lex_gr (gd_t rfl rfl rfl) rfl rfl (op_ixsg (j := i - 1) (zSp) rfl sl35 (ev2 rfl) (ev2 rfl) (fun _ => rfl) (by decide) (fun hp => by first | omega | (simp at hp; omega)) (fun hp => by first | omega | (simp at hp; omega))) ?_
      refine lex_gr (gd_t rfl rfl rfl) rfl rfl (op_ldwd rfl tb53 (ev2 rfl) rfl) ?_
      refine lex_gr (gd_t rfl rfl rfl) rfl rfl (op_ldw rfl tb53 (ev1 rfl) rfl rfl) ?_
      refine lex_gr (gd_t rfl rfl rfl) rfl rfl (zah [] [] [] rfl (ev1 rfl) (ec (ev2 rfl) (ec (ev2 rfl) en)) rfl rfl (apart_d _ _ hbd) rfl rfl rfl rfl rfl rfl) ?_
      refine lex_gr (gd_t rfl rfl rfl) rfl rfl (op_not rfl (ev2 rfl)) ?_
      refine zag rfl rfl (op_and rfl (ev1 rfl) (ev3 rfl id)) ?_
      refine lex_nil ?_
      refine dwp_cond rfl (fun c3 => ?_) (fun c3 => ?_)
      · have h0 : 0 < i := by simp at c3; omega
        have hap : ¬ apS l[i - 1] l[i] := by rw [gD_at (by omega)] at c3; simp at c3; exact c3.2
        refine zaf ?_
        refine zad ?_
        refine zab rfl rfl rfl (zac (.inr rfl) (ev1 rfl)) ?_
        refine zae ?_
        refine zao ?_
        refine kend0 (rs1 rfl (rv_t rfl)) rfl ?_
        rw [chkE_no (chkS_not2 hi h0 hap)]
      · have hok2 := chkS_add hi hok hv fun h0 => by rw [gD_at (by omega)] at c3; simp at c3; exact c3 (by omega)
        refine zak ?_
        refine zad ?_
        refine zab rfl rfl rfl (op_add' rfl (ev1 rfl) (ev1 rfl) (fun _ => IntWalk.i64_in _ (by omega))) ?_
        refine zab rfl rfl rfl (zac (.inl rfl) (ev1 rfl)) ?_
        refine zae ?_
        refine ⟨i + 1, [], ⟨by omega, hok2⟩, by simp only []; omega, rfl, ⟨rfl, rfl, rfl, rfl, trivial⟩, trivial⟩
  · try simp only [decide_eq_true_eq, decide_eq_false_iff_not, beq_iff_eq, bne_iff_ne, beq_eq_false_iff_ne, bne_eq_false_iff_eq, Bool.not_eq_true', Bool.not_eq_false', Bool.and_eq_true, Bool.or_eq_true, Bool.or_eq_false_iff, ne_eq, Decidable.not_not, Int.not_lt, Int.not_le] at c1
    refine dwp_exit ?_
    refine zaf ?_
    refine zad ?_
    refine zab rfl rfl rfl (zac (.inr rfl) (ev1 rfl)) ?_
    refine zae ?_
    refine zao ?_
    rw [take_all (by omega)] at hok
    refine kend0 (rs1 rfl (rv_t rfl)) rfl ?_
    rw [chkE_ok hok]
end Go.Proofs.Ytfnhckildfbikaa
namespace Go.Proofs.Ytfnhckildfbikaa
set_option maxRecDepth 4000
set_option linter.unusedVariables false
set_option linter.unusedSimpArgs false
open Go.RowKit
def rowY (l : List Sp) (y : Int) : List Sp := l.filter fun s => decide (s.y = y)
theorem rowY_mem {l : List Sp} {y : Int} {s : Sp} : s ∈ rowY l y ↔ s ∈ l ∧ s.y = y := by unfold rowY; rw [List.mem_filter, decide_eq_true_eq]
theorem rowY_take {l : List Sp} {i : Nat} (hi : i < l.length) (y : Int) : rowY (l.take (i + 1)) y = rowY (l.take i) y ++ (if l[i].y = y then [l[i]] else []) := by
  unfold rowY
  rw [List.take_succ_eq_append_getElem hi, List.filter_append]
  congr 1
  by_cases e : l[i].y = y <;> simp [e]
structure GS where
  i : Nat
  ks : List Int
  nn : List Nat
  Bs : List Mem
abbrev rowB (l : List Sp) (y : Int) : Mem := .arr 53 3 (rowY l y).length ((rowY l y).flatMap s3)
structure GOk (l : List Sp) (g : GS) : Prop where
  le : g.i ≤ l.length
  nd : g.ks.Nodup
  len : g.nn.length = g.ks.length
  keys : ∀ y, y ∈ g.ks ↔ ∃ s ∈ l.take g.i, s.y = y
  nnd : g.nn.Nodup
  rows : ∀ (j : Nat) y k, g.ks[j]? = some y → g.nn[j]? = some k → g.Bs[k]? = some (rowB (l.take g.i) y)
theorem GOk.zero (l : List Sp) : GOk l ⟨0, [], [], []⟩ := ⟨Nat.zero_le _, List.nodup_nil, rfl, fun y => by simp, List.nodup_nil, fun j y k h => by simp at h⟩
theorem GOk.bs {l : List Sp} {g : GS} (h : GOk l g) {j : Nat} {k : Nat} (hk : g.nn[j]? = some k) : k < g.Bs.length := by
  have hj : j < g.ks.length := by rw [← h.len]; exact (List.getElem?_eq_some_iff.1 hk).1
  exact (List.getElem?_eq_some_iff.1 (h.rows j _ k (List.getElem?_eq_getElem hj) hk)).1
theorem GOk.new {l : List Sp} {g : GS} (h : GOk l g) (hi : g.i < l.length) (hk : l[g.i].y ∉ g.ks) {B : Mem} (hB : B = .arr 53 3 1 (s3 l[g.i])) : GOk l ⟨g.i + 1, g.ks ++ [l[g.i].y], g.nn ++ [g.Bs.length], g.Bs ++ [B]⟩ := by
  subst hB
  have hno : ∀ s ∈ l.take g.i, s.y ≠ l[g.i].y := fun s hs e => hk ((h.keys _).2 ⟨s, hs, e⟩)
  refine ⟨hi, ?_, by simp [h.len], fun y => ?_, ?_, fun j y k h1 h2 => ?_⟩
  · exact List.nodup_append.2 ⟨h.nd, by simp, fun a ha b hb => by simp at hb; subst hb; exact fun e => hk (e ▸ ha)⟩
  · simp only
    rw [List.mem_append, h.keys, List.take_succ_eq_append_getElem hi]
    constructor
    · rintro (⟨s, hs, e⟩ | e)
      · exact ⟨s, List.mem_append.2 (.inl hs), e⟩
      · exact ⟨l[g.i], List.mem_append.2 (.inr (by simp)), (List.mem_singleton.1 e).symm⟩
    · rintro ⟨s, hs, e⟩
      rcases List.mem_append.1 hs with hs | hs
      · exact .inl ⟨s, hs, e⟩
      · rw [List.mem_singleton.1 hs] at e; exact .inr (by simp [e])
  · refine List.nodup_append.2 ⟨h.nnd, by simp, fun a ha b hb => ?_⟩
    simp at hb
    subst hb
    obtain ⟨q, hq⟩ := List.getElem?_of_mem ha
    have := h.bs hq
    omega
  · simp only at *
    by_cases e : j < g.ks.length
    · rw [List.getElem?_append_left e] at h1
      rw [List.getElem?_append_left (by rw [h.len]; exact e)] at h2
      have hne : ¬ l[g.i].y = y := fun e => hk (e ▸ List.mem_of_getElem? h1)
      rw [List.getElem?_append_left (h.bs h2), h.rows j y k h1 h2]
      unfold rowB
      rw [rowY_take hi, if_neg hne, List.append_nil]
    · rw [List.getElem?_append_right (by omega)] at h1
      rw [List.getElem?_append_right (by rw [h.len]; omega)] at h2
      have e1 : j - g.ks.length = 0 := by
        have := (List.getElem?_eq_some_iff.1 h1).1
        simp at this; omega
      rw [e1] at h1
      rw [h.len, e1] at h2
      simp at h1 h2
      subst h1 h2
      have e2 : rowY (l.take g.i) l[g.i].y = [] := List.eq_nil_iff_forall_not_mem.2 fun s hs => hno s (rowY_mem.1 hs).1 (rowY_mem.1 hs).2
      rw [List.getElem?_append_right (Nat.le_refl _), Nat.sub_self]
      unfold rowB
      rw [rowY_take hi, if_pos rfl, e2]
      simp
theorem GOk.old {l : List Sp} {g : GS} (h : GOk l g) (hi : g.i < l.length) {j k : Nat} (hj : g.ks[j]? = some l[g.i].y) (hk : g.nn[j]? = some k) {B : Mem} (hB : B = .arr 53 3 ((rowY (l.take g.i) l[g.i].y).length + 1) ((rowY (l.take g.i) l[g.i].y).flatMap s3 ++ s3 l[g.i])) : GOk l ⟨g.i + 1, g.ks, g.nn.set j g.Bs.length, g.Bs.set k .gone ++ [B]⟩ := by
  subst hB
  refine ⟨hi, h.nd, by simp [h.len], fun y => ?_, ?_, fun q y k' h1 h2 => ?_⟩
  · simp only
    rw [h.keys, List.take_succ_eq_append_getElem hi]
    constructor
    · rintro ⟨s, hs, e⟩
      exact ⟨s, List.mem_append.2 (.inl hs), e⟩
    · rintro ⟨s, hs, e⟩
      rcases List.mem_append.1 hs with hs | hs
      · exact ⟨s, hs, e⟩
      · rw [List.mem_singleton.1 hs] at e
        exact (h.keys y).1 (e ▸ List.mem_of_getElem? hj)
  · refine List.nodup_iff_pairwise_ne.2 (List.pairwise_iff_getElem.2 fun a b ha hb hab => ?_)
    simp only [List.length_set] at ha hb
    rw [List.getElem_set, List.getElem_set]
    have nb : ∀ q (hq : q < g.nn.length), g.nn[q] < g.Bs.length := fun q hq => h.bs (List.getElem?_eq_getElem hq)
    split
    · split
      · omega
      · have := nb b hb; omega
    · split
      · have := nb a ha; omega
      · exact List.pairwise_iff_getElem.1 h.nnd a b ha hb hab
  · simp only at *
    by_cases e : j = q
    · subst e
      have hjl : j < g.nn.length := (List.getElem?_eq_some_iff.1 hk).1
      rw [List.getElem?_set_self hjl] at h2
      cases h2
      rw [hj] at h1
      cases h1
      rw [List.getElem?_append_right (by simp), List.length_set, Nat.sub_self]
      unfold rowB
      rw [rowY_take hi, if_pos rfl]
      simp
    · rw [List.getElem?_set_ne e] at h2
      have hkk : k ≠ k' := fun e2 => by
        subst e2
        obtain ⟨q1, q2⟩ := List.getElem?_eq_some_iff.1 hk
        obtain ⟨q3, q4⟩ := List.getElem?_eq_some_iff.1 h2
        rcases Nat.lt_or_gt_of_ne e with e3 | e3
        · exact List.pairwise_iff_getElem.1 h.nnd j q q1 q3 e3 (q2.trans q4.symm)
        · exact List.pairwise_iff_getElem.1 h.nnd q j q3 q1 e3 (q4.trans q2.symm)
      have hne : ¬ l[g.i].y = y := fun e2 => by
        rw [e2] at hj
        obtain ⟨q1, q2⟩ := List.getElem?_eq_some_iff.1 hj
        obtain ⟨q3, q4⟩ := List.getElem?_eq_some_iff.1 h1
        rcases Nat.lt_or_gt_of_ne e with e3 | e3
        · exact List.pairwise_iff_getElem.1 h.nd j q q1 q3 e3 (q2.trans q4.symm)
        · exact List.pairwise_iff_getElem.1 h.nd q j q3 q1 e3 (q4.trans q2.symm)
      rw [List.getElem?_append_left (by rw [List.length_set]; exact h.bs h2), List.getElem?_set_ne hkk, h.rows q y k' h1 h2]
      unfold rowB
      rw [rowY_take hi, if_neg hne, List.append_nil]
abbrev lastS (out : List Sp) : Sp := out.getD (out.length - 1) zSp
theorem lastS_app (l : List Sp) (a : Sp) : lastS (l ++ [a]) = a := by
  unfold lastS
  rw [List.length_append, List.getD_eq_getElem?_getD, List.getElem?_append_right (by simp)]
  simp
end Go.Proofs.Ytfnhckildfbikaa
namespace Go.Proofs.Ytfnhckildfbikaa
set_option maxRecDepth 4000
set_option linter.unusedVariables false
set_option linter.unusedSimpArgs false
open Go.RowKit
theorem tb35 : tyB Try.prog 35 = some (false, 1) := by kernel_rfl
set_option maxRecDepth 4000 in
set_option maxHeartbeats 1000000 in
theorem told_d (l : List Sp) : DFun Try.prog 63 [.slf 3 l.length (l.flatMap s3)] [] (.fn (.func 86) [] [.loc 0 0]) [.mix 35 [.slf 3 l.length (l.flatMap s3)]] := by
  refine zan (N := 4) 0 (by kernel_rfl) Try.func63 rfl rfl rfl (by simp only [fr0, Nat.zero_add, Nat.reduceAdd]; exact rfl) rfl fun s0 hs0 => ?_
  refine dwp_len (t := 0) rfl fun hl0 hL0 => ?_
  refine zaf ?_
  refine zai 1 (by simp only [holes, List.cons_append, List.nil_append]; exact rfl) ?_
  refine zad ?_
  refine zaj rfl rfl rfl (op_boxm 0 rfl (ev1 rfl) (fun s v h => by cases h <;> rfl) rfl) (by simp only [upd, zaa, za]; exact rfl) ?_
  refine zab rfl rfl rfl (zac (.inr rfl) (ev1 rfl)) ?_
  refine zae ?_
  refine zaf ?_
  refine zad ?_
  refine zab rfl rfl rfl (op_mkf rfl en (ec (ev1 rfl) en)) ?_
  refine zab rfl rfl rfl (zac (.inr rfl) (ev1 rfl)) ?_
  refine zae ?_
  refine zao ?_
  refine kend [0] (rs1 rfl (rv_t rfl)) rfl rfl ?_ ⟨rfl, trivial⟩
  rfl
end Go.Proofs.Ytfnhckildfbikaa
namespace Go.Proofs.Ytfnhckildfbikaa
set_option maxRecDepth 4000
set_option linter.unusedVariables false
set_option linter.unusedSimpArgs false
open Go.RowKit
theorem eq53 {a b : Sp} : eqT Try.prog 9 53 (s3 a) (s3 b) = some (decide (a = b)) := by
  have h : ((a.y == b.y) && ((a.f == b.f) && ((a.t == b.t) && true))) = decide (a = b) := by
    obtain ⟨x, y, z⟩ := a
    obtain ⟨x', y', z'⟩ := b
    rw [Bool.eq_iff_iff]
    simp
  rw [← h]
  exact (show eqT Try.prog 9 53 [.int .i64 a.y, .int .i64 a.f, .int .i64 a.t] [.int .i64 b.y, .int .i64 b.f, .int .i64 b.t] = some ((a.y == b.y) && ((a.f == b.f) && ((a.t == b.t) && true))) by kernel_rfl)
theorem gd53 : Try.prog.eqGuardType Try.prog.depth 53 = false := by kernel_rfl
theorem zr35 : zrC Try.prog 35 = some [.slice none 0 0] := by kernel_rfl
set_option maxRecDepth 4000 in
set_option maxHeartbeats 1000000 in
theorem equalS (l r : List Sp) : DFun Try.prog 18 [.slf 3 l.length (l.flatMap s3), .slf 3 r.length (r.flatMap s3)] [] (.val (.bool (decide (l = r)))) [] := by
  refine zan (N := 26) 0 (by kernel_rfl) Try.func18 rfl rfl rfl (by simp only [fr0, Nat.zero_add, Nat.reduceAdd]; exact rfl) rfl fun s0 hs0 => ?_
  refine dwp_len (t := 0) rfl fun hl0 hL0 => ?_
  refine dwp_len (t := 1) rfl fun hl1 hL1 => ?_
  refine zaf ?_
  refine zad ?_
  refine zab rfl rfl rfl (zac (.inr rfl) (ev1 rfl)) ?_
  refine zae ?_
  refine zaf ?_
  refine zaf ?_
  refine zad ?_
  refine zab rfl rfl rfl (zac (.inl rfl) (ev1 rfl)) ?_
  refine zab rfl rfl rfl (op_len rfl sl35 (ev1 rfl)) ?_
  refine zab rfl rfl rfl (zac (.inl rfl) (ev1 rfl)) ?_
  refine zab rfl rfl rfl (op_len rfl sl35 (ev1 rfl)) ?_
  refine zab rfl rfl rfl (op_neq rfl (ev1 rfl) (ev1 rfl)) ?_
  refine zae ?_
  refine dwp_cond rfl (fun c1 => ?_) (fun c1 => ?_)
  · try simp only [decide_eq_true_eq, decide_eq_false_iff_not, beq_iff_eq, bne_iff_ne, beq_eq_false_iff_ne, bne_eq_false_iff_eq, Bool.not_eq_true', Bool.not_eq_false', Bool.and_eq_true, Bool.or_eq_true, Bool.or_eq_false_iff, ne_eq, Decidable.not_not, Int.not_lt, Int.not_le] at c1
    refine zaf ?_
    refine zad ?_
    refine zab rfl rfl rfl (zac (.inr rfl) (ev1 rfl)) ?_
    refine zae ?_
    refine zao ?_
    refine kend0 (rs1 rfl (rv_t rfl)) rfl ?_
    have hne : l ≠ r := fun e => by subst e; exact c1 rfl
    rw [decide_eq_false hne]
  · try simp only [decide_eq_true_eq, decide_eq_false_iff_not, beq_iff_eq, bne_iff_ne, beq_eq_false_iff_ne, bne_eq_false_iff_eq, Bool.not_eq_true', Bool.not_eq_false', Bool.and_eq_true, Bool.or_eq_true, Bool.or_eq_false_iff, ne_eq, Decidable.not_not, Int.not_lt, Int.not_le] at c1
    have hlen : l.length = r.length := by omega
    refine zak ?_
    refine zaf ?_
    refine zaf ?_
    refine zad ?_
    refine zab rfl rfl rfl (zac (.inl rfl) (ev1 rfl)) ?_
    refine zab rfl rfl rfl (op_len rfl sl35 (ev1 rfl)) ?_
    refine zab rfl rfl rfl (zac (.inl rfl) (ev1 rfl)) ?_
    refine zae ?_
    refine zal ?_
    refine dwp_loopS ⟨hs0, rfl⟩ (α := Nat) (fun k => [(13, .val (.int .i64 (k : Int)))]) [(0, _), (1, _), (12, _)] (fun k => []) [] (fun k => k ≤ l.length ∧ l.take k = r.take k) (fun k => l.length - k) 0 [] (by simp) rfl ⟨rfl, rfl, rfl, trivial⟩ ⟨rfl, trivial⟩ trivial ?_
    intro k hx
    simp only [upd, zaa, za, List.cons_append, List.nil_append]
    obtain ⟨hk, he⟩ := hx
    refine zaf ?_
    refine zad ?_
    refine zab rfl rfl rfl (op_lss rfl (ev1 rfl) (ev1 rfl)) ?_
    refine zae ?_
    refine zaf ?_
    refine dwp_cond rfl (fun c2 => ?_) (fun c2 => ?_)
    · try simp only [decide_eq_true_eq, decide_eq_false_iff_not, beq_iff_eq, bne_iff_ne, beq_eq_false_iff_ne, bne_eq_false_iff_eq, Bool.not_eq_true', Bool.not_eq_false', Bool.and_eq_true, Bool.or_eq_true, Bool.or_eq_false_iff, ne_eq, Decidable.not_not, Int.not_lt, Int.not_le] at c2
      refine zak ?_
      refine zaf ?_
      refine zal ?_
      refine zaf ?_
      refine zad ?_
      refine zab rfl rfl rfl (zac (.inl rfl) (ev1 rfl)) ?_
      refine zab rfl rfl rfl (zac (.inr rfl) (ev1 rfl)) ?_
      refine zae ?_
      refine zaf ?_
      refine dwp_draw [([], []), ([], []), ([], []), ([], []), ([], []), ([], []), ([], []), ([], []), ([], [])] mixed (by kernel_rfl) ?_
      refine zag rfl rfl (zac (.inl rfl) (ev1 rfl)) ?_
      refine zag rfl rfl (zac (.inl rfl) (ev1 rfl)) ?_
      refine zag rfl rfl (op_ixsr (j := k) rfl sl35 (ev1 rfl) (ev1 rfl) (fun _ => rfl) (by decide) (by omega) (by omega)) ?_
      refine zag rfl rfl (op_ldwd rfl tb53 (ev1 rfl) rfl) ?_
      refine zag rfl rfl (zac (.inl rfl) (ev1 rfl)) ?_
      refine zag rfl rfl (zac (.inl rfl) (ev1 rfl)) ?_
      refine zag rfl rfl (op_ixsr (j := k) rfl sl35 (ev1 rfl) (ev1 rfl) (fun _ => rfl) (by decide) (by omega) (by omega)) ?_
      refine zag rfl rfl (op_ldwd rfl tb53 (ev1 rfl) rfl) ?_
      refine zag rfl rfl (op_ner eq53 rfl gd53 tb53 (ev1 rfl) (ev1 rfl)) ?_
      refine lex_nil ?_
      refine dwp_cond rfl (fun c2 => ?_) (fun c2 => ?_)
      · have c3 : l[k] ≠ r[k] := by simpa using c2
        refine zaf ?_
        refine zad ?_
        refine zab rfl rfl rfl (zac (.inr rfl) (ev1 rfl)) ?_
        refine zae ?_
        refine zao ?_
        refine kend0 (rs1 rfl (rv_t rfl)) rfl ?_
        have hne : l ≠ r := fun e => by subst e; exact c3 rfl
        rw [decide_eq_false hne]
      · have c3 : l[k] = r[k] := by simpa using c2
        refine zak ?_
        refine zad ?_
        refine zab rfl rfl rfl (op_add' rfl (ev1 rfl) (ev1 rfl) (fun _ => IntWalk.i64_in _ (by omega))) ?_
        refine zab rfl rfl rfl (zac (.inl rfl) (ev1 rfl)) ?_
        refine zae ?_
        refine ⟨k + 1, [], ⟨by omega, by rw [List.take_succ_eq_append_getElem (by omega), List.take_succ_eq_append_getElem (by omega), he, c3]⟩, by simp only []; omega, rfl, ⟨rfl, rfl, rfl, rfl, trivial⟩, trivial⟩
    · try simp only [decide_eq_true_eq, decide_eq_false_iff_not, beq_iff_eq, bne_iff_ne, beq_eq_false_iff_ne, bne_eq_false_iff_eq, Bool.not_eq_true', Bool.not_eq_false', Bool.and_eq_true, Bool.or_eq_true, Bool.or_eq_false_iff, ne_eq, Decidable.not_not, Int.not_lt, Int.not_le] at c2
      refine dwp_exit ?_
      refine zaf ?_
      refine zad ?_
      refine zab rfl rfl rfl (zac (.inr rfl) (ev1 rfl)) ?_
      refine zae ?_
      refine zao ?_
      refine kend0 (rs1 rfl (rv_t rfl)) rfl ?_
      have e : l = r := by
        have h := he
        rw [List.take_of_length_le (by omega), List.take_of_length_le (by omega)] at h
        exact h
      rw [decide_eq_true e]
set_option maxRecDepth 4000 in
set_option maxHeartbeats 1000000 in
theorem equalPt (l r : List P2) : DFun Try.prog 27 [.slf 2 l.length (l.flatMap p2), .slf 2 r.length (r.flatMap p2)] [] (.val (.bool (decide (l = r)))) [] := by
  refine zan (N := 26) 0 (by kernel_rfl) Try.func27 rfl rfl rfl (by simp only [fr0, Nat.zero_add, Nat.reduceAdd]; exact rfl) rfl fun s0 hs0 => ?_
  refine dwp_len (t := 0) rfl fun hl0 hL0 => ?_
  refine dwp_len (t := 1) rfl fun hl1 hL1 => ?_
  refine zaf ?_
  refine zad ?_
  refine zab rfl rfl rfl (zac (.inr rfl) (ev1 rfl)) ?_
  refine zae ?_
  refine zaf ?_
  refine zaf ?_
  refine zad ?_
  refine zab rfl rfl rfl (zac (.inl rfl) (ev1 rfl)) ?_
  refine zab rfl rfl rfl (op_len rfl sl64 (ev1 rfl)) ?_
  refine zab rfl rfl rfl (zac (.inl rfl) (ev1 rfl)) ?_
  refine zab rfl rfl rfl (op_len rfl sl64 (ev1 rfl)) ?_
  refine zab rfl rfl rfl (op_neq rfl (ev1 rfl) (ev1 rfl)) ?_
  refine zae ?_
  refine dwp_cond rfl (fun c1 => ?_) (fun c1 => ?_)
  · try simp only [decide_eq_true_eq, decide_eq_false_iff_not, beq_iff_eq, bne_iff_ne, beq_eq_false_iff_ne, bne_eq_false_iff_eq, Bool.not_eq_true', Bool.not_eq_false', Bool.and_eq_true, Bool.or_eq_true, Bool.or_eq_false_iff, ne_eq, Decidable.not_not, Int.not_lt, Int.not_le] at c1
    refine zaf ?_
    refine zad ?_
    refine zab rfl rfl rfl (zac (.inr rfl) (ev1 rfl)) ?_
    refine zae ?_
    refine zao ?_
    refine kend0 (rs1 rfl (rv_t rfl)) rfl ?_
    have hne : l ≠ r := fun e => by subst e; exact c1 rfl
    rw [decide_eq_false hne]
  · try simp only [decide_eq_true_eq, decide_eq_false_iff_not, beq_iff_eq, bne_iff_ne, beq_eq_false_iff_ne, bne_eq_false_iff_eq, Bool.not_eq_true', Bool.not_eq_false', Bool.and_eq_true, Bool.or_eq_true, Bool.or_eq_false_iff, ne_eq, Decidable.not_not, Int.not_lt, Int.not_le] at c1
    have hlen : l.length = r.length := by omega
    refine zak ?_
    refine zaf ?_
    refine zaf ?_
    refine zad ?_
    refine zab rfl rfl rfl (zac (.inl rfl) (ev1 rfl)) ?_
    refine zab rfl rfl rfl (op_len rfl sl64 (ev1 rfl)) ?_
    refine zab rfl rfl rfl (zac (.inl rfl) (ev1 rfl)) ?_
    refine zae ?_
    refine zal ?_
    refine dwp_loopS ⟨hs0, rfl⟩ (α := Nat) (fun k => [(13, .val (.int .i64 (k : Int)))]) [(0, _), (1, _), (12, _)] (fun k => []) [] (fun k => k ≤ l.length ∧ l.take k = r.take k) (fun k => l.length - k) 0 [] (by simp) rfl ⟨rfl, rfl, rfl, trivial⟩ ⟨rfl, trivial⟩ trivial ?_
    intro k hx
    simp only [upd, zaa, za, List.cons_append, List.nil_append]
    obtain ⟨hk, he⟩ := hx
    refine zaf ?_
    refine zad ?_
    refine zab rfl rfl rfl (op_lss rfl (ev1 rfl) (ev1 rfl)) ?_
    refine zae ?_
    refine zaf ?_
    refine dwp_cond rfl (fun c2 => ?_) (fun c2 => ?_)
    · try simp only [decide_eq_true_eq, decide_eq_false_iff_not, beq_iff_eq, bne_iff_ne, beq_eq_false_iff_ne, bne_eq_false_iff_eq, Bool.not_eq_true', Bool.not_eq_false', Bool.and_eq_true, Bool.or_eq_true, Bool.or_eq_false_iff, ne_eq, Decidable.not_not, Int.not_lt, Int.not_le] at c2
      refine zak ?_
      refine zaf ?_
      refine zal ?_
      refine zaf ?_
      refine zad ?_
      refine zab rfl rfl rfl (zac (.inl rfl) (ev1 rfl)) ?_
      refine zab rfl rfl rfl (zac (.inr rfl) (ev1 rfl)) ?_
      refine zae ?_
      refine zaf ?_
      refine dwp_draw [([], []), ([], []), ([], []), ([], []), ([], []), ([], []), ([], []), ([], []), ([], [])] mixed (by kernel_rfl) ?_
      refine zag rfl rfl (zac (.inl rfl) (ev1 rfl)) ?_
      refine zag rfl rfl (zac (.inl rfl) (ev1 rfl)) ?_
      refine zag rfl rfl (op_ixsr (j := k) rfl sl64 (ev1 rfl) (ev1 rfl) (fun _ => rfl) (by decide) (by omega) (by omega)) ?_
      refine zag rfl rfl (op_ldwd rfl tb34 (ev1 rfl) rfl) ?_
      refine zag rfl rfl (zac (.inl rfl) (ev1 rfl)) ?_
      refine zag rfl rfl (zac (.inl rfl) (ev1 rfl)) ?_
      refine zag rfl rfl (op_ixsr (j := k) rfl sl64 (ev1 rfl) (ev1 rfl) (fun _ => rfl) (by decide) (by omega) (by omega)) ?_
      refine zag rfl rfl (op_ldwd rfl tb34 (ev1 rfl) rfl) ?_
      refine zag rfl rfl (op_ner eq34 rfl gd34 tb34 (ev1 rfl) (ev1 rfl)) ?_
      refine lex_nil ?_
      refine dwp_cond rfl (fun c2 => ?_) (fun c2 => ?_)
      · have c3 : l[k] ≠ r[k] := by simpa using c2
        refine zaf ?_
        refine zad ?_
        refine zab rfl rfl rfl (zac (.inr rfl) (ev1 rfl)) ?_
        refine zae ?_
        refine zao ?_
        refine kend0 (rs1 rfl (rv_t rfl)) rfl ?_
        have hne : l ≠ r := fun e => by subst e; exact c3 rfl
        rw [decide_eq_false hne]
      · have c3 : l[k] = r[k] := by simpa using c2
        refine zak ?_
        refine zad ?_
        refine zab rfl rfl rfl (op_add' rfl (ev1 rfl) (ev1 rfl) (fun _ => IntWalk.i64_in _ (by omega))) ?_
        refine zab rfl rfl rfl (zac (.inl rfl) (ev1 rfl)) ?_
        refine zae ?_
        refine ⟨k + 1, [], ⟨by omega, by rw [List.take_succ_eq_append_getElem (by omega), List.take_succ_eq_append_getElem (by omega), he, c3]⟩, by simp only []; omega, rfl, ⟨rfl, rfl, rfl, rfl, trivial⟩, trivial⟩
    · try simp only [decide_eq_true_eq, decide_eq_false_iff_not, beq_iff_eq, bne_iff_ne, beq_eq_false_iff_ne, bne_eq_false_iff_eq, Bool.not_eq_true', Bool.not_eq_false', Bool.and_eq_true, Bool.or_eq_true, Bool.or_eq_false_iff, ne_eq, Decidable.not_not, Int.not_lt, Int.not_le] at c2
      refine dwp_exit ?_
      refine zaf ?_
      refine zad ?_
      refine zab rfl rfl rfl (zac (.inr rfl) (ev1 rfl)) ?_
      refine zae ?_
      refine zao ?_
      refine kend0 (rs1 rfl (rv_t rfl)) rfl ?_
      have e : l = r := by
        have h := he
        rw [List.take_of_length_le (by omega), List.take_of_length_le (by omega)] at h
        exact h
      rw [decide_eq_true e]
set_option maxRecDepth 4000 in
set_option maxHeartbeats 1000000 in
theorem cloneS (l : List Sp) (h : l.length ≤ 1000000) : DFun Try.prog 23 [.slf 3 l.length (l.flatMap s3)] [] (.arr 0) [.arr 53 3 l.length (l.flatMap s3)] := by
  refine zan (N := 8) 0 (by kernel_rfl) Try.func23 rfl rfl rfl (by simp only [fr0, Nat.zero_add, Nat.reduceAdd]; exact rfl) rfl fun s0 hs0 => ?_
  refine dwp_len (t := 0) rfl fun hl0 hL0 => ?_
  refine zaf ?_
  refine zad ?_
  refine zab rfl rfl rfl (zac (.inr rfl) (ev1 rfl)) ?_
  refine zae ?_
  refine zaf ?_
  refine zaf ?_
  refine zad ?_
  refine zab rfl rfl rfl (zac (.inl rfl) (ev1 rfl)) ?_
  refine walk_nil? rfl rfl rfl rfl sl35 (ev1 rfl) fun nb4 hnb4 => ?_
  refine zae ?_
  refine dwp_cond rfl (fun c1 => ?_) (fun c1 => ?_)
  · try simp only [decide_eq_true_eq, decide_eq_false_iff_not, beq_iff_eq, bne_iff_ne, beq_eq_false_iff_ne, bne_eq_false_iff_eq, Bool.not_eq_true', Bool.not_eq_false', Bool.and_eq_true, Bool.or_eq_true, Bool.or_eq_false_iff, ne_eq, Decidable.not_not, Int.not_lt, Int.not_le] at c1
    refine zaf ?_
    refine zad ?_
    refine zab rfl rfl rfl (zac (.inr rfl) (ev1 rfl)) ?_
    refine zae ?_
    refine dwp_adopt 2 53 3 rfl rfl rfl ?_
    refine zao ?_
    refine kend [0] (rs1 rfl (rv_t rfl)) rfl rfl ?_ ⟨?_, trivial⟩
    rfl
    exact (by obtain ⟨h1, h2⟩ := hnb4 c1; simp_all [MFits, vwB])
  · try simp only [decide_eq_true_eq, decide_eq_false_iff_not, beq_iff_eq, bne_iff_ne, beq_eq_false_iff_ne, bne_eq_false_iff_eq, Bool.not_eq_true', Bool.not_eq_false', Bool.and_eq_true, Bool.or_eq_true, Bool.or_eq_false_iff, ne_eq, Decidable.not_not, Int.not_lt, Int.not_le] at c1
    refine zak ?_
    refine zaf ?_
    refine zai 2 (by simp only [holes, List.cons_append, List.nil_append]; exact rfl) ?_
    refine zad ?_
    refine zaj rfl rfl rfl (op_bsa (ps := []) 0 rfl sl35 zr53 rfl vn rfl (by decide) (by decide) rfl) (by simp only [upd, zaa, za]; exact rfl) ?_
    refine zab rfl rfl rfl (zac (.inl rfl) (ev1 rfl)) ?_
    refine zaj rfl rfl rfl (op_app (j := 1) rfl sl35 zr53 rfl (ev1 rfl) (ev1 rfl) src_slf rfl rfl (fun _ => flat_oc (fun _ => rfl) l) (fun _ => ⟨by omega, by omega⟩)) (by simp only [upd, zaa, za]; exact rfl) ?_
    refine zab rfl rfl rfl (zac (.inr rfl) (ev1 rfl)) ?_
    refine zae ?_
    refine zao ?_
    refine kend [1] (rs1 rfl (rv_t rfl)) rfl rfl ?_ ⟨?_, trivial⟩
    rfl
    simp [vwB]
theorem cloneS_f (l : List Sp) (h : l.length ≤ 1000000) : DFun Try.prog 23 [.slf 3 l.length (l.flatMap s3)] [] (.slf 3 l.length (l.flatMap s3)) [] := freeze (cloneS l h) rfl
set_option maxRecDepth 4000 in
set_option maxHeartbeats 1000000 in
theorem all_d (l : List Sp) (h : l.length ≤ 1000000) : DFun Try.prog 55 [.slf 3 l.length (l.flatMap s3)] [] (.fn (.func 82) [] [.loc 0 0]) [.mix 35 [.slf 3 l.length (l.flatMap s3)]] := by
  refine zan (N := 7) 0 (by kernel_rfl) Try.func55 rfl rfl rfl (by simp only [fr0, Nat.zero_add, Nat.reduceAdd]; exact rfl) rfl fun s0 hs0 => ?_
  refine dwp_len (t := 0) rfl fun hl0 hL0 => ?_
  refine zaf ?_
  refine zad ?_
  refine zab rfl rfl rfl (zac (.inr rfl) (ev1 rfl)) ?_
  refine zae ?_
  refine zaf ?_
  refine zai 1 (by simp only [holes, List.cons_append, List.nil_append]; exact rfl) ?_
  refine zad ?_
  refine zab rfl rfl rfl (zac (.inl rfl) (ev1 rfl)) ?_
  refine zab rfl rfl rfl (zah [] [] [] rfl (ev1 rfl) (ec (ev1 rfl) en) rfl rfl (cloneS_f l h) rfl rfl rfl rfl rfl rfl) ?_
  refine zaj rfl rfl rfl (op_alloc 0 rfl zr35 rfl) (by simp only [upd, zaa, za]; exact rfl) ?_
  refine walk_s rfl rfl (op_stfm rfl tb35 (ev1 rfl) (ev1 rfl) (fun s v h => by cases h <;> exact ⟨rfl, rfl⟩) rfl (by decide)) (by simp only [upd, zaa, za]; exact rfl) ?_
  refine zae ?_
  refine zaf ?_
  refine zad ?_
  refine zab rfl rfl rfl (op_mkf rfl en (ec (ev1 rfl) en)) ?_
  refine zab rfl rfl rfl (zac (.inr rfl) (ev1 rfl)) ?_
  refine zae ?_
  refine zao ?_
  refine kend [0] (rs1 rfl (rv_t rfl)) rfl rfl ?_ ⟨rfl, trivial⟩
  rfl
theorem pts_wd (s : Sp) : s.pts.length = s.wd := by unfold Sp.pts; simp
theorem pts_add {s : Sp} {k : Nat} (hk : k < s.wd) : s.pts.take (k + 1) = s.pts.take k ++ [⟨s.f + (k : Int), s.y⟩] := by
  rw [List.take_succ_eq_append_getElem (by rw [pts_wd]; exact hk)]
  congr 1
  unfold Sp.pts
  simp
theorem ptsS_add {l : List Sp} {i : Nat} (hi : i < l.length) : ptsS (l.take (i + 1)) = ptsS (l.take i) ++ l[i].pts := by
  unfold ptsS
  rw [List.take_succ_eq_append_getElem hi, List.flatMap_append]
  simp
end Go.Proofs.Ytfnhckildfbikaa
namespace Go.Proofs.Ytfnhckildfbikaa
set_option maxRecDepth 4000
set_option linter.unusedVariables false
set_option linter.unusedSimpArgs false
open Go.RowKit
theorem fl53 : fdL Try.prog 53 = some [(0, 1), (1, 1), (2, 1)] := by kernel_rfl
theorem fieldN_len (w k : Nat) (X Y : Int) : (fieldN w k X Y).length = k := by unfold fieldN; simp
theorem row_set2 {out : List Sp} {p : P2} (h : opnS out p = true) : out.set (out.length - 1) ⟨(lastS out).y, (lastS out).f, p.x⟩ = mergeS out (pt1 p) := by
  obtain ⟨l, a, rfl, h1, h2⟩ := opn_last h
  rw [merge_open ⟨h1, h2⟩, lastS_app]
  simp
end Go.Proofs.Ytfnhckildfbikaa
namespace Go.Proofs.Ytfnhckildfbikaa
set_option maxRecDepth 4000
set_option linter.unusedVariables false
set_option linter.unusedSimpArgs false
open Go.RowKit
def tsRng (ts : List TL) : Prop := ∀ t ∈ ts, ∀ c ∈ t.l, c.rng
theorem tl_rng {t : TL} (h : ∀ c ∈ t.l, c.rng) (q : Nat) : (t.get q).rng := by
  unfold TL.get
  rw [List.getD_eq_getElem?_getD]
  by_cases hq : q < t.l.length
  · rw [List.getElem?_eq_getElem hq]; exact h _ (List.getElem_mem hq)
  · rw [List.getElem?_eq_none (by omega)]; exact zC4_rng
theorem getC_rng {ts : List TL} (h : tsRng ts) (w x y : Int) : (getC w ts x y).rng := by
  unfold getC
  refine tl_rng (fun c hc => ?_) _
  rw [List.getD_eq_getElem?_getD] at hc
  by_cases hp : plN w x y < ts.length
  · rw [List.getElem?_eq_getElem hp] at hc; exact h _ (List.getElem_mem hp) c hc
  · rw [List.getElem?_eq_none (by omega)] at hc
    have : c ∈ zT.l := hc
    rw [show c = zC4 from List.eq_of_mem_replicate this]
    exact zC4_rng
theorem putC_rng {w h : Int} {ts : List TL} {d : Dt} (ht : tsRng ts) (hd : d.c.rng) : tsRng (putC w h ts d) := by
  unfold putC
  split
  · intro t hm c hc
    obtain ⟨i, hi, rfl⟩ := List.getElem_of_mem hm
    by_cases e : plN w d.x d.y = i
    · subst e
      rw [List.getElem_set_self] at hc
      unfold TL.set at hc
      rcases List.mem_or_eq_of_mem_set hc with hc | rfl
      · rw [List.length_set] at hi
        rw [tl_at hi] at hc
        exact ht _ (List.getElem_mem hi) c hc
      · exact hd
    · rw [List.getElem_set_ne e] at hc
      exact ht _ (List.getElem_mem _) c hc
  · exact ht
theorem putsC_rng {w h : Int} : ∀ (l : List Dt) {ts : List TL}, tsRng ts → (∀ d ∈ l, d.c.rng) → tsRng (putsC w h ts l)
  | [], _, ht, _ => ht
  | d :: l, _, ht, hd => by
    rw [putsC, List.foldl_cons]
    exact putsC_rng l (putC_rng ht (hd d (by simp))) fun e he => hd e (List.mem_cons_of_mem _ he)
end Go.Proofs.Ytfnhckildfbikaa
namespace Go.Proofs.Ytfnhckildfbikaa
set_option maxRecDepth 4000
set_option linter.unusedVariables false
set_option linter.unusedSimpArgs false
open Go.RowKit
theorem aw161 : arW Try.prog 161 = some 4 := by kernel_rfl
theorem eq27 {a b : C4} : eqT Try.prog 9 27 (c4 a) (c4 b) = some (decide (a = b)) := by
  rw [← eqC_iff]
  exact (show eqT Try.prog 9 27 [.int .u8 a.r, .int .u8 a.g, .int .u8 a.b, .int .u8 a.a] [.int .u8 b.r, .int .u8 b.g, .int .u8 b.b, .int .u8 b.a] = some (eqC a b) by kernel_rfl)
theorem gd27 : Try.prog.eqGuardType Try.prog.depth 27 = false := by kernel_rfl
theorem kn3 : knd Try.prog 3 = some .i64 := by kernel_rfl
theorem ty5 : (tyB Try.prog 5).isSome = true := by kernel_rfl
def farC (a b : C4) : Int := (max a.r b.r - min a.r b.r) + (max a.g b.g - min a.g b.g) + (max a.b b.b - min a.b b.b) + (max a.a b.a - min a.a b.a)
def nearC (tol : Int) (a b : C4) : Bool := decide (farC a b ≤ tol)
theorem farC_self (a : C4) : farC a a = 0 := by unfold farC; omega
theorem Wk.any (d : D) : Wk d .junk := fun _ v _ => .junk v
def prt (u : C4) : Nat → Int
  | 0 => u.r
  | 1 => u.g
  | 2 => u.b
  | _ => u.a
def psum (u o : C4) : Nat → Int
  | 0 => 0
  | i + 1 => psum u o i + (max (prt u i) (prt o i) - min (prt u i) (prt o i))
theorem psum_succ (u o : C4) (i : Nat) : psum u o (i + 1) = psum u o i + (max (prt u i) (prt o i) - min (prt u i) (prt o i)) := rfl
theorem psum_four (u o : C4) : psum u o 4 = farC u o := by
  show 0 + (max u.r o.r - min u.r o.r) + (max u.g o.g - min u.g o.g) + (max u.b o.b - min u.b o.b) + (max u.a o.a - min u.a o.a) = _
  unfold farC
  omega
theorem psum_nn (u o : C4) : ∀ i, 0 ≤ psum u o i ∧ psum u o i ≤ psum u o (i + 1)
  | 0 => by rw [psum_succ]; show 0 ≤ (0 : Int) ∧ (0 : Int) ≤ 0 + _; omega
  | i + 1 => by
    have := psum_nn u o i
    rw [psum_succ u o (i + 1)]
    omega
theorem prt_rng {u : C4} (h : u.rng) (i : Nat) : 0 ≤ prt u i ∧ prt u i ≤ 255 := by
  obtain ⟨h1, h2, h3, h4⟩ := h
  unfold prt
  split <;> assumption
theorem c4_prt (u : C4) {i : Nat} (h : i < 4) : (c4 u)[i]? = some (.int .u8 (prt u i)) := by
  match i, h with
  | 0, _ => rfl
  | 1, _ => rfl
  | 2, _ => rfl
  | 3, _ => rfl
theorem c4_prtD (u : C4) {i : Nat} (h : i < 4) : ((c4 u).map D.val)[i]? = some (.val (.int .u8 (prt u i))) := by rw [List.getElem?_map, c4_prt u h]; rfl
theorem psum_bd {u o : C4} (hu : u.rng) (ho : o.rng) : ∀ i : Nat, psum u o i ≤ 255 * (i : Int)
  | 0 => by show (0 : Int) ≤ _; omega
  | i + 1 => by
    have h1 := psum_bd hu ho i
    have h2 := prt_rng hu i
    have h3 := prt_rng ho i
    rw [psum_succ]
    omega
def fupS (u o : C4) (tol : Int) : Int := if tol < psum u o 1 then psum u o 1 else if tol < psum u o 2 then psum u o 2 else if tol < psum u o 3 then psum u o 3 else psum u o 4
theorem psum_mono (u o : C4) : ∀ (i j : Nat), psum u o i ≤ psum u o (i + j)
  | i, 0 => Int.le_refl _
  | i, j + 1 => Int.le_trans (psum_mono u o i j) (psum_nn u o (i + j)).2
theorem fup_at {u o : C4} {tol : Int} {i : Nat} (hi : i < 4) (h1 : psum u o i ≤ tol) (h2 : tol < psum u o (i + 1)) : fupS u o tol = psum u o (i + 1) := by
  unfold fupS
  have m1 := psum_mono u o 1
  have m2 := psum_mono u o 2
  match i, hi with
  | 0, _ => rw [if_pos h2]
  | 1, _ => rw [if_neg (by omega), if_pos h2]
  | 2, _ => have := m1 1; rw [if_neg (by simp only [Nat.reduceAdd] at this; omega), if_neg (by omega), if_pos h2]
  | 3, _ =>
    have a1 := m1 2
    have a2 := m2 1
    simp only [Nat.reduceAdd] at a1 a2
    rw [if_neg (by omega), if_neg (by omega), if_neg (by omega)]
theorem fup_end {u o : C4} {tol : Int} (h : psum u o 4 ≤ tol) : fupS u o tol = psum u o 4 := by
  unfold fupS
  have a1 := psum_mono u o 1 3
  have a2 := psum_mono u o 2 2
  have a3 := psum_mono u o 3 1
  simp only [Nat.reduceAdd] at a1 a2 a3
  rw [if_neg (by omega), if_neg (by omega), if_neg (by omega)]
theorem fup_near (u o : C4) (tol : Int) : decide (fupS u o tol ≤ tol) = nearC tol u o := by
  unfold nearC
  rw [← psum_four, Bool.eq_iff_iff, decide_eq_true_eq, decide_eq_true_eq]
  have a1 := psum_mono u o 1 3
  have a2 := psum_mono u o 2 2
  have a3 := psum_mono u o 3 1
  simp only [Nat.reduceAdd] at a1 a2 a3
  unfold fupS
  split
  · omega
  · split
    · omega
    · split <;> omega
theorem near_self {tol : Int} (h : 0 ≤ tol) (u : C4) : nearC tol u u = true := by unfold nearC; rw [farC_self]; simpa using h
set_option maxRecDepth 4000 in
set_option maxHeartbeats 1000000 in
theorem ptold_d (u : C4) : DFun Try.prog 100 [.val (.agg #[.int .u8 u.r, .int .u8 u.g, .int .u8 u.b, .int .u8 u.a])] [] (.fn (.func 101) [] [.loc 0 0]) [.flat 161 (c4 u)] := by
  refine zan (N := 4) 0 (by kernel_rfl) Try.func100 rfl rfl rfl (by simp only [fr0, Nat.zero_add, Nat.reduceAdd]; exact rfl) rfl fun s0 hs0 => ?_
  refine zaf ?_
  refine zai 1 (by simp only [holes, List.cons_append, List.nil_append]; exact rfl) ?_
  refine zad ?_
  refine zaj rfl rfl rfl (op_boxa 0 rfl (ev1 rfl) rfl) (by simp only [upd, zaa, za]; exact rfl) ?_
  refine zab rfl rfl rfl (zac (.inr rfl) (ev1 rfl)) ?_
  refine zae ?_
  refine zaf ?_
  refine zad ?_
  refine zab rfl rfl rfl (op_mkf rfl en (ec (ev1 rfl) en)) ?_
  refine zab rfl rfl rfl (zac (.inr rfl) (ev1 rfl)) ?_
  refine zae ?_
  refine zao ?_
  refine kend [0] (rs1 rfl (rv_t rfl)) rfl rfl ?_ ⟨rfl, trivial⟩
  rfl
noncomputable def fupA : Code := rfA (pth [1, 0, 1, 1, 1, 1, 0, 1, 0] (bodyOf Try.f95))
noncomputable def fupB : Code := rfB (pth [1, 0, 1, 1, 1, 1, 0, 1, 0] (bodyOf Try.f95))
set_option maxRecDepth 4000 in
set_option maxHeartbeats 1000000 in
theorem fupRound_y (u o : C4) (hu : u.rng) (ho : o.rng) (tol : Int) (ht : 0 ≤ tol) (i : Nat) (hi : i < 4) (hs :  psum u o (i + 1) ≤ tol) : DRound Try.prog 0 [.val (.int .i64 (i : Int)), .val (.int .u8 (prt u i))] [.lp 48 [(5, .loc 1 0), (8, .loc 2 0), (9, .loc 3 0)] #[22, 23] fupA fupB .ready none, .flat 3 [.int .i64 tol], .flat 3 [.int .i64 (psum u o i)], .flat 161 (c4 o)] true [.lp 48 [(5, .loc 1 0), (8, .loc 2 0), (9, .loc 3 0)] #[22, 23] fupA fupB .ready none, .flat 3 [.int .i64 tol], .flat 3 [.int .i64 (psum u o (i + 1))], .flat 161 (c4 o)] := by
  have h1 := prt_rng hu i
  have h2 := prt_rng ho i
  have h3 := psum_nn u o i
  have h4 := psum_bd hu ho i
  rw [psum_succ] at hs
  refine dround_go 4 rfl rfl (by simp) rfl rfl fun s0 hs0 => ?_
  refine zaf ?_
  refine zad ?_
  refine zab rfl rfl rfl (zac (.inr rfl) (ev1 rfl)) ?_
  refine zae ?_
  refine zad ?_
  refine zab rfl rfl rfl (zac (.inr rfl) (ev1 rfl)) ?_
  refine zae ?_
  refine ⟨rfl, ?_⟩
  simp only [zaa, za]
  refine zal ?_
  refine zaf ?_
  refine dwp_draw [([2], []), ([], []), ([], []), ([], []), ([], []), ([3], []), ([], []), ([], []), ([], []), ([], []), ([], []), ([], []), ([3], []), ([], []), ([], []), ([], []), ([], []), ([2], [2])] mixed (by kernel_rfl) ?_
  refine zag rfl rfl (zam rfl tb3 (ev1 rfl) rfl rfl) ?_
  refine zag rfl rfl (zac (.inl rfl) (ev1 rfl)) ?_
  refine zag rfl rfl (op_conv' ty5 kn3 rfl (ev1 rfl) (fun _ => IntWalk.i64_in _ (by omega))) ?_
  refine zag rfl rfl (zac (.inl rfl) (ev1 rfl)) ?_
  refine zag rfl rfl (op_ixl rfl ar161 (ev1 rfl) (ev1 rfl) (fun _ => by omega)) ?_
  refine zag rfl rfl (zam rfl tb5 (ev1 rfl) rfl (by simpa using c4_prt o hi)) ?_
  refine zag rfl rfl (op_conv' ty5 kn3 rfl (ev1 rfl) (fun _ => IntWalk.i64_in _ (by omega))) ?_
  refine zag rfl rfl (op_max rfl (ev1 rfl) (ev1 rfl)) ?_
  refine zag rfl rfl (zac (.inl rfl) (ev1 rfl)) ?_
  refine zag rfl rfl (op_conv' ty5 kn3 rfl (ev1 rfl) (fun _ => IntWalk.i64_in _ (by omega))) ?_
  refine zag rfl rfl (zac (.inl rfl) (ev1 rfl)) ?_
  refine zag rfl rfl (op_ixl rfl ar161 (ev1 rfl) (ev1 rfl) (fun _ => by omega)) ?_
  refine zag rfl rfl (zam rfl tb5 (ev1 rfl) rfl (by simpa using c4_prt o hi)) ?_
  refine zag rfl rfl (op_conv' ty5 kn3 rfl (ev1 rfl) (fun _ => IntWalk.i64_in _ (by omega))) ?_
  refine zag rfl rfl (op_min rfl (ev1 rfl) (ev1 rfl)) ?_
  refine zag rfl rfl (op_sub' rfl (ev1 rfl) (ev1 rfl) (fun _ => IntWalk.i64_in _ (by omega))) ?_
  refine zag rfl rfl (op_add' rfl (ev1 rfl) (ev1 rfl) (fun _ => IntWalk.i64_in _ (by omega))) ?_
  refine lex_s rfl rfl (op_stwi rfl tb3 (ev1 rfl) (ev1 rfl) rfl) rfl (by simp only [upd, zaa, za]; exact rfl) ?_
  refine lex_nil ?_
  refine zaf ?_
  refine zad ?_
  refine zab rfl rfl rfl (zam rfl tb3 (ev1 rfl) rfl rfl) ?_
  refine zab rfl rfl rfl (zam rfl tb3 (ev1 rfl) rfl rfl) ?_
  refine zab rfl rfl rfl (op_gtr rfl (ev1 rfl) (ev1 rfl)) ?_
  refine zae ?_
  refine dwp_if_f rfl (by simpa using hs) ?_
  refine zak ?_
  refine ⟨by first | rfl | assumption | simp_all, rfl, [0, 1, 2, 3], rfl, ⟨rfl, rfl, rfl, rfl, trivial⟩⟩
set_option maxRecDepth 4000 in
set_option maxHeartbeats 1000000 in
theorem fupRound_n (u o : C4) (hu : u.rng) (ho : o.rng) (tol : Int) (ht : 0 ≤ tol) (i : Nat) (hi : i < 4) (hs : ¬ psum u o (i + 1) ≤ tol) : DRound Try.prog 0 [.val (.int .i64 (i : Int)), .val (.int .u8 (prt u i))] [.lp 48 [(5, .loc 1 0), (8, .loc 2 0), (9, .loc 3 0)] #[22, 23] fupA fupB .ready none, .flat 3 [.int .i64 tol], .flat 3 [.int .i64 (psum u o i)], .flat 161 (c4 o)] false [.lp 48 [(5, .loc 1 0), (8, .loc 2 0), (9, .loc 3 0)] #[22, 23] fupA fupB .done (some (.exit 0)), .flat 3 [.int .i64 tol], .flat 3 [.int .i64 (psum u o (i + 1))], .flat 161 (c4 o)] := by
  have h1 := prt_rng hu i
  have h2 := prt_rng ho i
  have h3 := psum_nn u o i
  have h4 := psum_bd hu ho i
  rw [psum_succ] at hs
  refine dround_go 4 rfl rfl (by simp) rfl rfl fun s0 hs0 => ?_
  refine zaf ?_
  refine zad ?_
  refine zab rfl rfl rfl (zac (.inr rfl) (ev1 rfl)) ?_
  refine zae ?_
  refine zad ?_
  refine zab rfl rfl rfl (zac (.inr rfl) (ev1 rfl)) ?_
  refine zae ?_
  refine ⟨rfl, ?_⟩
  simp only [zaa, za]
  refine zal ?_
  refine zaf ?_
  refine dwp_draw [([2], []), ([], []), ([], []), ([], []), ([], []), ([3], []), ([], []), ([], []), ([], []), ([], []), ([], []), ([], []), ([3], []), ([], []), ([], []), ([], []), ([], []), ([2], [2])] mixed (by kernel_rfl) ?_
  refine zag rfl rfl (zam rfl tb3 (ev1 rfl) rfl rfl) ?_
  refine zag rfl rfl (zac (.inl rfl) (ev1 rfl)) ?_
  refine zag rfl rfl (op_conv' ty5 kn3 rfl (ev1 rfl) (fun _ => IntWalk.i64_in _ (by omega))) ?_
  refine zag rfl rfl (zac (.inl rfl) (ev1 rfl)) ?_
  refine zag rfl rfl (op_ixl rfl ar161 (ev1 rfl) (ev1 rfl) (fun _ => by omega)) ?_
  refine zag rfl rfl (zam rfl tb5 (ev1 rfl) rfl (by simpa using c4_prt o hi)) ?_
  refine zag rfl rfl (op_conv' ty5 kn3 rfl (ev1 rfl) (fun _ => IntWalk.i64_in _ (by omega))) ?_
  refine zag rfl rfl (op_max rfl (ev1 rfl) (ev1 rfl)) ?_
  refine zag rfl rfl (zac (.inl rfl) (ev1 rfl)) ?_
  refine zag rfl rfl (op_conv' ty5 kn3 rfl (ev1 rfl) (fun _ => IntWalk.i64_in _ (by omega))) ?_
  refine zag rfl rfl (zac (.inl rfl) (ev1 rfl)) ?_
  refine zag rfl rfl (op_ixl rfl ar161 (ev1 rfl) (ev1 rfl) (fun _ => by omega)) ?_
  refine zag rfl rfl (zam rfl tb5 (ev1 rfl) rfl (by simpa using c4_prt o hi)) ?_
  refine zag rfl rfl (op_conv' ty5 kn3 rfl (ev1 rfl) (fun _ => IntWalk.i64_in _ (by omega))) ?_
  refine zag rfl rfl (op_min rfl (ev1 rfl) (ev1 rfl)) ?_
  refine zag rfl rfl (op_sub' rfl (ev1 rfl) (ev1 rfl) (fun _ => IntWalk.i64_in _ (by omega))) ?_
  refine zag rfl rfl (op_add' rfl (ev1 rfl) (ev1 rfl) (fun _ => IntWalk.i64_in _ (by omega))) ?_
  refine lex_s rfl rfl (op_stwi rfl tb3 (ev1 rfl) (ev1 rfl) rfl) rfl (by simp only [upd, zaa, za]; exact rfl) ?_
  refine lex_nil ?_
  refine zaf ?_
  refine zad ?_
  refine zab rfl rfl rfl (zam rfl tb3 (ev1 rfl) rfl rfl) ?_
  refine zab rfl rfl rfl (zam rfl tb3 (ev1 rfl) rfl rfl) ?_
  refine zab rfl rfl rfl (op_gtr rfl (ev1 rfl) (ev1 rfl)) ?_
  refine zae ?_
  refine dwp_if_t rfl (by simpa using hs) ?_
  refine dwp_exit ?_
  refine ⟨by first | rfl | assumption | simp_all, rfl, [0, 1, 2, 3], rfl, ⟨rfl, rfl, rfl, rfl, trivial⟩⟩
theorem fupRound (u o : C4) (hu : u.rng) (ho : o.rng) (tol : Int) (ht : 0 ≤ tol) (i : Nat) (hi : i < 4) : DRound Try.prog 0 [.val (.int .i64 (i : Int)), .val (.int .u8 (prt u i))] [.lp 48 [(5, .loc 1 0), (8, .loc 2 0), (9, .loc 3 0)] #[22, 23] fupA fupB .ready none, .flat 3 [.int .i64 tol], .flat 3 [.int .i64 (psum u o i)], .flat 161 (c4 o)] (decide (psum u o (i + 1) ≤ tol)) [.lp 48 [(5, .loc 1 0), (8, .loc 2 0), (9, .loc 3 0)] #[22, 23] fupA fupB (rst (decide (psum u o (i + 1) ≤ tol))) (rpe (.exit 0) (decide (psum u o (i + 1) ≤ tol))), .flat 3 [.int .i64 tol], .flat 3 [.int .i64 (psum u o (i + 1))], .flat 161 (c4 o)] := by
  by_cases h : psum u o (i + 1) ≤ tol
  · rw [decide_eq_true h]; exact fupRound_y u o hu ho tol ht i hi h
  · rw [decide_eq_false h]; exact fupRound_n u o hu ho tol ht i hi h
set_option maxRecDepth 4000 in
set_option maxHeartbeats 1000000 in
theorem ptolds_d (u o : C4) (hu : u.rng) (ho : o.rng) (tol : Int) (ht : 0 ≤ tol) : DFun Try.prog 101 [.yld 0, .loc 4 0] [.lp 48 [(5, .loc 1 0), (8, .loc 2 0), (9, .loc 3 0)] #[22, 23] fupA fupB .ready none, .flat 3 [.int .i64 tol], .flat 3 [.int .i64 0], .flat 161 (c4 o), .flat 161 (c4 u)] (.tup []) [.lp 48 [(5, .loc 1 0), (8, .loc 2 0), (9, .loc 3 0)] #[22, 23] fupA fupB (rst (nearC tol u o)) (rpe (.exit 0) (nearC tol u o)), .flat 3 [.int .i64 tol], .flat 3 [.int .i64 (fupS u o tol)], .flat 161 (c4 o), .flat 161 (c4 u)] := by
  refine zan (N := 16) 5 (by kernel_rfl) Try.func101 rfl rfl rfl (by simp only [fr0, Nat.zero_add, Nat.reduceAdd]; exact rfl) rfl fun s0 hs0 => ?_
  refine zaf ?_
  refine zad ?_
  refine zab rfl rfl rfl ((op_ldw rfl tb161 (ev1 rfl) rfl rfl).wk (Wk.vagg _)) ?_
  refine zab rfl rfl rfl (zac (.inl rfl) (ev1 rfl)) ?_
  refine zae ?_
  refine zal ?_
  refine dwp_loopS ⟨hs0, rfl⟩ (α := Nat) (fun i => [(6, .val (.int .i64 (i : Int)))]) [(0, _), (5, _)] (fun i => [(2, .flat 3 [.int .i64 (psum u o i)])]) [_, _, .hole, _, _] (fun i => i ≤ 4 ∧ psum u o i ≤ tol) (fun i => 4 - i) 0 [0, 1, 2, 3, 4] (⟨by omega, ht⟩) rfl ⟨rfl, rfl, trivial⟩ ⟨rfl, trivial⟩ ⟨rfl, rfl, rfl, rfl, rfl, trivial⟩ ?_
  intro i hx
  simp only [upd, zaa, za, List.cons_append, List.nil_append]
  obtain ⟨hi0, hle⟩ := hx
  refine zaf ?_
  refine zad ?_
  refine zab rfl rfl rfl (op_lss rfl (ev1 rfl) (ev1 rfl)) ?_
  refine zae ?_
  refine zaf ?_
  refine dwp_cond rfl (fun c1 => ?_) (fun c1 => ?_)
  · try simp only [decide_eq_true_eq, decide_eq_false_iff_not, beq_iff_eq, bne_iff_ne, beq_eq_false_iff_ne, bne_eq_false_iff_eq, Bool.not_eq_true', Bool.not_eq_false', Bool.and_eq_true, Bool.or_eq_true, Bool.or_eq_false_iff, ne_eq, Decidable.not_not, Int.not_lt, Int.not_le] at c1
    refine zak ?_
    refine zaf ?_
    refine zal ?_
    refine zaf ?_
    have hi : i < 4 := by omega
    refine zad ?_
    refine zab rfl rfl rfl (zac (.inl rfl) (ev1 rfl)) ?_
    refine zab rfl rfl rfl (op_ixw (i) rfl aw161 (ev1 rfl) (ev1 rfl) (fun _ => by omega) ((by omega)) ((c4_prtD u hi))) ?_
    refine zab rfl rfl rfl (zac (.inr rfl) (ev1 rfl)) ?_
    refine zab rfl rfl rfl (zac (.inr rfl) (ev1 rfl)) ?_
    refine zae ?_
    refine zaf ?_
    refine zad ?_
    refine zab rfl rfl rfl (zac (.inl rfl) (ev1 rfl)) ?_
    refine zab rfl rfl rfl (zac (.inl rfl) (ev1 rfl)) ?_
    refine zab rfl rfl rfl (zac (.inl rfl) (ev1 rfl)) ?_
    refine zaj rfl rfl rfl (op_y (i := 0) [0, 1, 2, 3] [] [] rfl (ev1 rfl) (ec (ev1 rfl) (ec (ev1 rfl) en)) rfl rfl rfl (fupRound u o hu ho tol ht i hi) rfl rfl rfl rfl rfl) (by simp only [upd, zaa, za]; exact rfl) ?_
    refine zab rfl rfl rfl (op_not rfl (ev1 rfl)) ?_
    refine zae ?_
    refine dwp_cond rfl (fun c3 => ?_) (fun c3 => ?_)
    · have e1 : decide (psum u o (i + 1) ≤ tol) = false := by simpa using c3
      refine zao ?_
      have e3 : tol < psum u o (i + 1) := by simpa using e1
      have e4 := fup_at hi hle e3
      have e2 : nearC tol u o = false := by rw [← fup_near, e4]; exact e1
      rw [e2, e1, e4]
      refine kend [0, 1, 2, 3, 4] (res_none rfl) rfl rfl ?_ ⟨rfl, rfl, rfl, rfl, rfl, trivial⟩
      rfl
    · have e1 : decide (psum u o (i + 1) ≤ tol) = true := by simpa using c3
      refine zak ?_
      refine zad ?_
      refine zab rfl rfl rfl (op_add' rfl (ev1 rfl) (ev1 rfl) (fun _ => IntWalk.i64_in _ (by omega))) ?_
      refine zab rfl rfl rfl (zac (.inl rfl) (ev1 rfl)) ?_
      refine zae ?_
      rw [e1]
      refine ⟨i + 1, [0, 1, 2, 3, 4], ⟨by omega, by simpa using e1⟩, by simp only []; omega, rfl, ⟨rfl, rfl, rfl, trivial⟩, ⟨rfl, rfl, rfl, rfl, rfl, trivial⟩⟩
  · try simp only [decide_eq_true_eq, decide_eq_false_iff_not, beq_iff_eq, bne_iff_ne, beq_eq_false_iff_ne, bne_eq_false_iff_eq, Bool.not_eq_true', Bool.not_eq_false', Bool.and_eq_true, Bool.or_eq_true, Bool.or_eq_false_iff, ne_eq, Decidable.not_not, Int.not_lt, Int.not_le] at c1
    refine dwp_exit ?_
    obtain rfl : i = 4 := by omega
    have e4 := fup_end hle
    have e2 : nearC tol u o = true := by rw [← fup_near, e4]; simpa using hle
    rw [e2, e4]
    refine kend [0, 1, 2, 3, 4] (res_none rfl) rfl rfl ?_ ⟨rfl, rfl, rfl, rfl, rfl, trivial⟩
    rfl
set_option maxRecDepth 4000 in
set_option maxHeartbeats 1000000 in
theorem fup_d (u o : C4) (hu : u.rng) (ho : o.rng) (tol : Int) (ht : 0 ≤ tol) : DFun Try.prog 95 [.val (.agg (c4 u).toArray), .val (.agg (c4 o).toArray), .val (.int .i64 tol)] [] (.tup [.val (.int .i64 (if u = o then 0 else fupS u o tol)), .val (.bool (nearC tol u o))]) [] := by
  refine zan (N := 48) 0 (by kernel_rfl) Try.func95 rfl rfl rfl (by simp only [fr0, Nat.zero_add, Nat.reduceAdd]; exact rfl) rfl fun s0 hs0 => ?_
  refine zaf ?_
  refine zai 3 (by simp only [holes, List.cons_append, List.nil_append]; exact rfl) ?_
  refine zad ?_
  refine zaj rfl rfl rfl (op_boxa 0 rfl (ev1 rfl) rfl) (by simp only [upd, zaa, za]; exact rfl) ?_
  refine zaj rfl rfl rfl (op_boxa 1 rfl (ev1 rfl) rfl) (by simp only [upd, zaa, za]; exact rfl) ?_
  refine zaj rfl rfl rfl (op_boxi 2 rfl (ev1 rfl) rfl) (by simp only [upd, zaa, za]; exact rfl) ?_
  refine zab rfl rfl rfl (zac (.inr rfl) (ev1 rfl)) ?_
  refine zab rfl rfl rfl (zac (.inr rfl) (ev1 rfl)) ?_
  refine zae ?_
  refine dwp_scope ?_
  refine zaf ?_
  refine zaf ?_
  refine zad ?_
  refine zab rfl rfl rfl (op_ldw rfl tb27 (ev1 rfl) rfl rfl) ?_
  refine zab rfl rfl rfl (op_ldw rfl tb27 (ev1 rfl) rfl rfl) ?_
  refine zab rfl rfl rfl (op_eqr eq27 rfl gd27 tb27 (ev1 rfl) (ev1 rfl)) ?_
  refine zae ?_
  refine dwp_cond rfl (fun c1 => ?_) (fun c1 => ?_)
  · have e0 : u = o := by simpa using c1
    refine zaf ?_
    refine dwp_draw [([2], []), ([], []), ([], []), ([], [])] mixed (by kernel_rfl) ?_
    refine zag rfl rfl (zam rfl tb3 (ev1 rfl) rfl rfl) ?_
    refine zag rfl rfl (op_geq rfl (ev1 rfl) (ev1 rfl)) ?_
    refine zag rfl rfl (zac (.inr rfl) (ev1 rfl)) ?_
    refine zag rfl rfl (zac (.inr rfl) (ev1 rfl)) ?_
    refine lex_nil ?_
    refine zao ?_
    refine kend0 (rs2 rfl (rv_t rfl) (rv_t rfl)) rfl ?_
    subst e0
    rw [if_pos rfl, near_self ht]
    simp [ht]
  · have e0 : ¬ u = o := by simpa using c1
    refine zak ?_
    refine zaf ?_
    refine zai 1 (by simp only [holes, List.cons_append, List.nil_append]; exact rfl) ?_
    refine zad ?_
    refine zaj rfl rfl rfl (op_alloc 3 rfl zr3 rfl) (by simp only [upd, zaa, za]; exact rfl) ?_
    refine walk_s rfl rfl (op_stwi rfl tb3 (ev1 rfl) (ev1 rfl) rfl) (by simp only [upd, zaa, za]; exact rfl) ?_
    refine zae ?_
    refine zaf ?_
    refine zai 1 (by simp only [holes, List.cons_append, List.nil_append]; exact rfl) ?_
    refine zad ?_
    refine zab rfl rfl rfl (op_ldw rfl tb27 (ev1 rfl) rfl rfl) ?_
    refine zab rfl rfl rfl (zah [] [] [] rfl (ev1 rfl) (ec (ev1 rfl) en) rfl rfl (partsOf_d o) rfl rfl rfl rfl rfl rfl) ?_
    refine zaj rfl rfl rfl (op_alloc 4 rfl zr161 rfl) (by simp only [upd, zaa, za]; exact rfl) ?_
    refine walk_s rfl rfl (op_stwa rfl tb161 (ev1 rfl) (ev1 rfl) rfl rfl rfl rfl) (by simp only [upd, zaa, za]; exact rfl) ?_
    refine zae ?_
    refine zaf ?_
    refine dwp_label ?_
    refine zaf ?_
    refine zaf ?_
    refine zai 1 (by simp only [holes, List.cons_append, List.nil_append]; exact rfl) ?_
    refine zad ?_
    refine zab rfl rfl rfl (op_ldw rfl tb27 (ev1 rfl) rfl rfl) ?_
    refine zab rfl rfl rfl (zah [] [] [] rfl (ev1 rfl) (ec (ev1 rfl) en) rfl rfl (partsOf_d u) rfl rfl rfl rfl rfl rfl) ?_
    refine zaj rfl rfl rfl (zah [] [] [5] rfl (ev1 rfl) (ec (ev1 rfl) en) rfl rfl (ptold_d u) rfl rfl rfl rfl rfl rfl) (by simp only [upd, zaa, za]; exact rfl) ?_
    refine zae ?_
    refine zal ?_
    refine dwp_hole ?_
    simp only [List.cons_append, List.nil_append]
    refine dwp_rf (FL := [(5, _), (8, _), (9, _)]) (st := (rst (nearC tol u o))) (pe := (rpe (.exit 0) (nearC tol u o))) [6, 2, 3, 4, 5] [] [] 6 rfl rfl (ev1 rfl) rfl (subF_lk ⟨rfl, rfl, rfl, trivial⟩) rfl rfl rfl (ptolds_d u o hu ho tol ht) rfl rfl rfl rfl rfl rfl rfl (rst_busy _) (fun e => ?_) (fun c e => ?_)
    · simp only [upd, zaa, za]
      refine zaf ?_
      refine dwp_draw [([3], []), ([3], []), ([2], []), ([], []), ([], []), ([], [])] mixed (by kernel_rfl) ?_
      refine zag rfl rfl (zam rfl tb3 (ev1 rfl) rfl rfl) ?_
      refine zag rfl rfl (zam rfl tb3 (ev1 rfl) rfl rfl) ?_
      refine zag rfl rfl (zam rfl tb3 (ev1 rfl) rfl rfl) ?_
      refine zag rfl rfl (op_leq rfl (ev1 rfl) (ev1 rfl)) ?_
      refine zag rfl rfl (zac (.inr rfl) (ev1 rfl)) ?_
      refine zag rfl rfl (zac (.inr rfl) (ev1 rfl)) ?_
      refine lex_nil ?_
      refine zao ?_
      refine kend0 (rs2 rfl (rv_t rfl) (rv_t rfl)) rfl ?_
      rw [if_neg e0, fup_near]
    · obtain ⟨e1, rfl⟩ : nearC tol u o = false ∧ c = .exit 0 := by
        cases h : nearC tol u o <;> simp_all [rpe]
      simp only [upd, zaa, za]
      refine dwp_exit ?_
      refine zaf ?_
      refine dwp_draw [([3], []), ([3], []), ([2], []), ([], []), ([], []), ([], [])] mixed (by kernel_rfl) ?_
      refine zag rfl rfl (zam rfl tb3 (ev1 rfl) rfl rfl) ?_
      refine zag rfl rfl (zam rfl tb3 (ev1 rfl) rfl rfl) ?_
      refine zag rfl rfl (zam rfl tb3 (ev1 rfl) rfl rfl) ?_
      refine zag rfl rfl (op_leq rfl (ev1 rfl) (ev1 rfl)) ?_
      refine zag rfl rfl (zac (.inr rfl) (ev1 rfl)) ?_
      refine zag rfl rfl (zac (.inr rfl) (ev1 rfl)) ?_
      refine lex_nil ?_
      refine zao ?_
      refine kend0 (rs2 rfl (rv_t rfl) (rv_t rfl)) rfl ?_
      rw [if_neg e0, fup_near]
set_option maxRecDepth 4000 in
set_option maxHeartbeats 1000000 in
theorem near_d (u o : C4) (hu : u.rng) (ho : o.rng) (tol : Int) (ht : 0 ≤ tol) : DFun Try.prog 79 [.val (.agg (c4 u).toArray), .val (.agg (c4 o).toArray), .val (.int .i64 tol)] [] (.val (.bool (nearC tol u o))) [] := by
  refine zan (N := 17) 0 (by kernel_rfl) Try.func79 rfl rfl rfl (by simp only [fr0, Nat.zero_add, Nat.reduceAdd]; exact rfl) rfl fun s0 hs0 => ?_
  refine zaf ?_
  refine zai 2 (by simp only [holes, List.cons_append, List.nil_append]; exact rfl) ?_
  refine zad ?_
  refine zaj rfl rfl rfl (op_boxa 0 rfl (ev1 rfl) rfl) (by simp only [upd, zaa, za]; exact rfl) ?_
  refine zaj rfl rfl rfl (op_boxa 1 rfl (ev1 rfl) rfl) (by simp only [upd, zaa, za]; exact rfl) ?_
  refine zab rfl rfl rfl (zac (.inr rfl) (ev1 rfl)) ?_
  refine zae ?_
  refine zaf ?_
  refine zad ?_
  refine zab rfl rfl rfl (op_ldw rfl tb27 (ev1 rfl) rfl rfl) ?_
  refine zab rfl rfl rfl (op_ldw rfl tb27 (ev1 rfl) rfl rfl) ?_
  refine zab rfl rfl rfl (zac (.inl rfl) (ev1 rfl)) ?_
  refine zab rfl rfl rfl (zah [] [] [] rfl (ev1 rfl) (ec (ev1 rfl) (ec (ev1 rfl) (ec (ev1 rfl) en))) rfl rfl (fup_d u o hu ho tol ht) rfl rfl rfl rfl rfl rfl) ?_
  refine zab rfl rfl rfl (zac (.inl rfl) (ev1 rfl)) ?_
  refine zab rfl rfl rfl (op_ext rfl (ev1 rfl) rfl) ?_
  refine zab rfl rfl rfl (op_ext rfl (ev1 rfl) rfl) ?_
  refine zab rfl rfl rfl (zac (.inr rfl) (ev1 rfl)) ?_
  refine zab rfl rfl rfl (zac (.inr rfl) (ev1 rfl)) ?_
  refine zae ?_
  refine zaf ?_
  refine zad ?_
  refine zab rfl rfl rfl (zac (.inl rfl) (ev1 rfl)) ?_
  refine zab rfl rfl rfl (zac (.inr rfl) (ev1 rfl)) ?_
  refine zae ?_
  refine zao ?_
  refine kend0 (rs1 rfl (rv_t rfl)) rfl ?_
  rfl
end Go.Proofs.Ytfnhckildfbikaa
namespace Go.Proofs.Ytfnhckildfbikaa
set_option linter.unusedVariables false
set_option linter.unusedSimpArgs false
open Go.RowKit
section
variable {P : Program} {pc : Bool} {o : Oper} {F : Fr} {M : List Blk}
/-- a row of a family whose front may have been cut off, appended to: what comes is a new member -/
theorem op_appFu {T e : TypeId} {sz by' n m f j1 j2 k t t2 : Nat} {Bs : List Mem} {L L2 Z : List Value} (ho : o.op = .call { callee := .builtin .append, args := #[.tmp t, .tmp t2], argTypes := #[T, T] }) (ht : (t == t2) = false) (hT : slE P T = some (e, sz, by')) (hZ : zrC P e = some Z) (hZl : Z.length = sz)
    (hx : Ev pc F (.tmp t) (.farr f k)) (hy : Ev pc F (.tmp t2) (.slf sz m L2)) (hM : M[f]? = some (.fam Bs)) (hB : Bs[k]? = some (.que e sz n L)) (hj1 : M[j1]? = some .hole) (hj2 : M[j2]? = some .hole) (hne : (j1 == j2) = false) (hm0 : 0 < m) (h1 : pc = true → L2.all (·.oneCell') = true) (hbd : pc = true → (n + m) * by' ≤ 140737488355328 ∧ n + m ≤ 140737488355328) :
    DOp P pc o F M [f, j1, j2] (.farr f Bs.length) [(f, .fam (Bs.set k .gone ++ [.que e sz (n + m) (L ++ L2)])), (j1, .gone), (j2, .gone)] := by
  intro hp a s hok hops hfp
  have ht : t ≠ t2 := by simpa using ht
  have hne : j1 ≠ j2 := by simpa using hne
  have hmem : o.op.operands = #[.tmp t, .tmp t2] := by rw [ho]; rfl
  have rx := ev_at hp hx (by rw [hmem]; simp) hops
  have ry := ev_at hp hy (by rw [hmem]; simp) hops
  have hM' : s.M[f]? = some (.fam Bs) := by rw [hfp f (by simp)]; exact hM
  have g1 : s.M[j1]? = some .hole := by rw [hfp j1 (by simp)]; exact hj1
  have g2 : s.M[j2]? = some .hole := by rw [hfp j2 (by simp)]; exact hj2
  have hf1 : f ≠ j1 := fun e => by subst e; rw [hM'] at g1; cases g1
  have hf2 : f ≠ j2 := fun e => by subst e; rw [hM'] at g2; cases g2
  have hfl := (List.getElem?_eq_some_iff.1 hM').1
  have hl1 := (List.getElem?_eq_some_iff.1 g1).1
  have hl2 := (List.getElem?_eq_some_iff.1 g2).1
  generalize hvx : a.eval (.tmp t) = vx at rx
  cases rx with
  | @farr _ _ ad n' c hs q1 q2 =>
    have tt := tr_rel (B := .que e sz n L) hok hM' g1 hB rfl q1 q2
    obtain ⟨s1, e1⟩ : ∃ s1 : St, s1 = ⟨s.β.set j1 (.slice ad n' c), s.I, (s.M.set f (.fam (Bs.set k .gone))).set j1 (.que e sz n L), s.w⟩ := ⟨_, rfl⟩
    have tt : Tr s s1 := by rw [e1]; exact tt
    have hM1 : s1.M = (s.M.set f (.fam (Bs.set k .gone))).set j1 (.que e sz n L) := by rw [e1]
    have hw1 : s1.w = s.w := by rw [e1]
    have hβ1 : s1.β[j1]? = some (.slice ad n' c) := by rw [e1]; show (s.β.set j1 _)[j1]? = _; rw [List.getElem?_set_self (by rw [hok.len]; exact hl1)]
    have m1 : s1.M[j1]? = some (.que e sz n L) := by rw [hM1, List.getElem?_set_self (by simpa using hl1)]
    have m2 : s1.M[j2]? = some .hole := by rw [hM1, List.getElem?_set_ne hne, List.getElem?_set_ne hf2]; exact g2
    have m3 : s1.M[f]? = some (.fam (Bs.set k .gone)) := by rw [hM1, List.getElem?_set_ne (Ne.symm hf1), List.getElem?_set_self hfl]
    have ra : Rep s1 (.arr j1) (a.eval (.tmp t)) := by rw [hvx]; exact .arr hβ1
    have hl : ∀ x ∈ o.op.operands, ∀ d, ev [(t, D.arr j1), (t2, .slf sz m L2)] x = some d → Rep s1 d (a.eval x) := by
      intro x hx' d hd
      rw [hmem] at hx'
      simp at hx'
      rcases hx' with rfl | rfl
      · simp only [ev, lk, Nat.beq_refl, cond_true] at hd
        cases hd
        exact ra
      · have hb : Nat.beq t t2 = false := by
          cases hbb : Nat.beq t t2
          · rfl
          · exact absurd (Nat.eq_of_beq_eq_true hbb) ht
        simp only [ev, lk, hb, Nat.beq_refl, cond_true, cond_false] at hd
        cases hd
        exact ry.mono hok tt
    have hb : Nat.beq t t2 = false := by
      cases hbb : Nat.beq t t2
      · rfl
      · exact absurd (Nat.eq_of_beq_eq_true hbb) ht
    have hD := op_appu (P := P) (pc := true) (F := [(t, D.arr j1), (t2, .slf sz m L2)]) (M := s1.M) (i := j1) (j := j2) (d := .slf sz m L2) (fp := []) ho hT hZ hZl (ev1 (by simp only [ev, lk, Nat.beq_refl, cond_true])) (ev1 (by simp only [ev, lk, hb, Nat.beq_refl, cond_true, cond_false])) src_slf m1 m2 (fun _ => h1 hp) (fun _ => hbd hp) hm0 rfl a s1 tt.ok hl (fun _ _ => rfl)
    rw [hw1] at hD
    refine (DGives.of_tr tt hw1 hD).map fun s' v ho' ⟨u1, u2⟩ => ?_
    have hs'M : s'.M = (s1.M.set j1 .gone).set j2 (.que e sz (n + m) (L ++ L2)) := u1
    have k2 : s'.M[j2]? = some (.que e sz (n + m) (L ++ L2)) := by rw [hs'M, List.getElem?_set_self (by rw [List.length_set, hM1]; simpa using hl2)]
    have k3 : s'.M[f]? = some (.fam (Bs.set k .gone)) := by rw [hs'M, List.getElem?_set_ne (Ne.symm hf2), List.getElem?_set_ne (Ne.symm hf1)]; exact m3
    have hlen' := ho'.len
    have kf := (List.getElem?_eq_some_iff.1 k3).1
    have kj := (List.getElem?_eq_some_iff.1 k2).1
    obtain ⟨x, hx2⟩ : ∃ x, s'.β[f]? = some x := ⟨_, List.getElem?_eq_getElem (by omega)⟩
    obtain ⟨y, hy2⟩ : ∃ y, s'.β[j2]? = some y := ⟨_, List.getElem?_eq_getElem (by omega)⟩
    obtain ⟨hs2, rfl, hfo⟩ := ho'.blk f _ x k3 hx2
    have t3 := tr_abs (B := .que e sz (n + m) (L ++ L2)) ho' k3 k2 rfl hx2 hy2
    refine ⟨⟨s'.β.set f (.tuple (hs2 ++ [y]).toArray), s'.I, (s'.M.set j2 .gone).set f (.fam (Bs.set k .gone ++ [.que e sz (n + m) (L ++ L2)])), s'.w⟩, rfl, t3, ?_, ?_⟩
    · show (s'.M.set j2 .gone).set f _ = ((s.M.set f _).set j1 .gone).set j2 .gone
      rw [hs'M, hM1]
      apply List.ext_getElem?
      intro i
      simp only [List.getElem?_set, List.length_set]
      by_cases a1 : f = i
      · subst a1
        simp [hf1.symm, hf2.symm, hfl]
      · by_cases a2 : j1 = i
        · subst a2
          simp [a1, hne.symm, hl1]
        · by_cases a3 : j2 = i
          · subst a3
            simp [a1, a2, hl2]
          · simp [a1, a2, a3]
    · cases u2 with
      | @arr _ ad' n'' c' hβ =>
        rw [hy2] at hβ
        obtain rfl := Option.some.inj hβ
        refine .farr (hs := hs2 ++ [.slice ad' n'' c']) (by show (s'.β.set f _)[f]? = _; rw [List.getElem?_set_self (by omega)]) ?_
        have : hs2.length = Bs.length := by rw [hfo.len]; simp
        rw [List.getElem?_append_right (by omega), show Bs.length - hs2.length = 0 by omega]
        rfl
theorem op_lenFu {T T' : TypeId} {x : Operand} {q : TypeId × Nat × Nat} {i k sz n : Nat} {Bs : List Mem} {L : List Value} (ho : o.op = .call { callee := .builtin .len, args := #[x], argTypes := #[T] }) (hT : slE P T = some q) (hx : Ev pc F x (.farr i k)) (hM : M[i]? = some (.fam Bs)) (hB : Bs[k]? = some (.que T' sz n L)) : DOp P pc o F M [i] (.val (.int .i64 n)) [] := by
  intro hp a s hok hops hfp
  obtain ⟨e1, _⟩ := slE_spec hT
  have hr := ev_at hp hx (by simp [ho, Op.operands, Call.operands]) hops
  generalize hv : a.eval x = vx at hr
  cases hr with
  | farr h hkk =>
    have hM' : s.M[i]? = some (.fam Bs) := by rw [hfp i (by simp)]; exact hM
    have hk : queRow s.w T' sz _ n L := (fam_at (k := k) hok hM' h).ok k _ _ hB hkk
    refine dg_val hok (run_builtin ho (fun cs => rfl) ?_) (.val (.int .i64 n))
    rcases hk.2 with ⟨e2, e3⟩ | ⟨g, q, c, p, cap, cur, e2, _⟩
    · cases e2; simp [Builtin.len_, hv, run_underlying e1, goInt, e3]
    · cases e2; simp [Builtin.len_, hv, run_underlying e1, goInt]
end
def nv (n : Nat) : D := .val (.int .i64 (n : Int))
def srL (c : D) (ns : List Nat) (q : D) : List D := c :: (ns.map nv ++ [q])
theorem srL_len (c : D) (ns : List Nat) (q : D) : (srL c ns q).length = ns.length + 2 := by simp [srL]
theorem srL_0 {c q : D} {ns : List Nat} {p : Nat} (hp : p = 0) : (srL c ns q)[p]? = some c := by subst hp; rfl
theorem srL_at {c q : D} {ns : List Nat} {k p : Nat} (hp : p = k + 1) (h : k < ns.length) : (srL c ns q)[p]? = some (.val (.int .i64 ((ns.getD k 0 : Nat) : Int))) := by
  subst hp
  rw [srL, List.getElem?_cons_succ, List.getElem?_append_left (by simpa using h), List.getElem?_map, List.getElem?_eq_getElem h, List.getD_eq_getElem?_getD, List.getElem?_eq_getElem h]
  rfl
theorem srL_q {c q : D} {ns : List Nat} {p : Nat} (hp : p = ns.length + 1) : (srL c ns q)[p]? = some q := by
  subst hp
  rw [srL, List.getElem?_cons_succ, List.getElem?_append_right (by simp)]
  simp
theorem srL_set {c q : D} {ns : List Nat} {k p n : Nat} (hp : p = k + 1) (h : k < ns.length) : (srL c ns q).set p (.val (.int .i64 (n : Int))) = srL c (ns.set k n) q := by
  subst hp
  rw [srL, srL, za, List.set_append_left _ _ (by simpa using h), List.map_set]
  rfl
theorem srL_setq {c q q' : D} {ns : List Nat} {p : Nat} (hp : p = ns.length + 1) : (srL c ns q).set p q' = srL c ns q' := by
  subst hp
  rw [srL, srL, za, List.set_append_right _ _ (by simp)]
  simp
theorem vwL_nv {σ : List Nat} {V : Nat → Bool} {M : List Blk} {q q' : D} (hq : vw σ V M q = some q') : ∀ ns : List Nat, vwL σ V M (ns.map nv ++ [q]) = some (ns.map nv ++ [q'])
  | [] => by show vwL σ V M [q] = _; unfold vwL; rw [hq]; rfl
  | n :: ns => by
    rw [List.map_cons, List.cons_append]
    unfold vwL
    rw [vwL_nv hq ns]
    show (match vw σ V M (.val _), some _ with | some d', some l' => some (d' :: l') | _, _ => none) = _
    unfold vw
    rfl
theorem sbL_nv {τ : List Nat} {q q' : D} (hq : sb τ q = some q') : ∀ ns : List Nat, sbL τ (ns.map nv ++ [q]) = some (ns.map nv ++ [q'])
  | [] => by show sbL τ [q] = _; unfold sbL; rw [hq]; rfl
  | n :: ns => by
    rw [List.map_cons, List.cons_append]
    unfold sbL
    rw [sbL_nv hq ns]
    show (match sb τ (.val _), some _ with | some d', some l' => some (d' :: l') | _, _ => none) = _
    unfold sb
    rfl
theorem zap {σ : List Nat} {V : Nat → Bool} {M : List Blk} {T : TypeId} {c c' q q' : D} {ns ns' : List Nat} (hn : ns = ns') (hc : vw σ V M c = some c') (hq : vw σ V M q = some q') : (vwL σ V M (srL c ns q)).map (Blk.mix T) = some (Blk.mix T (srL c' ns' q')) := by
  subst hn
  rw [srL, vwL, hc, vwL_nv hq]
  rfl
theorem sb_srx {τ : List Nat} {T : TypeId} {c c' q q' : D} {ns : List Nat} (hc : sb τ c = some c') (hq : sb τ q = some q') : sbB τ (.mix T (srL c ns q)) = some (.mix T (srL c' ns q')) := by
  show (sbL τ _).map _ = _
  rw [srL, sbL, hc, sbL_nv hq]
  rfl
section
variable {P : Program} {s0 : St} {n : Cx}
/-- a member of a family that a cell names: a row of one's own again -/
theorem inv_relS {F : Fr} {M : List Blk} {a : Act} {w : World} {i f k sz m : Nat} {T e : TypeId} {c : D} {ns : List Nat} {L : List Value} {Bs : List Mem} (h : Inv s0 n F M a w) (hi : M[i]? = some (.mix T (srL c ns (.farr f k)))) (hf : M[f]? = some (.fam Bs)) (hB : Bs[k]? = some (.que e sz m L)) :
    Inv s0 n F (((M ++ [Blk.hole]).set f (.fam (Bs.set k .gone))).set M.length (.que e sz m L) |>.set i (.mix T (srL c ns (.arr M.length)))) a w := by
  obtain ⟨h0, s, rfl, rfl, h3, h4, h5, h6⟩ := h
  have t1 := step_hole h3.ok
  have hlen := h3.ok.len
  have hil := (List.getElem?_eq_some_iff.1 hi).1
  have hfl := (List.getElem?_eq_some_iff.1 hf).1
  have hif : f ≠ i := fun e => by subst e; rw [hi] at hf; cases hf
  obtain ⟨x, hx⟩ : ∃ x, s.β[i]? = some x := ⟨_, List.getElem?_eq_getElem (by omega)⟩
  obtain ⟨y, hy⟩ : ∃ y, s.β[f]? = some y := ⟨_, List.getElem?_eq_getElem (by omega)⟩
  obtain ⟨b, vs, rfl, hb, hl, hr⟩ := h3.ok.blk i _ _ hi hx
  obtain ⟨hs, rfl, hfo⟩ := h3.ok.blk f _ _ hf hy
  obtain ⟨u, hu⟩ : ∃ u, hs[k]? = some u := ⟨_, List.getElem?_eq_getElem (by rw [hfo.len]; exact (List.getElem?_eq_some_iff.1 hB).1)⟩
  have hql : ns.length + 1 < (srL c ns (.farr f k)).length := by rw [srL_len]; omega
  obtain ⟨v, hv⟩ : ∃ v, vs[ns.length + 1]? = some v := ⟨_, List.getElem?_eq_getElem (by rw [hl]; exact hql)⟩
  have hvu : v = u := by
    have := hr _ _ v (srL_q rfl) hv
    cases this with
    | farr q1 q2 =>
      rw [hy] at q1
      simp at q1
      subst q1
      rw [hu] at q2
      exact (Option.some.inj q2).symm
  have hβf1 : (s.β ++ [Value.nilFunc])[f]? = some (.tuple hs.toArray) := by rw [List.getElem?_append_left (by omega)]; exact hy
  have hβi1 : (s.β ++ [Value.nilFunc])[i]? = some (.pointer (some ⟨b, 0, none⟩)) := by rw [List.getElem?_append_left (by omega)]; exact hx
  have hMf1 : (s.M ++ [Blk.hole])[f]? = some (.fam Bs) := by rw [List.getElem?_append_left hfl]; exact hf
  have t2 := tr_rel (s := ⟨s.β ++ [Value.nilFunc], s.I, s.M ++ [Blk.hole], s.w⟩) t1.ok (j := s.M.length) (B := .que e sz m L) hMf1 (by simp) hB rfl hβf1 hu
  have tt := t1.trans t2
  have hMi : (((s.M ++ [Blk.hole]).set f (.fam (Bs.set k .gone))).set s.M.length (Mem.que e sz m L).blk)[i]? = some (.mix T (srL c ns (.farr f k))) := by
    rw [List.getElem?_set_ne (by omega), List.getElem?_set_ne hif, List.getElem?_append_left hil]; exact hi
  have t3 := tr_cell (s := ⟨(s.β ++ [Value.nilFunc]).set s.M.length u, s.I, ((s.M ++ [Blk.hole]).set f (.fam (Bs.set k .gone))).set s.M.length (Mem.que e sz m L).blk, s.w⟩) tt.ok (d' := .arr s.M.length) hMi hql fun b2 vs2 v2 e1 e2 e3 => by
    have e1 : ((s.β ++ [Value.nilFunc]).set s.M.length u)[i]? = some (.pointer (some ⟨b2, 0, none⟩)) := e1
    rw [List.getElem?_set_ne (by omega), hβi1] at e1
    cases e1
    have e4 : some (Obj.cells vs.toArray T (0, 0)) = some (Obj.cells vs2.toArray T (0, 0)) := hb.symm.trans e2
    simp at e4
    subst e4
    rw [hv] at e3
    obtain rfl := Option.some.inj e3
    subst hvu
    have hk : queRow s.w e sz v m L := hfo.ok k _ _ hB hu
    have hβn : ((s.β ++ [Value.nilFunc]).set s.M.length v)[s.M.length]? = some v := by rw [List.getElem?_set_self (by simp [hlen])]
    rcases hk.2 with ⟨q, _⟩ | ⟨_, _, _, _, _, _, q, _⟩
    · subst q; exact .arr hβn
    · subst q; exact .arr hβn
  rw [srL_setq rfl] at t3
  have ttt := tt.trans t3
  exact ⟨h0, ⟨_, _, _, _⟩, rfl, rfl, h3.trans ttt, fun x d hd => (h4 x d hd).mono h3.ok ttt, h5, h6.mono h3.ok ttt⟩
theorem dwp_relS {co : Code} {F : Fr} {M M' : List Blk} {K : Cont} {f k sz m j : Nat} {T e : TypeId} {c : D} {ns : List Nat} {L : List Value} {Bs Bs' : List Mem} (i : Nat) (hi : M[i]? = some (.mix T (srL c ns (.farr f k)))) (hf : M[f]? = some (.fam Bs)) (hB : Bs[k]? = some (.que e sz m L)) (hj : M.length = j) (hBs : Bs.set k .gone = Bs')
    (hM : (((M ++ [Blk.hole]).set f (.fam Bs')).set j (.que e sz m L) |>.set i (.mix T (srL c ns (.arr j)))) = M') (h : dwp P s0 n co F M' K) : dwp P s0 n co F M K := by
  subst hj hBs hM
  exact fun a w hv => h a w (inv_relS hv hi hf hB)
/-- a row of one's own that a cell names joins a family -/
theorem inv_absS {F : Fr} {M : List Blk} {a : Act} {w : World} {i f j sz m : Nat} {T e : TypeId} {c : D} {ns : List Nat} {L : List Value} {Bs : List Mem} (h : Inv s0 n F M a w) (hi : M[i]? = some (.mix T (srL c ns (.arr j)))) (hf : M[f]? = some (.fam Bs)) (hj : M[j]? = some (.que e sz m L)) :
    Inv s0 n F (((M.set j .gone).set f (.fam (Bs ++ [.que e sz m L]))).set i (.mix T (srL c ns (.farr f Bs.length)))) a w := by
  obtain ⟨h0, s, rfl, rfl, h3, h4, h5, h6⟩ := h
  have hlen := h3.ok.len
  have hil := (List.getElem?_eq_some_iff.1 hi).1
  have hfl := (List.getElem?_eq_some_iff.1 hf).1
  have hjl := (List.getElem?_eq_some_iff.1 hj).1
  have hif : f ≠ i := fun e => by subst e; rw [hi] at hf; cases hf
  have hij : j ≠ i := fun e => by subst e; rw [hi] at hj; cases hj
  obtain ⟨x, hx⟩ : ∃ x, s.β[i]? = some x := ⟨_, List.getElem?_eq_getElem (by omega)⟩
  obtain ⟨y, hy⟩ : ∃ y, s.β[f]? = some y := ⟨_, List.getElem?_eq_getElem (by omega)⟩
  obtain ⟨u, hu⟩ : ∃ u, s.β[j]? = some u := ⟨_, List.getElem?_eq_getElem (by omega)⟩
  obtain ⟨b, vs, rfl, hb, hl, hr⟩ := h3.ok.blk i _ _ hi hx
  obtain ⟨hs, rfl, hfo⟩ := h3.ok.blk f _ _ hf hy
  have hql : ns.length + 1 < (srL c ns (.arr j)).length := by rw [srL_len]; omega
  obtain ⟨v, hv⟩ : ∃ v, vs[ns.length + 1]? = some v := ⟨_, List.getElem?_eq_getElem (by rw [hl]; exact hql)⟩
  have hvu : v = u ∧ ∃ a n c, v = .slice a n c := by
    have := hr _ _ v (srL_q rfl) hv
    cases this with
    | arr q1 =>
      rw [hu] at q1
      exact ⟨(Option.some.inj q1).symm, _, _, _, rfl⟩
  have t2 := tr_abs (B := .que e sz m L) h3.ok hf hj rfl hy hu
  have hMi : ((s.M.set j .gone).set f (.fam (Bs ++ [.que e sz m L])))[i]? = some (.mix T (srL c ns (.arr j))) := by
    rw [List.getElem?_set_ne hif, List.getElem?_set_ne hij]; exact hi
  have t3 := tr_cell (s := ⟨s.β.set f (.tuple (hs ++ [u]).toArray), s.I, (s.M.set j .gone).set f (.fam (Bs ++ [.que e sz m L])), s.w⟩) t2.ok (d' := .farr f Bs.length) hMi hql fun b2 vs2 v2 e1 e2 e3 => by
    have e1 : (s.β.set f (.tuple (hs ++ [u]).toArray))[i]? = some (.pointer (some ⟨b2, 0, none⟩)) := e1
    rw [List.getElem?_set_ne hif, hx] at e1
    cases e1
    have e4 : some (Obj.cells vs.toArray T (0, 0)) = some (Obj.cells vs2.toArray T (0, 0)) := hb.symm.trans e2
    simp at e4
    subst e4
    rw [hv] at e3
    obtain rfl := Option.some.inj e3
    obtain ⟨rfl, a0, n0, c0, rfl⟩ := hvu
    exact .farr (hs := hs ++ [.slice a0 n0 c0]) (by show (s.β.set f _)[f]? = _; rw [List.getElem?_set_self (by omega)]) (by rw [← hfo.len, List.getElem?_append_right (Nat.le_refl _)]; simp)
  rw [srL_setq rfl] at t3
  have ttt := t2.trans t3
  exact ⟨h0, ⟨_, _, _, _⟩, rfl, rfl, h3.trans ttt, fun x d hd => (h4 x d hd).mono h3.ok ttt, h5, h6.mono h3.ok ttt⟩
theorem dwp_absS {co : Code} {F : Fr} {M M' : List Blk} {K : Cont} {f j sz m q : Nat} {T e : TypeId} {c : D} {ns : List Nat} {L : List Value} {Bs Bs' : List Mem} (i : Nat) (hi : M[i]? = some (.mix T (srL c ns (.arr j)))) (hj : M[j]? = some (.que e sz m L)) (hf : M[f]? = some (.fam Bs)) (hq : Bs.length = q) (hBs : Bs ++ [.que e sz m L] = Bs')
    (hM : (((M.set j .gone).set f (.fam Bs')).set i (.mix T (srL c ns (.farr f q)))) = M') (h : dwp P s0 n co F M' K) : dwp P s0 n co F M K := by
  subst hq hBs hM
  exact fun a w hv => h a w (inv_absS hv hi hf hj)
theorem dwp_eqB {co : Code} {F : Fr} {M M' : List Blk} {K : Cont} {k k' : Blk} (i : Nat) (h : k = k') (hi : M[i]? = some k) (hM : M.set i k' = M') (hw : dwp P s0 n co F M' K) : dwp P s0 n co F M K := by
  subst h hM
  obtain ⟨hl, he⟩ := List.getElem?_eq_some_iff.1 hi
  rw [← he, List.set_getElem_self] at hw
  exact hw
theorem dwp_openS {co : Code} {F : Fr} {M : List Blk} {K : Cont} {T e : TypeId} {c : D} {ns : List Nat} {sz m k j : Nat} {L : List Value} (i : Nat) (hi : M[i]? = some (.mix T (srL c ns (.arr k)))) (hk : M[k]? = some (.que e sz m L)) (hj : M.length = j)
    (h : ∀ (p r : Nat) (G : List Value), G.length = p * sz → dwp P s0 n co F (((M.set k .gone) ++ [Blk.arr e sz (p + m) (G ++ L)]).set i (.mix T (srL c ns (.part j sz p m r)))) K) : dwp P s0 n co F M K := by
  subst hj
  refine dwp_openu i (ns.length + 1) hi (srL_q rfl) hk fun p r G hG => ?_
  rw [srL_setq rfl]
  exact h p r G hG
theorem dwp_closeS {co : Code} {F : Fr} {M M' : List Blk} {K : Cont} {T e : TypeId} {c : D} {ns : List Nat} {sz m k p r N j : Nat} {L L' : List Value} (i : Nat) (hi : M[i]? = some (.mix T (srL c ns (.part k sz p m r)))) (hk : M[k]? = some (.arr e sz N L)) (hL : L.drop (p * sz) = L') (hj : M.length = j) (hM : ((M.set k .gone) ++ [Blk.que e sz m L']).set i (.mix T (srL c ns (.arr j))) = M')
    (h : dwp P s0 n co F M' K) : dwp P s0 n co F M K :=
  dwp_closeu i (ns.length + 1) hi (srL_q rfl) hk hL hj (srL_setq rfl) hM h
theorem dwp_adoptS {co : Code} {F : Fr} {M M' : List Blk} {K : Cont} {T : TypeId} {c : D} {ns : List Nat} (i : Nat) (e : TypeId) (sz : Nat) {m : Nat} (hi : M[i]? = some (.mix T (srL c ns (.val (.slice none 0 0))))) (hm : M.length = m) (hM : (M ++ [Blk.que e sz 0 []]).set i (.mix T (srL c ns (.arr m))) = M') (h : dwp P s0 n co F M' K) : dwp P s0 n co F M K :=
  dwp_adoptu i (ns.length + 1) e sz hi (srL_q rfl) hm (srL_setq rfl) hM h
end
end Go.Proofs.Ytfnhckildfbikaa
namespace Go.Proofs.Ytfnhckildfbikaa
set_option maxRecDepth 4000
set_option linter.unusedVariables false
set_option linter.unusedSimpArgs false
open Go.RowKit
structure FD where
  l : List Nat
  h : l.length = 1024
theorem FD.ext {f g : FD} (h : f.l = g.l) : f = g := by cases f; cases g; cases h; rfl
def zFD : FD := ⟨List.replicate 1024 0, List.length_replicate⟩
def ixF (p : P2) : Nat := (p.y * 32 + p.x).toNat
def FD.at (f : FD) (p : P2) : Nat := f.l.getD (ixF p) 0
def FD.put (f : FD) (p : P2) (v : Nat) : FD := ⟨f.l.set (ixF p) v, by rw [List.length_set, f.h]⟩
def inF32 (p : P2) : Prop := (0 ≤ p.x ∧ p.x < 32) ∧ 0 ≤ p.y ∧ p.y < 32
theorem ixF_lt {p : P2} (h : inF32 p) : ixF p < 1024 := by unfold inF32 at h; unfold ixF; omega
theorem ixF_inj {p q : P2} (hp : inF32 p) (hq : inF32 q) (h : ixF p = ixF q) : p = q := by
  unfold inF32 at hp hq
  unfold ixF at h
  obtain ⟨x, y⟩ := p
  obtain ⟨x', y'⟩ := q
  simp only [P2.mk.injEq] at *
  omega
theorem FD.put_at {f : FD} {p q : P2} {v : Nat} (hp : inF32 p) (hq : inF32 q) : (f.put p v).at q = if q = p then v else f.at q := by
  unfold FD.at FD.put
  have hl := ixF_lt hp
  simp only [List.getD_eq_getElem?_getD]
  by_cases e : q = p
  · subst e
    rw [if_pos rfl, List.getElem?_set_self (by rw [f.h]; exact hl)]; rfl
  · rw [if_neg e, List.getElem?_set_ne fun h => e (ixF_inj hp hq h).symm]
theorem zFD_at (p : P2) : zFD.at p = 0 := by
  unfold FD.at zFD
  simp only [List.getD_eq_getElem?_getD, List.getElem?_replicate]
  split <;> rfl
def adjL (p : P2) : List P2 := [⟨p.x - 1, p.y⟩, ⟨p.x + 1, p.y⟩, ⟨p.x, p.y - 1⟩, ⟨p.x, p.y + 1⟩]
theorem adj_iff {p q : P2} : q ∈ adjL p ↔ (q.y = p.y ∧ (q.x = p.x - 1 ∨ q.x = p.x + 1)) ∨ q.x = p.x ∧ (q.y = p.y - 1 ∨ q.y = p.y + 1) := by
  obtain ⟨x, y⟩ := q
  simp only [adjL, List.mem_cons, List.not_mem_nil, or_false, P2.mk.injEq]
  omega
theorem adj_nodup (p : P2) : (adjL p).Nodup := by
  simp only [adjL, List.nodup_cons, List.mem_cons, List.not_mem_nil, or_false, P2.mk.injEq, not_or, List.nodup_nil, and_true, not_false_eq_true]
  omega
def nbL (On : P2 → Bool) (p : P2) : List P2 := (adjL p).filter On
theorem nb_iff {On : P2 → Bool} {p q : P2} : q ∈ nbL On p ↔ q ∈ adjL p ∧ On q = true := List.mem_filter
theorem nb_nodup (On : P2 → Bool) (p : P2) : (nbL On p).Nodup := (adj_nodup p).sublist List.filter_sublist
def visF (near : P2 → Bool) (v : Nat) (s : FD × List P2) (q : P2) : FD × List P2 := if s.1.at q = 0 ∧ near q = true then (s.1.put q v, s.2 ++ [q]) else s
def goF (On near : P2 → Bool) (f : FD) (p : P2) : FD × List P2 := (nbL On p).foldl (visF near (f.at p + 1)) (f, [])
def bfsF (On near : P2 → Bool) : Nat → FD → List P2 → FD
  | 0, f, _ => f
  | _ + 1, f, [] => f
  | k + 1, f, p :: r => bfsF On near k (goF On near f p).1 (r ++ (goF On near f p).2)
def zrF (f : FD) : Nat := f.l.countP (· == 0)
theorem zrF_le (f : FD) : zrF f ≤ 1024 := by have := List.countP_le_length (p := (· == 0)) (l := f.l); rw [f.h] at this; exact this
theorem countP_set {l : List Nat} {i v : Nat} (hi : i < l.length) (h0 : l[i] = 0) (hv : 0 < v) : (l.set i v).countP (· == 0) + 1 = l.countP (· == 0) := by
  have e1 : l = l.take i ++ l[i] :: l.drop (i + 1) := by rw [← List.drop_eq_getElem_cons hi, List.take_append_drop]
  have e2 : l.set i v = l.take i ++ v :: l.drop (i + 1) := by rw [List.set_eq_take_append_cons_drop, if_pos hi]
  rw [e2]
  conv => rhs; rw [e1]
  rw [List.countP_append, List.countP_append, List.countP_cons, List.countP_cons, h0]
  have : ¬ (v == 0) = true := by simp; omega
  simp [this]
  omega
theorem zrF_put {f : FD} {p : P2} {v : Nat} (hp : inF32 p) (h : f.at p = 0) (hv : 0 < v) : zrF (f.put p v) + 1 = zrF f := by
  have hl := ixF_lt hp
  have hi : ixF p < f.l.length := by rw [f.h]; exact hl
  refine countP_set hi ?_ hv
  unfold FD.at at h
  rw [List.getD_eq_getElem?_getD, List.getElem?_eq_getElem hi] at h
  exact h
section
variable {On near : P2 → Bool} (hOn : ∀ p, On p = true → inF32 p)
include hOn
theorem vis_all : ∀ (L : List P2) (v : Nat) (f : FD) (o : List P2), L.Nodup → (∀ q ∈ L, On q = true) → 0 < v →
    (∀ n, On n = true → (L.foldl (visF near v) (f, o)).1.at n = if n ∈ L ∧ f.at n = 0 ∧ near n = true then v else f.at n) ∧
    (L.foldl (visF near v) (f, o)).2 = o ++ L.filter (fun n => decide (f.at n = 0) && near n) ∧ zrF (L.foldl (visF near v) (f, o)).1 + (L.filter (fun n => decide (f.at n = 0) && near n)).length = zrF f
  | [], v, f, o, _, _, _ => ⟨fun n _ => by simp, by simp, by simp⟩
  | q :: L, v, f, o, hn, ho, hv => by
    obtain ⟨hq, hn⟩ := List.nodup_cons.1 hn
    have hoq := ho q (List.mem_cons_self ..)
    rw [List.foldl_cons]
    by_cases hc : f.at q = 0 ∧ near q = true
    · have e : visF near v (f, o) q = (f.put q v, o ++ [q]) := if_pos hc
      rw [e]
      obtain ⟨h1, h2, h3⟩ := vis_all L v (f.put q v) (o ++ [q]) hn (fun x hx => ho x (List.mem_cons_of_mem _ hx)) hv
      have hsame : ∀ x ∈ L, (f.put q v).at x = f.at x := fun x hx => by
        rw [FD.put_at (hOn _ hoq) (hOn _ (ho x (List.mem_cons_of_mem _ hx))), if_neg (fun e : x = q => hq (e ▸ hx))]
      have hf : L.filter (fun n => decide ((f.put q v).at n = 0) && near n) = L.filter (fun n => decide (f.at n = 0) && near n) := List.filter_congr fun x hx => by rw [hsame x hx]
      rw [hf] at h2 h3
      have hfq : (q :: L).filter (fun n => decide (f.at n = 0) && near n) = q :: L.filter (fun n => decide (f.at n = 0) && near n) := by rw [List.filter_cons_of_pos]; simp [hc]
      have hz := zrF_put (hOn _ hoq) hc.1 hv
      refine ⟨fun n hon => ?_, ?_, ?_⟩
      · rw [h1 n hon]
        by_cases hnq : n = q
        · subst hnq
          have e1 : (f.put n v).at n = v := by rw [FD.put_at (hOn _ hon) (hOn _ hon), if_pos rfl]
          rw [if_neg (by rw [e1]; omega), e1, if_pos ⟨List.mem_cons_self .., hc⟩]
        · rw [FD.put_at (hOn _ hoq) (hOn _ hon), if_neg hnq]
          simp [hnq]
      · rw [h2, hfq]; simp
      · rw [hfq, List.length_cons]; omega
    · have e : visF near v (f, o) q = (f, o) := if_neg hc
      rw [e]
      obtain ⟨h1, h2, h3⟩ := vis_all L v f o hn (fun x hx => ho x (List.mem_cons_of_mem _ hx)) hv
      have hfq : (q :: L).filter (fun n => decide (f.at n = 0) && near n) = L.filter (fun n => decide (f.at n = 0) && near n) := by rw [List.filter_cons_of_neg]; simpa using hc
      refine ⟨fun n hon => ?_, by rw [h2, hfq], by rw [hfq]; exact h3⟩
      rw [h1 n hon]
      by_cases hnq : n = q
      · subst hnq
        rw [if_neg fun h => hq h.1, if_neg fun h => hc h.2]
      · simp [hnq]
theorem goF_at {f : FD} {p n : P2} (hn : On n = true) : (goF On near f p).1.at n = if n ∈ nbL On p ∧ f.at n = 0 ∧ near n = true then f.at p + 1 else f.at n :=
  (vis_all hOn (nbL On p) (f.at p + 1) f [] (nb_nodup On p) (fun q hq => (nb_iff.1 hq).2) (by omega)).1 n hn
theorem goF_new (f : FD) (p : P2) : (goF On near f p).2 = (nbL On p).filter (fun n => decide (f.at n = 0) && near n) := by
  have := (vis_all (near := near) hOn (nbL On p) (f.at p + 1) f [] (nb_nodup On p) (fun q hq => (nb_iff.1 hq).2) (by omega)).2.1
  rw [List.nil_append] at this
  exact this
theorem goF_zr (f : FD) (p : P2) : zrF (goF On near f p).1 + (goF On near f p).2.length = zrF f := by
  rw [goF_new hOn]
  exact (vis_all hOn (nbL On p) (f.at p + 1) f [] (nb_nodup On p) (fun q hq => (nb_iff.1 hq).2) (by omega)).2.2
theorem bfs_step {f : FD} {p : P2} {r : List P2} : bfsF On near (zrF f + (p :: r).length) f (p :: r) = bfsF On near (zrF (goF On near f p).1 + (r ++ (goF On near f p).2).length) (goF On near f p).1 (r ++ (goF On near f p).2) := by
  have := goF_zr (near := near) hOn f p
  rw [List.length_cons, List.length_append, ← Nat.add_assoc, bfsF]
  congr 1
  omega
end
theorem bfs_nil (On near : P2 → Bool) (k : Nat) (f : FD) : bfsF On near k f [] = f := by cases k <;> rfl
structure BI (On near : P2 → Bool) (p0 : P2) (f : FD) (q : List P2) : Prop where
  one : f.at p0 = 1
  qm : ∀ x ∈ q, On x = true ∧ 0 < f.at x
  up : ∀ n, On n = true → 0 < f.at n → n ≠ p0 → near n = true ∧ ∃ m, On m = true ∧ n ∈ adjL m ∧ 0 < f.at m ∧ f.at m + 1 = f.at n
  dn : ∀ m, On m = true → 0 < f.at m → m ∉ q → ∀ n, On n = true → n ∈ adjL m → near n = true → 0 < f.at n ∧ f.at n ≤ f.at m + 1
  lv : ∃ d, (∀ n, On n = true → f.at n ≤ d + 1) ∧ ∃ q1 q2, q = q1 ++ q2 ∧ (∀ x ∈ q1, f.at x = d) ∧ ∀ x ∈ q2, f.at x = d + 1
structure FinF (On near : P2 → Bool) (p0 : P2) (f : FD) : Prop where
  one : f.at p0 = 1
  up : ∀ n, On n = true → 0 < f.at n → n ≠ p0 → near n = true ∧ ∃ m, On m = true ∧ n ∈ adjL m ∧ 0 < f.at m ∧ f.at m + 1 = f.at n
  dn : ∀ m, On m = true → 0 < f.at m → ∀ n, On n = true → n ∈ adjL m → near n = true → 0 < f.at n ∧ f.at n ≤ f.at m + 1
section
variable {On near : P2 → Bool} (hOn : ∀ p, On p = true → inF32 p) {p0 : P2}
include hOn
theorem BI.start (h0 : On p0 = true) : BI On near p0 (zFD.put p0 1) [p0] := by
  have hat : ∀ n, On n = true → (zFD.put p0 1).at n = if n = p0 then 1 else 0 := fun n hn => by rw [FD.put_at (hOn _ h0) (hOn _ hn), zFD_at]
  have h1 : (zFD.put p0 1).at p0 = 1 := by rw [hat p0 h0, if_pos rfl]
  refine ⟨h1, fun x hx => ?_, fun n hn hp hne => ?_, fun m hm hp hq => ?_, 1, fun n hn => ?_, [p0], [], rfl, fun x hx => ?_, fun x hx => by simp at hx⟩
  · obtain rfl := List.mem_singleton.1 hx; exact ⟨h0, by omega⟩
  · rw [hat n hn, if_neg hne] at hp; omega
  · rw [hat m hm] at hp
    split at hp
    · rename_i e; exact absurd (List.mem_singleton.2 e) hq
    · omega
  · rw [hat n hn]; split <;> omega
  · obtain rfl := List.mem_singleton.1 hx; exact h1
theorem BI.step {f : FD} {p : P2} {r : List P2} (h : BI On near p0 f (p :: r)) : BI On near p0 (goF On near f p).1 (r ++ (goF On near f p).2) := by
  obtain ⟨hop, hpp⟩ := h.qm p (List.mem_cons_self ..)
  have hat : ∀ {n}, On n = true → (goF On near f p).1.at n = if n ∈ nbL On p ∧ f.at n = 0 ∧ near n = true then f.at p + 1 else f.at n := fun hn => goF_at hOn hn
  have hold : ∀ {n}, On n = true → 0 < f.at n → (goF On near f p).1.at n = f.at n := fun hn h0 => by rw [hat hn, if_neg (by omega)]
  have hnew : ∀ {n}, n ∈ (goF On near f p).2 ↔ (n ∈ adjL p ∧ On n = true) ∧ f.at n = 0 ∧ near n = true := by
    intro n
    rw [goF_new hOn, List.mem_filter, nb_iff]
    simp
  have hnat : ∀ {n}, n ∈ (goF On near f p).2 → (goF On near f p).1.at n = f.at p + 1 := fun hn => by
    obtain ⟨h1, h2⟩ := hnew.1 hn
    rw [hat h1.2, if_pos ⟨nb_iff.2 h1, h2⟩]
  have hp0 : On p0 = true → (goF On near f p).1.at p0 = 1 := fun h0 => by rw [hold h0 (by rw [h.one]; omega), h.one]
  have hon0 : (goF On near f p).1.at p0 = 1 := by
    by_cases h0 : On p0 = true
    · exact hp0 h0
    · -- no place that is not on is touched
      have key : ∀ (L : List P2) (v : Nat) (g : FD) (o : List P2), (∀ q ∈ L, q ≠ p0 ∧ ixF q ≠ ixF p0) → (L.foldl (visF near v) (g, o)).1.at p0 = g.at p0 := by
        intro L
        induction L with
        | nil => intro v g o _; rfl
        | cons q L ih =>
          intro v g o hL
          rw [List.foldl_cons]
          have hq := hL q (List.mem_cons_self ..)
          by_cases hc : g.at q = 0 ∧ near q = true
          · rw [show visF near v (g, o) q = (g.put q v, o ++ [q]) from if_pos hc, ih v _ _ fun x hx => hL x (List.mem_cons_of_mem _ hx)]
            unfold FD.at FD.put
            simp only [List.getD_eq_getElem?_getD]
            rw [List.getElem?_set_ne hq.2]
          · rw [show visF near v (g, o) q = (g, o) from if_neg hc]
            exact ih v _ _ fun x hx => hL x (List.mem_cons_of_mem _ hx)
      by_cases hx : ∃ q, On q = true ∧ ixF q = ixF p0
      · obtain ⟨q, hq, he⟩ := hx
        have e2 : ∀ g : FD, g.at q = g.at p0 := fun g => by unfold FD.at; rw [he]
        rw [← e2, hold hq (by rw [e2, h.one]; omega), e2, h.one]
      · unfold goF
        rw [key _ _ _ _ fun q hq => ⟨fun e => h0 (e ▸ (nb_iff.1 hq).2), fun e => hx ⟨q, (nb_iff.1 hq).2, e⟩⟩, h.one]
  refine ⟨hon0, fun x hx => ?_, fun n hn h0 hne => ?_, fun m hm h0 hq n hn ha hnr => ?_, ?_⟩
  · rcases List.mem_append.1 hx with hx | hx
    · obtain ⟨h1, h2⟩ := h.qm x (List.mem_cons_of_mem _ hx)
      exact ⟨h1, by rw [hold h1 h2]; exact h2⟩
    · exact ⟨(hnew.1 hx).1.2, by rw [hnat hx]; omega⟩
  · by_cases hz : f.at n = 0
    · rw [hat hn] at h0 ⊢
      split at h0
      · rename_i hc
        rw [if_pos hc]
        exact ⟨hc.2.2, p, hop, (nb_iff.1 hc.1).1, by rw [hold hop hpp]; exact hpp, by rw [hold hop hpp]⟩
      · omega
    · obtain ⟨h1, m, h2, h3, h4, h5⟩ := h.up n hn (by omega) hne
      exact ⟨h1, m, h2, h3, by rw [hold h2 h4]; exact h4, by rw [hold h2 h4, hold hn (by omega)]; exact h5⟩
  · obtain ⟨d, hd, q1, q2, hq12, hl1, hl2⟩ := h.lv
    have hpd : ∀ n, On n = true → f.at n ≤ f.at p + 1 := by
      cases q1 with
      | nil =>
        have : p ∈ q2 := by rw [List.nil_append] at hq12; rw [← hq12]; exact List.mem_cons_self ..
        intro n hn; have := hd n hn; have := hl2 p ‹_›; omega
      | cons a q1 =>
        rw [List.cons_append] at hq12
        have e := (List.cons.inj hq12).1
        intro n hn; have := hd n hn; have := hl1 a (List.mem_cons_self ..); rw [← e] at this; omega
    have hzm : f.at m ≠ 0 := fun hz => by
      rw [hat hm] at h0
      split at h0
      · rename_i hc
        exact hq (List.mem_append_right _ (hnew.2 ⟨nb_iff.1 hc.1, hc.2⟩))
      · omega
    rw [hold hm (by omega)]
    by_cases hmp : m = p
    · subst hmp
      by_cases hz : f.at n = 0
      · rw [hat hn, if_pos ⟨nb_iff.2 ⟨ha, hn⟩, hz, hnr⟩]; omega
      · rw [hold hn (by omega)]; exact ⟨by omega, hpd n hn⟩
    · obtain ⟨h1, h2⟩ := h.dn m hm (by omega) (fun hm' => by
        rcases List.mem_cons.1 hm' with e | e
        · exact hmp e
        · exact hq (List.mem_append_left _ e)) n hn ha hnr
      rw [hold hn h1]; exact ⟨h1, h2⟩
  · obtain ⟨d, hd, q1, q2, hq12, hl1, hl2⟩ := h.lv
    have main : ∀ (d : Nat) (q1 q2 : List P2), (∀ n, On n = true → f.at n ≤ d + 1) → p :: r = p :: q1 ++ q2 → f.at p = d → (∀ x ∈ q1, f.at x = d) → (∀ x ∈ q2, f.at x = d + 1) → ∃ d, (∀ n, On n = true → (goF On near f p).1.at n ≤ d + 1) ∧ ∃ q1 q2, r ++ (goF On near f p).2 = q1 ++ q2 ∧ (∀ x ∈ q1, (goF On near f p).1.at x = d) ∧ ∀ x ∈ q2, (goF On near f p).1.at x = d + 1 := by
      intro d q1 q2 hd hq12 hp hl1 hl2
      have hr : r = q1 ++ q2 := by simpa using hq12
      have hmem : ∀ x ∈ r, (goF On near f p).1.at x = f.at x := fun x hx => by
        obtain ⟨h1, h2⟩ := h.qm x (List.mem_cons_of_mem _ hx)
        exact hold h1 h2
      refine ⟨d, fun n hn => ?_, q1, q2 ++ (goF On near f p).2, by rw [hr, List.append_assoc], fun x hx => ?_, fun x hx => ?_⟩
      · rw [hat hn]; split
        · omega
        · exact hd n hn
      · rw [hmem x (by rw [hr]; exact List.mem_append_left _ hx)]; exact hl1 x hx
      · rcases List.mem_append.1 hx with hx | hx
        · rw [hmem x (by rw [hr]; exact List.mem_append_right _ hx)]; exact hl2 x hx
        · rw [hnat hx, hp]
    cases q1 with
    | nil =>
      rw [List.nil_append] at hq12
      subst hq12
      exact main (d + 1) r [] (fun n hn => by have := hd n hn; omega) (by simp) (hl2 p (List.mem_cons_self ..)) (fun x hx => hl2 x (List.mem_cons_of_mem _ hx)) (fun x hx => by simp at hx)
    | cons a q1 =>
      rw [List.cons_append] at hq12
      obtain ⟨rfl, h2⟩ := List.cons.inj hq12
      exact main d q1 q2 hd (by rw [h2]; rfl) (hl1 p (List.mem_cons_self ..)) (fun x hx => hl1 x (List.mem_cons_of_mem _ hx)) hl2
end
inductive Pth (On near : P2 → Bool) (p0 : P2) : Nat → P2 → Prop
  | z : Pth On near p0 0 p0
  | s {k : Nat} {m n : P2} (h : Pth On near p0 k m) (ho : On n = true) (ha : n ∈ adjL m) (hn : near n = true) : Pth On near p0 (k + 1) n
theorem Pth.on {On near : P2 → Bool} {p0 : P2} {k : Nat} {n : P2} (h : Pth On near p0 k n) (h0 : On p0 = true) : On n = true := by cases h <;> assumption
theorem FinF.le {On near : P2 → Bool} {p0 : P2} {f : FD} (h : FinF On near p0 f) (h0 : On p0 = true) {k : Nat} {n : P2} (hp : Pth On near p0 k n) : 0 < f.at n ∧ f.at n ≤ k + 1 := by
  induction hp with
  | z => rw [h.one]; omega
  | s hm ho ha hn ih =>
    obtain ⟨h1, h2⟩ := h.dn _ (hm.on h0) ih.1 _ ho ha hn
    omega
theorem Pth.mono {On near near2 : P2 → Bool} {p0 : P2} {k : Nat} {n : P2} (h : Pth On near p0 k n) (hm : ∀ q, near q = true → near2 q = true) : Pth On near2 p0 k n := by
  induction h with
  | z => exact .z
  | s _ ho ha hn ih => exact .s ih ho ha (hm _ hn)
theorem Pth.trans {On near : P2 → Bool} {p q : P2} {k : Nat} (h : Pth On near p k q) {j : Nat} {n : P2} (g : Pth On near q j n) : Pth On near p (k + j) n := by
  induction g with
  | z => exact h
  | s _ ho ha hn ih => exact .s ih ho ha hn
def onP (w h : Int) (p : P2) : Bool := onS w h p.x p.y
theorem onP_in {w h : Int} (hm : mayS w h = true) (p : P2) (ho : onP w h p = true) : inF32 p := by
  have hb := mayS_b hm
  have := onS_iff.1 ho
  unfold inF32
  omega
def FD.has (f : FD) (p : P2) : Bool := decide (0 < f.at p)
theorem has_int (f : FD) (p : P2) : decide ((0 : Int) < (f.at p : Int)) = f.has p := by
  unfold FD.has
  rw [Bool.eq_iff_iff, decide_eq_true_eq, decide_eq_true_eq]
  omega
theorem srF_at {c q : D} {f : FD} {p : P2} (hp : inF32 p) : (srL c f.l q)[0 + 1 + (p.y * 32 + p.x).toNat * 1]? = some (.val (.int .i64 ((f.at p : Nat) : Int))) :=
  srL_at (k := ixF p) (by unfold ixF; omega) (by rw [f.h]; exact ixF_lt hp)
theorem srF_set {c q : D} {f : FD} {p : P2} {n : Nat} (hp : inF32 p) : (srL c f.l q).set (0 + 1 + (p.y * 32 + p.x).toNat * 1) (.val (.int .i64 ((n : Nat) : Int))) = srL c (f.put p n).l q :=
  srL_set (k := ixF p) (by unfold ixF; omega) (by rw [f.h]; exact ixF_lt hp)
theorem srF_lt {c q : D} {f : FD} {p : P2} (hp : inF32 p) : 0 + 1 + (p.y * 32 + p.x).toNat * 1 < (srL c f.l q).length := by
  have := ixF_lt hp
  unfold ixF at this
  rw [srL_len, f.h]
  omega
theorem srF_qlt {c q : D} {f : FD} : 0 + 1025 < (srL c f.l q).length := by rw [srL_len, f.h]; omega
abbrev rowQ (q : List P2) : Mem := .que 34 2 q.length (q.flatMap p2)
def fmQ (k : Nat) (q : List P2) : List Mem := List.replicate k .gone ++ [rowQ q]
theorem fmQ_at (k : Nat) (q : List P2) : (fmQ k q)[k]? = some (rowQ q) := by
  unfold fmQ
  rw [List.getElem?_append_right (by simp)]
  simp
theorem fmQ_len (k : Nat) (q : List P2) : (fmQ k q).length = k + 1 := by simp [fmQ]
theorem fmQ_set (k : Nat) (q : List P2) : (fmQ k q).set k .gone = List.replicate (k + 1) .gone := by
  unfold fmQ
  rw [List.set_append_right _ _ (by simp), List.length_replicate, Nat.sub_self, List.replicate_succ']
  rfl
theorem fmQ_new (k : Nat) (q : List P2) : List.replicate k Mem.gone ++ [Mem.que 34 2 q.length (q.flatMap p2)] = fmQ k q := rfl
theorem fmQ_add (k : Nat) (q : List P2) (p : P2) : (fmQ k q).set k .gone ++ [Mem.que 34 2 (q.length + 1) (q.flatMap p2 ++ p2 p)] = fmQ (k + 1) (q ++ [p]) := by
  rw [fmQ_set]
  unfold fmQ rowQ
  rw [List.length_append, List.flatMap_append]
  simp
def zSV : List Value := .pointer none :: (List.replicate 1024 (.int .i64 0) ++ [.slice none 0 0])
theorem zSV_len : zSV.length = 1026 := by simp [zSV]
theorem sr_new (c : D) : fillD [(0, 1), (1, 1024), (1025, 1)] (zSV.map .val) [(0, [c])] = srL c zFD.l (.val (.slice none 0 0)) := by
  show setD (zSV.map .val) 0 [c] = _
  unfold zSV srL zFD
  rw [List.map_cons, List.map_append, List.map_replicate, List.map_replicate]
  rfl
end Go.Proofs.Ytfnhckildfbikaa
