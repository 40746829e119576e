/- Operations that make memory, and write it. Conditions: what a type is, by the kernel; Scopes; slices beside nil; rows of one's own, element by element. Conditions: what a type is, by the kernel; canvases compared, point by point; what a row has, and how many; what drawing rests on; a frame, and what is in it; a stroke in whatever order. No condition. -/
import Derived.Test.YtjgnalfnginjbaaGreatDoorK6
import Derived.Test.YtjgnalfnginjbaaGreatDoorRows
namespace Go.Proofs.YtjgnalfnginjbaaGreatDoor
set_option linter.unusedVariables false
set_option linter.unusedSimpArgs false
open Go.RowKit
section
variable {P : Program} {pc : Bool} {o : Oper} {F : Fr} {M : List Blk}
theorem op_stwb {T T' : TypeId} {x y : Operand} {i : Nat} {rw' : Bool} {z : Bool} {v : Value} (ho : o.op = .store T x y) (hT : tyB P T = some (rw', 1)) (hx : Ev pc F x (.loc i 0)) (hy : Ev pc F y (.val (.bool z))) (hM : M[i]? = some (.flat T' [v])) : DOp P pc o F M [i] .junk [(i, .flat T' [.bool z])] :=
  op_stw ho hT hx hy hM rfl rfl rfl rfl
end
end Go.Proofs.YtjgnalfnginjbaaGreatDoor
namespace Go.Proofs.YtjgnalfnginjbaaGreatDoor
set_option linter.unusedVariables false
set_option linter.unusedSimpArgs false
open Go.RowKit
section
variable {P : Program} {s0 : St} {n : Cx}
/-- .. nor is a row of one's own -/
theorem dwp_lena {c : Code} {F : Fr} {M : List Blk} {K : Cont} {T : TypeId} {i sz m : Nat} {L : List Value} (hM : M[i]? = some (.arr T sz m L)) (hk : m ≤ 9223372036854775807 → L.length = m * sz → dwp P s0 n c F M K) : dwp P s0 n c F M K := by
  intro a w hi
  obtain ⟨h0, s, h1, h2, h3, h4, h5, h6⟩ := hi
  have hil : i < s.β.length := by rw [h3.ok.len, h1]; exact (List.getElem?_eq_some_iff.1 hM).1
  have hM' : s.M[i]? = some (.arr T sz m L) := by rw [h1]; exact hM
  have hk' : s.w.ownsRow 0 T sz s.β[i] m L := h3.ok.blk i _ _ hM' (List.getElem?_eq_getElem hil)
  have hb : m ≤ 9223372036854775807 := by
    rcases hk'.2 with ⟨_, e2⟩ | ⟨g, cap, cur, e1, e2, e3, e4, e5, e6, e7⟩
    · omega
    · exact Nat.le_trans e4 e5
  exact hk hb hk'.1 a w ⟨h0, s, h1, h2, h3, h4, h5, h6⟩
variable {ops : Array Oper}
end
section
variable {P : Program} {pc : Bool} {o : Oper} {F : Fr} {M : List Blk} {α : Type} {en : α → List Value} {T T' e : TypeId} {sz by' k n i j : Nat} {l : List α} {x y : Operand}
/-- .. it stored -/
theorem op_star {q : α} (ho : o.op = .store T x y) (hT : tyB P T = some (true, sz)) (hx : Ev pc F x (.aloc i (j * sz))) (hM : M[i]? = some (.arr T' sz n (l.flatMap en))) (hy : Ev pc F y (.val (.agg (en q).toArray))) (hen : ∀ a, (en a).length = sz) (hj : j < l.length) (h1 : (en q).all (·.oneCell') = true) : DOp P pc o F M [i] .junk [(i, .arr T' sz n ((l.set j q).flatMap en))] :=
  op_sta ho hT hx hy hM (by simp [Value.cells]) (hen _) h1 (by
    have h2 : (j + 1) * sz ≤ l.length * sz := Nat.mul_le_mul_right _ hj
    rw [Nat.succ_mul] at h2
    rw [hen, flat_len hen]; exact h2) (flat_set hen hj q)
end
end Go.Proofs.YtjgnalfnginjbaaGreatDoor
namespace Go.Proofs.YtjgnalfnginjbaaGreatDoor
set_option maxRecDepth 4000
set_option linter.unusedVariables false
set_option linter.unusedSimpArgs false
open Go.RowKit
theorem zr4 : zrC Tryz.prog 4 = some [.bool false] := by kernel_rfl
theorem rowEq_succ (w : Int) (ts us : List TL) (y n : Nat) : rowEq w ts us y (n + 1) = (rowEq w ts us y n && decide (getC w ts (n : Int) (y : Int) = getC w us (n : Int) (y : Int))) := by
  unfold rowEq
  rw [List.range_succ, List.all_append]
  simp
theorem allEq_succ (w : Int) (ts us : List TL) (W n : Nat) : allEq w ts us W (n + 1) = (allEq w ts us W n && rowEq w ts us n W) := by
  unfold allEq
  rw [List.range_succ, List.all_append]
  simp
theorem sameF_no {w h : Int} {ts us : List TL} {x y : Nat} (hx : x < (w * 8).toNat) (hy : y < (h * 8).toNat) (hne : getC w ts (x : Int) (y : Int) ≠ getC w us (x : Int) (y : Int)) : sameF w h ts us = false := by
  rw [← Bool.not_eq_true]
  intro h1
  have h2 := List.all_eq_true.1 h1 y (List.mem_range.2 hy)
  have h3 := List.all_eq_true.1 h2 x (List.mem_range.2 hx)
  exact hne (by simpa using h3)
noncomputable def samA : Code := rfA (pth [1, 0, 1, 1, 1, 1, 0, 1, 0] (bodyOf Tryz.f36))
noncomputable def samB : Code := rfB (pth [1, 0, 1, 1, 1, 1, 0, 1, 0] (bodyOf Tryz.f36))
set_option maxRecDepth 4000 in
set_option maxHeartbeats 1000000 in
theorem samRound_true (w h : Int) (da db : List D) (ts us : List TL) (ra : RowOk da ts) (rb : RowOk db us) (ca : CvOk w h ts) (cb : CvOk w h us) (x y : Int) (ho : onS w h x y = true) (b : Bool) (h1 : getC w ts x y = getC w us x y) : DRound Tryz.prog 0 [.val (.agg #[.int .i64 x, .int .i64 y])] [.lp 42 [(2, .loc 1 0), (3, .loc 2 0), (5, .loc 3 0)] #[33] samA samB .ready none, .mix 33 [cvD w h da], .mix 33 [cvD w h db], .flat 4 [.bool b]] true [.lp 42 [(2, .loc 1 0), (3, .loc 2 0), (5, .loc 3 0)] #[33] samA samB .ready none, .mix 33 [cvD w h da], .mix 33 [cvD w h db], .flat 4 [.bool b]] := by
  refine dround_go 4 rfl rfl (by simp) rfl rfl fun s0 hs0 => ?_
  refine zai 1 (by simp only [holes, List.cons_append, List.nil_append]; exact rfl) ?_
  refine zad ?_
  refine zaj rfl rfl rfl (op_alloc 4 rfl zr51 rfl) (by simp only [upd, zaa, za]; exact rfl) ?_
  refine walk_s rfl rfl (op_stwa rfl tb51 (ev1 rfl) (ev1 rfl) rfl rfl rfl rfl) (by simp only [upd, zaa, za]; exact rfl) ?_
  refine zae ?_
  refine ⟨rfl, ?_⟩
  simp only [zaa, za]
  refine dwp_block ?_
  refine zaf ?_
  refine dwp_draw [([1], []), ([4], []), ([], []), ([2], []), ([4], []), ([], []), ([], [])] mixed (by kernel_rfl) ?_
  refine zag rfl rfl (op_ldm rfl tb33 (ev1 rfl) rfl rfl) ?_
  refine zag rfl rfl (op_ldw rfl tb51 (ev1 rfl) rfl rfl) ?_
  refine zag rfl rfl (zah [] [] [] rfl (ev1 rfl) (ec (ev1 rfl) (ec (ev1 rfl) en)) rfl rfl (color_d w h da ts ra ca x y ho) rfl rfl rfl rfl rfl rfl) ?_
  refine zag rfl rfl (op_ldm rfl tb33 (ev1 rfl) rfl rfl) ?_
  refine zag rfl rfl (op_ldw rfl tb51 (ev1 rfl) rfl rfl) ?_
  refine zag rfl rfl (zah [] [] [] rfl (ev1 rfl) (ec (ev1 rfl) (ec (ev1 rfl) en)) rfl rfl (color_d w h db us rb cb x y ho) rfl rfl rfl rfl rfl rfl) ?_
  refine zag rfl rfl (op_ner eq27 rfl gd27 tb27 (ev1 rfl) (ev1 rfl)) ?_
  refine lex_nil ?_
  refine dwp_if_f rfl (by simpa using h1) ?_
  refine zal ?_
  refine ⟨by first | rfl | assumption | simp_all, rfl, [0, 1, 2, 3], rfl, ⟨rfl, rfl, rfl, rfl, trivial⟩⟩
set_option maxRecDepth 4000 in
set_option maxHeartbeats 1000000 in
theorem samRound_false (w h : Int) (da db : List D) (ts us : List TL) (ra : RowOk da ts) (rb : RowOk db us) (ca : CvOk w h ts) (cb : CvOk w h us) (x y : Int) (ho : onS w h x y = true) (b : Bool) (h1 : getC w ts x y ≠ getC w us x y) : DRound Tryz.prog 0 [.val (.agg #[.int .i64 x, .int .i64 y])] [.lp 42 [(2, .loc 1 0), (3, .loc 2 0), (5, .loc 3 0)] #[33] samA samB .ready none, .mix 33 [cvD w h da], .mix 33 [cvD w h db], .flat 4 [.bool b]] false [.lp 42 [(2, .loc 1 0), (3, .loc 2 0), (5, .loc 3 0)] #[33] samA samB .done (some (.exit 0)), .mix 33 [cvD w h da], .mix 33 [cvD w h db], .flat 4 [.bool false]] := by
  refine dround_go 4 rfl rfl (by simp) rfl rfl fun s0 hs0 => ?_
  refine zai 1 (by simp only [holes, List.cons_append, List.nil_append]; exact rfl) ?_
  refine zad ?_
  refine zaj rfl rfl rfl (op_alloc 4 rfl zr51 rfl) (by simp only [upd, zaa, za]; exact rfl) ?_
  refine walk_s rfl rfl (op_stwa rfl tb51 (ev1 rfl) (ev1 rfl) rfl rfl rfl rfl) (by simp only [upd, zaa, za]; exact rfl) ?_
  refine zae ?_
  refine ⟨rfl, ?_⟩
  simp only [zaa, za]
  refine dwp_block ?_
  refine zaf ?_
  refine dwp_draw [([1], []), ([4], []), ([], []), ([2], []), ([4], []), ([], []), ([], [])] mixed (by kernel_rfl) ?_
  refine zag rfl rfl (op_ldm rfl tb33 (ev1 rfl) rfl rfl) ?_
  refine zag rfl rfl (op_ldw rfl tb51 (ev1 rfl) rfl rfl) ?_
  refine zag rfl rfl (zah [] [] [] rfl (ev1 rfl) (ec (ev1 rfl) (ec (ev1 rfl) en)) rfl rfl (color_d w h da ts ra ca x y ho) rfl rfl rfl rfl rfl rfl) ?_
  refine zag rfl rfl (op_ldm rfl tb33 (ev1 rfl) rfl rfl) ?_
  refine zag rfl rfl (op_ldw rfl tb51 (ev1 rfl) rfl rfl) ?_
  refine zag rfl rfl (zah [] [] [] rfl (ev1 rfl) (ec (ev1 rfl) (ec (ev1 rfl) en)) rfl rfl (color_d w h db us rb cb x y ho) rfl rfl rfl rfl rfl rfl) ?_
  refine zag rfl rfl (op_ner eq27 rfl gd27 tb27 (ev1 rfl) (ev1 rfl)) ?_
  refine lex_nil ?_
  refine dwp_if_t rfl (by simpa using h1) ?_
  refine zaf ?_
  refine zad ?_
  refine walk_s rfl rfl (op_stwb rfl tb4 (ev1 rfl) (ev1 rfl) rfl) (by simp only [upd, zaa, za]; exact rfl) ?_
  refine zae ?_
  refine dwp_exit ?_
  refine ⟨by first | rfl | assumption | simp_all, rfl, [0, 1, 2, 3], rfl, ⟨rfl, rfl, rfl, rfl, trivial⟩⟩
theorem samRound (w h : Int) (da db : List D) (ts us : List TL) (ra : RowOk da ts) (rb : RowOk db us) (ca : CvOk w h ts) (cb : CvOk w h us) (x y : Int) (ho : onS w h x y = true) (b : Bool) : DRound Tryz.prog 0 [.val (.agg #[.int .i64 x, .int .i64 y])] [.lp 42 [(2, .loc 1 0), (3, .loc 2 0), (5, .loc 3 0)] #[33] samA samB .ready none, .mix 33 [cvD w h da], .mix 33 [cvD w h db], .flat 4 [.bool b]] (decide (getC w ts x y = getC w us x y)) [.lp 42 [(2, .loc 1 0), (3, .loc 2 0), (5, .loc 3 0)] #[33] samA samB (rst (decide (getC w ts x y = getC w us x y))) (rpe (.exit 0) (decide (getC w ts x y = getC w us x y))), .mix 33 [cvD w h da], .mix 33 [cvD w h db], .flat 4 [.bool (b && decide (getC w ts x y = getC w us x y))]] := by
  by_cases h1 : getC w ts x y = getC w us x y
  · rw [decide_eq_true h1, Bool.and_true]
    exact samRound_true w h da db ts us ra rb ca cb x y ho b h1
  · rw [decide_eq_false h1, Bool.and_false]
    exact samRound_false w h da db ts us ra rb ca cb x y ho b h1
set_option maxRecDepth 4000 in
set_option maxHeartbeats 1000000 in
theorem pts_same (w h : Int) (da db : List D) (ts us : List TL) (ra : RowOk da ts) (rb : RowOk db us) (ca : CvOk w h ts) (cb : CvOk w h us) (b : Bool) : DFun Tryz.prog 101 [.yld 0, .loc 4 0, .loc 5 0] [.lp 42 [(2, .loc 1 0), (3, .loc 2 0), (5, .loc 3 0)] #[33] samA samB .ready none, .mix 33 [cvD w h da], .mix 33 [cvD w h db], .flat 4 [.bool b], .flat 3 [.int .i64 (h * 8)], .flat 3 [.int .i64 (w * 8)]] (.tup []) [.lp 42 [(2, .loc 1 0), (3, .loc 2 0), (5, .loc 3 0)] #[33] samA samB (rst (sameF w h ts us)) (rpe (.exit 0) (sameF w h ts us)), .mix 33 [cvD w h da], .mix 33 [cvD w h db], .flat 4 [.bool (b && (sameF w h ts us))], .flat 3 [.int .i64 (h * 8)], .flat 3 [.int .i64 (w * 8)]] := by
  have hb := mayS_b ca.may
  refine dcalls_go (N := 22) 6 (by kernel_rfl) Tryz.func101 rfl rfl rfl (by simp only [fr0, Nat.zero_add, Nat.reduceAdd]; exact rfl) rfl fun s0 hs0 => ?_
  refine zaf ?_
  refine zad ?_
  refine zab rfl rfl rfl (op_ldo rfl tb3 (ev1 rfl) rfl rfl) ?_
  refine zab rfl rfl rfl (zac (.inl rfl) (ev1 rfl)) ?_
  refine zae ?_
  refine dwp_block ?_
  refine dwp_loopS ⟨hs0, rfl⟩ (α := Nat) (fun y => [(7, .val (.int .i64 (y : Int)))]) [(0, _), (2, _), (6, _)] (fun y => []) [_, _, _, _, _, _] (fun y => (y : Int) ≤ h * 8 ∧ allEq w ts us (w * 8).toNat y = true) (fun y => (h * 8).toNat - y) 0 [0, 1, 2, 3, 4, 5] (⟨by omega, rfl⟩) rfl ⟨rfl, rfl, rfl, trivial⟩ ⟨rfl, trivial⟩ ⟨rfl, rfl, rfl, rfl, rfl, rfl, trivial⟩ ?_
  intro y hx
  simp only [upd, zaa, za, List.cons_append, List.nil_append]
  obtain ⟨hy, hey⟩ := hx
  refine zaf ?_
  refine zad ?_
  refine zab rfl rfl rfl (op_lss rfl (ev1 rfl) (ev1 rfl)) ?_
  refine zae ?_
  refine zaf ?_
  refine dwp_cond rfl (fun c1 => ?_) (fun c1 => ?_)
  · try simp only [decide_eq_true_eq, decide_eq_false_iff_not, beq_iff_eq, bne_iff_ne, beq_eq_false_iff_ne, bne_eq_false_iff_eq, Bool.not_eq_true', Bool.not_eq_false', Bool.and_eq_true, Bool.or_eq_true, Bool.or_eq_false_iff, ne_eq, Decidable.not_not, Int.not_lt, Int.not_le] at c1
    refine zal ?_
    refine zaf ?_
    refine dwp_block ?_
    refine zaf ?_
    refine zad ?_
    refine zab rfl rfl rfl (zac (.inl rfl) (ev1 rfl)) ?_
    refine zab rfl rfl rfl (zac (.inr rfl) (ev1 rfl)) ?_
    refine zae ?_
    refine zaf ?_
    refine zad ?_
    refine zab rfl rfl rfl (op_ldo rfl tb3 (ev1 rfl) rfl rfl) ?_
    refine zab rfl rfl rfl (zac (.inl rfl) (ev1 rfl)) ?_
    refine zae ?_
    refine dwp_block ?_
    refine dwp_loopS ⟨hs0, rfl⟩ (α := Nat) (fun x => [(11, .val (.int .i64 (x : Int)))]) [(0, _), (2, _), (4, _), (6, _), (7, _), (10, _)] (fun x => []) [_, _, _, _, _, _] (fun x => (x : Int) ≤ w * 8 ∧ rowEq w ts us y x = true) (fun x => (w * 8).toNat - x) 0 [0, 1, 2, 3, 4, 5] (⟨by omega, rfl⟩) rfl ⟨rfl, rfl, rfl, rfl, rfl, rfl, trivial⟩ ⟨rfl, trivial⟩ ⟨rfl, rfl, rfl, rfl, rfl, rfl, trivial⟩ ?_
    intro x hx
    simp only [upd, zaa, za, List.cons_append, List.nil_append]
    obtain ⟨hx2, hex⟩ := hx
    refine zaf ?_
    refine zad ?_
    refine zab rfl rfl rfl (op_lss rfl (ev1 rfl) (ev1 rfl)) ?_
    refine zae ?_
    refine zaf ?_
    refine dwp_cond rfl (fun c2 => ?_) (fun c2 => ?_)
    · try simp only [decide_eq_true_eq, decide_eq_false_iff_not, beq_iff_eq, bne_iff_ne, beq_eq_false_iff_ne, bne_eq_false_iff_eq, Bool.not_eq_true', Bool.not_eq_false', Bool.and_eq_true, Bool.or_eq_true, Bool.or_eq_false_iff, ne_eq, Decidable.not_not, Int.not_lt, Int.not_le] at c2
      refine zal ?_
      refine zaf ?_
      refine dwp_block ?_
      refine zaf ?_
      refine zad ?_
      refine zab rfl rfl rfl (zac (.inl rfl) (ev1 rfl)) ?_
      refine zab rfl rfl rfl (zac (.inr rfl) (ev1 rfl)) ?_
      refine zae ?_
      refine zaf ?_
      have ho : onS w h (x : Int) (y : Int) = true := onS_iff.2 ⟨by omega, by omega⟩
      refine zad ?_
      refine zab rfl rfl rfl (zac (.inl rfl) (ev1 rfl)) ?_
      refine zab rfl rfl rfl (zac (.inl rfl) (ev1 rfl)) ?_
      refine zab rfl rfl rfl (zac (.inl rfl) (ev1 rfl)) ?_
      refine zab rfl rfl rfl (op_build (ps := [(0, .tmp 15), (1, .tmp 16)]) rfl fl51 zr51 (vc (ev1 rfl) (vc (ev1 rfl) vn)) rfl rfl) ?_
      refine zaj rfl rfl rfl (op_y (i := 0) [0, 1, 2, 3] [] [] rfl (ev1 rfl) (ec (ev1 rfl) en) rfl rfl rfl (samRound w h da db ts us ra rb ca cb x y ho b) rfl rfl rfl rfl rfl) (by simp only [upd, zaa, za]; exact rfl) ?_
      refine zab rfl rfl rfl (op_not rfl (ev1 rfl)) ?_
      refine zae ?_
      refine dwp_cond rfl (fun c3 => ?_) (fun c3 => ?_)
      · have e1 : decide (getC w ts (x : Int) (y : Int) = getC w us (x : Int) (y : Int)) = false := by simpa using c3
        refine dwp_ret ?_
        have e2 : sameF w h ts us = false := sameF_no (x := x) (y := y) (by omega) (by omega) (by simpa using e1)
        rw [e2, e1]
        refine kend [0, 1, 2, 3, 4, 5] (res_none rfl) rfl rfl ?_ ⟨rfl, rfl, rfl, rfl, rfl, rfl, trivial⟩
        rfl
      · have e1 : decide (getC w ts (x : Int) (y : Int) = getC w us (x : Int) (y : Int)) = true := by simpa using c3
        refine zal ?_
        refine zad ?_
        refine zab rfl rfl rfl (op_add' rfl (ev1 rfl) (ev1 rfl) (fun _ => IntWalk.i64_in _ (by omega))) ?_
        refine zab rfl rfl rfl (zac (.inl rfl) (ev1 rfl)) ?_
        refine zae ?_
        rw [e1, Bool.and_true]
        refine ⟨x + 1, [0, 1, 2, 3, 4, 5], ⟨by omega, by rw [rowEq_succ, hex, e1]; rfl⟩, by simp only []; omega, rfl, ⟨rfl, rfl, rfl, rfl, rfl, rfl, rfl, trivial⟩, ⟨rfl, rfl, rfl, rfl, rfl, rfl, trivial⟩⟩
    · try simp only [decide_eq_true_eq, decide_eq_false_iff_not, beq_iff_eq, bne_iff_ne, beq_eq_false_iff_ne, bne_eq_false_iff_eq, Bool.not_eq_true', Bool.not_eq_false', Bool.and_eq_true, Bool.or_eq_true, Bool.or_eq_false_iff, ne_eq, Decidable.not_not, Int.not_lt, Int.not_le] at c2
      refine dwp_exit ?_
      refine zad ?_
      refine zab rfl rfl rfl (op_add' rfl (ev1 rfl) (ev1 rfl) (fun _ => IntWalk.i64_in _ (by omega))) ?_
      refine zab rfl rfl rfl (zac (.inl rfl) (ev1 rfl)) ?_
      refine zae ?_
      obtain rfl : x = (w * 8).toNat := by omega
      refine ⟨y + 1, [0, 1, 2, 3, 4, 5], ⟨by omega, by rw [allEq_succ, hey, hex]; rfl⟩, by simp only []; omega, rfl, ⟨rfl, rfl, rfl, rfl, trivial⟩, ⟨rfl, rfl, rfl, rfl, rfl, rfl, trivial⟩⟩
  · try simp only [decide_eq_true_eq, decide_eq_false_iff_not, beq_iff_eq, bne_iff_ne, beq_eq_false_iff_ne, bne_eq_false_iff_eq, Bool.not_eq_true', Bool.not_eq_false', Bool.and_eq_true, Bool.or_eq_true, Bool.or_eq_false_iff, ne_eq, Decidable.not_not, Int.not_lt, Int.not_le] at c1
    refine dwp_exit ?_
    have e2 : sameF w h ts us = true := by rw [sameF, show (h * 8).toNat = y by omega]; exact hey
    rw [e2, Bool.and_true]
    refine kend [0, 1, 2, 3, 4, 5] (res_none rfl) rfl rfl ?_ ⟨rfl, rfl, rfl, rfl, rfl, rfl, trivial⟩
    rfl
set_option maxRecDepth 4000 in
set_option maxHeartbeats 1000000 in
theorem same_cv (w h : Int) (da db : List D) (ts us : List TL) (ra : RowOk da ts) (rb : RowOk db us) (ca : CvOk w h ts) (cb : CvOk w h us)  : DFun Tryz.prog 36 [cvD w h da, cvD w h db] [] (.val (.bool (decide (ts = us)))) [] := by
  refine dcalls_go (N := 42) 0 (by kernel_rfl) Tryz.func36 rfl rfl rfl (by simp only [fr0, Nat.zero_add, Nat.reduceAdd]; exact rfl) rfl fun s0 hs0 => ?_
  refine zaf ?_
  refine zai 2 (by simp only [holes, List.cons_append, List.nil_append]; exact rfl) ?_
  refine zad ?_
  refine zaj rfl rfl rfl (op_boxm 0 rfl (ev1 rfl) (fun s v h => by cases h <;> rfl) rfl) (by simp only [upd, zaa, za]; exact rfl) ?_
  refine zaj rfl rfl rfl (op_boxm 1 rfl (ev1 rfl) (fun s v h => by cases h <;> rfl) rfl) (by simp only [upd, zaa, za]; exact rfl) ?_
  refine zab rfl rfl rfl (zac (.inr rfl) (ev1 rfl)) ?_
  refine zae ?_
  refine dwp_scope ?_
  refine zaf ?_
  refine zaf ?_
  refine zad ?_
  refine zab rfl rfl rfl (op_ldm rfl tb33 (ev1 rfl) rfl rfl) ?_
  refine zab rfl rfl rfl (op_pnilm rfl pt33 (ev1 rfl)) ?_
  refine zab rfl rfl rfl (zac (.inl rfl) (ev1 rfl)) ?_
  refine zak (gd_f rfl rfl rfl) rfl rfl rfl (op_ldm rfl tb33 (ev1 rfl) rfl rfl) ?_
  refine zak (gd_f rfl rfl rfl) rfl rfl rfl (op_pnilm rfl pt33 (ev2 rfl)) ?_
  refine zab rfl rfl rfl (op_or rfl (ev1 rfl) (ev3 rfl id)) ?_
  refine zae ?_
  refine dwp_if_f rfl (by simp) ?_
  refine zal ?_
  refine zaf ?_
  refine zaf ?_
  refine dwp_draw [([0], []), ([], []), ([], []), ([], []), ([1], []), ([], []), ([], []), ([], []), ([], [])] mixed (by kernel_rfl) ?_
  refine zag rfl rfl (op_ldm rfl tb33 (ev1 rfl) rfl rfl) ?_
  refine zag rfl rfl (op_nc rfl (ev1 rfl) (fun s v h => by cases h; exact ⟨_, rfl⟩)) ?_
  refine zag rfl rfl (op_fadm rfl fo82_0 (ev1 rfl)) ?_
  refine zag rfl rfl (op_lddv [_, _] rfl tb76 (ev1 rfl) rfl rfl) ?_
  refine zag rfl rfl (op_ldm rfl tb33 (ev1 rfl) rfl rfl) ?_
  refine zag rfl rfl (op_nc rfl (ev1 rfl) (fun s v h => by cases h; exact ⟨_, rfl⟩)) ?_
  refine zag rfl rfl (op_fadm rfl fo82_0 (ev1 rfl)) ?_
  refine zag rfl rfl (op_lddv [_, _] rfl tb76 (ev1 rfl) rfl rfl) ?_
  refine zag rfl rfl (op_ner eq76 rfl gd76 tb76 (ev1 rfl) (ev1 rfl)) ?_
  refine lex_nil ?_
  refine dwp_if_f rfl (by simp) ?_
  refine zal ?_
  refine zaf ?_
  refine zai 1 (by simp only [holes, List.cons_append, List.nil_append]; exact rfl) ?_
  refine zad ?_
  refine zaj rfl rfl rfl (op_alloc 2 rfl zr4 rfl) (by simp only [upd, zaa, za]; exact rfl) ?_
  refine walk_s rfl rfl (op_stwb rfl tb4 (ev1 rfl) (ev1 rfl) rfl) (by simp only [upd, zaa, za]; exact rfl) ?_
  refine zae ?_
  refine zaf ?_
  refine dwp_label ?_
  refine zaf ?_
  refine zaf ?_
  refine zai 2 (by simp only [holes, List.cons_append, List.nil_append]; exact rfl) ?_
  refine zad ?_
  refine zab rfl rfl rfl (op_ldm rfl tb33 (ev1 rfl) rfl rfl) ?_
  refine zab rfl rfl rfl (op_nc rfl (ev1 rfl) (fun s v h => by cases h; exact ⟨_, rfl⟩)) ?_
  refine zab rfl rfl rfl (op_fadm rfl fo82_0 (ev1 rfl)) ?_
  refine zab rfl rfl rfl (op_lddv [_, _] rfl tb76 (ev1 rfl) rfl rfl) ?_
  refine zaj rfl rfl rfl (zah [] [] [3, 4] rfl (ev1 rfl) (ec (ev1 rfl) en) rfl rfl (points_d w h ca.may) rfl rfl rfl rfl rfl rfl) (by simp only [upd, zaa, za]; exact rfl) ?_
  refine zae ?_
  refine dwp_block ?_
  refine dwp_hole ?_
  simp only [List.cons_append, List.nil_append]
  refine dwp_rf (FL := [(2, _), (3, _), (5, _)]) (st := (rst (sameF w h ts us))) (pe := (rpe (.exit 0) (sameF w h ts us))) [5, 0, 1, 2, 3, 4] [] [] 5 rfl rfl (ev1 rfl) rfl (subF_lk ⟨rfl, rfl, rfl, trivial⟩) rfl rfl rfl (pts_same w h da db ts us ra rb ca cb _) rfl rfl rfl rfl rfl rfl rfl (rst_busy _) (fun e => ?_) (fun c e => ?_)
  · simp only [upd, zaa, za]
    refine zaf ?_
    refine zad ?_
    refine zab rfl rfl rfl (op_ldo rfl tb4 (ev1 rfl) rfl rfl) ?_
    refine zab rfl rfl rfl (zac (.inr rfl) (ev1 rfl)) ?_
    refine zae ?_
    refine dwp_ret ?_
    refine kend0 (rs1 rfl (rv_t rfl)) rfl ?_
    rw [← sameF_iff ca cb]
    rfl
  · obtain ⟨e1, rfl⟩ : sameF w h ts us = false ∧ c = .exit 0 := by
      cases h : sameF w h ts us <;> simp_all [rpe]
    simp only [upd, zaa, za]
    refine dwp_exit ?_
    refine zaf ?_
    refine zad ?_
    refine zab rfl rfl rfl (op_ldo rfl tb4 (ev1 rfl) rfl rfl) ?_
    refine zab rfl rfl rfl (zac (.inr rfl) (ev1 rfl)) ?_
    refine zae ?_
    refine dwp_ret ?_
    refine kend0 (rs1 rfl (rv_t rfl)) rfl ?_
    rw [← sameF_iff ca cb]
    rfl
end Go.Proofs.YtjgnalfnginjbaaGreatDoor
namespace Go.Proofs.YtjgnalfnginjbaaGreatDoor
set_option maxRecDepth 4000
set_option linter.unusedVariables false
set_option linter.unusedSimpArgs false
open Go.RowKit
def hasB (l : List Sp) (p : P2) : Bool := decide (hasS l p.x p.y)
end Go.Proofs.YtjgnalfnginjbaaGreatDoor
namespace Go.Proofs.YtjgnalfnginjbaaGreatDoor
set_option maxRecDepth 4000
set_option linter.unusedVariables false
set_option linter.unusedSimpArgs false
open Go.RowKit
theorem drw_get {k : Bool} {w h : Int} {ts : List TL} (hc : CvOk w h ts) (c : C4) (l : List Sp) {x y : Int} (ho : onS w h x y = true) : getC w (drwC k w h ts c l) x y = if hasB l ⟨x, y⟩ = true then cmC k (getC w ts x y) c else getC w ts x y := by
  unfold drwC
  rw [puts_tell hc (f := fun p : P2 => cmC k (getC w ts p.x p.y) c) (fun d hd => dtK_tell k w ts c _ d hd) ho]
  have e : (∃ d ∈ (ptsS l).map (dtK k w ts c), d.x = x ∧ d.y = y) ↔ hasB l ⟨x, y⟩ = true := by
    rw [dtK_at, ptsS_mem]
    unfold hasB
    rw [decide_eq_true_eq]
  by_cases g : hasB l ⟨x, y⟩ = true
  · rw [if_pos g, if_pos (e.2 g)]
  · rw [if_neg g, if_neg fun q => g (e.1 q)]
end Go.Proofs.YtjgnalfnginjbaaGreatDoor
namespace Go.Proofs.YtjgnalfnginjbaaGreatDoor
set_option maxRecDepth 4000
set_option linter.unusedVariables false
set_option linter.unusedSimpArgs false
open Go.RowKit
theorem drw_same {w h : Int} {ts : List TL} (hc : CvOk w h ts) (k : Bool) (c : C4) {l m : List Sp} (he : ∀ x y, hasS l x y ↔ hasS m x y) : drwC k w h ts c l = drwC k w h ts c m :=
  cv_ext (drwC_ok hc _ _ _) (drwC_ok hc _ _ _) fun x y ho => by
    have e : hasB l ⟨x, y⟩ = hasB m ⟨x, y⟩ := by unfold hasB; rw [decide_eq_decide]; exact he x y
    rw [drw_get hc c l ho, drw_get hc c m ho, e]
theorem drw_both {w h : Int} {ts : List TL} (hc : CvOk w h ts) (c : C4) {l m n : List Sp} (he : ∀ x y, hasS n x y ↔ hasS l x y ∨ hasS m x y) : drwC false w h (drwC false w h ts c l) c m = drwC false w h ts c n :=
  cv_ext (drwC_ok (drwC_ok hc _ _ _) _ _ _) (drwC_ok hc _ _ _) fun x y ho => by
    rw [drw_get (drwC_ok hc _ _ _) c m ho, drw_get hc c n ho, drw_get hc c l ho]
    have e : hasB n ⟨x, y⟩ = (hasB l ⟨x, y⟩ || hasB m ⟨x, y⟩) := by
      unfold hasB
      rw [Bool.eq_iff_iff, Bool.or_eq_true, decide_eq_true_eq, decide_eq_true_eq, decide_eq_true_eq]
      exact he x y
    rw [e]
    cases hasB l ⟨x, y⟩ <;> cases hasB m ⟨x, y⟩ <;> rfl
end Go.Proofs.YtjgnalfnginjbaaGreatDoor
namespace Go.Proofs.YtjgnalfnginjbaaGreatDoor
set_option maxRecDepth 4000
set_option linter.unusedVariables false
set_option linter.unusedSimpArgs false
open Go.RowKit
def swp (l : List P2) (k : Nat) : List P2 := (l.set k (l.getD (l.length - 1 - k) zP2)).set (l.length - 1 - k) (l.getD k zP2)
theorem swp_len (l : List P2) (k : Nat) : (swp l k).length = l.length := by unfold swp; simp
theorem swp_eq {L : List P2} {n k : Nat} (hn : L.length = n) (h1 : k < L.length) (h2 : n - 1 - k < L.length) : swp L k = (L.set k L[n - 1 - k]).set (n - 1 - k) L[k] := by
  subst hn
  unfold swp
  rw [List.getD_eq_getElem?_getD, List.getD_eq_getElem?_getD, List.getElem?_eq_getElem h1, List.getElem?_eq_getElem h2]
  rfl
def rvTo (l : List P2) : Nat → List P2
  | 0 => l
  | k + 1 => swp (rvTo l k) k
theorem rvTo_len (l : List P2) : ∀ k, (rvTo l k).length = l.length
  | 0 => rfl
  | k + 1 => by show (swp _ _).length = _; rw [swp_len, rvTo_len l k]
theorem rvTo_at (l : List P2) : ∀ k, 2 * k ≤ l.length + 1 → ∀ i (hi : i < l.length), (rvTo l k)[i]? = if i < k ∨ l.length - 1 - k < i then l[l.length - 1 - i]? else l[i]?
  | 0, _, i, hi => by
    rw [if_neg (by omega)]
    rfl
  | k + 1, h, i, hi => by
    have hl := rvTo_len l k
    have ih := fun j hj => rvTo_at l k (by omega) j hj
    show (swp (rvTo l k) k)[i]? = _
    unfold swp
    rw [hl, List.getElem?_set, List.getElem?_set]
    have g1 : (rvTo l k).getD k zP2 = l.getD k zP2 := by
      rw [List.getD_eq_getElem?_getD, List.getD_eq_getElem?_getD, ih k (by omega), if_neg (by omega)]
    have g2 : (rvTo l k).getD (l.length - 1 - k) zP2 = l.getD (l.length - 1 - k) zP2 := by
      rw [List.getD_eq_getElem?_getD, List.getD_eq_getElem?_getD, ih _ (by omega), if_neg (by omega)]
    have e : ∀ j, j < l.length → some (l.getD j zP2) = l[j]? := fun j hj => by
      rw [List.getD_eq_getElem?_getD, List.getElem?_eq_getElem hj]; rfl
    by_cases h1 : l.length - 1 - k = i
    · rw [if_pos h1, if_pos (by simp [hl]; omega), g1, if_pos (by omega), e k (by omega)]
      congr 1
      omega
    · rw [if_neg h1]
      by_cases h2 : k = i
      · rw [if_pos h2, if_pos (by omega), g2, if_pos (by omega), e _ (by omega)]
        congr 1
        omega
      · rw [if_neg h2, ih i hi]
        by_cases h3 : i < k ∨ l.length - 1 - k < i
        · rw [if_pos h3, if_pos (by omega)]
        · rw [if_neg h3, if_neg (by omega)]
theorem rvTo_end (l : List P2) {k : Nat} (h1 : 2 * k ≤ l.length + 1) (h2 : l.length ≤ 2 * k + 1) : rvTo l k = l.reverse := by
  apply List.ext_getElem?
  intro i
  by_cases hi : i < l.length
  · rw [rvTo_at l k h1 i hi, List.getElem?_reverse hi]
    by_cases h3 : i < k ∨ l.length - 1 - k < i
    · rw [if_pos h3]
    · rw [if_neg h3]
      congr 1
      omega
  · rw [List.getElem?_eq_none (by rw [rvTo_len]; omega), List.getElem?_eq_none (by simp; omega)]
theorem reb_eq {k k' : Blk} (h : k = k') : ∀ s v, BlkOk s v k → BlkOk s v k' := fun s v hk => h ▸ hk
theorem swL_rev {r : Bool} {n : Int} {l : List P2} (h : swB n l = true) (h2 : swB n l.reverse = true) (x y : Int) : hasS (swL r n l.reverse) x y ↔ hasS (swL r n l) x y := by
  rw [swL_has h, swL_has h2]
  simp only [List.mem_reverse]
theorem swL_add {r : Bool} {n : Int} {l : List P2} {k : Nat} (hk : k < l.length) (h : swB n l = true) (x y : Int) : hasS (swL r n (l.take (k + 1))) x y ↔ hasS (swL r n (l.take k)) x y ∨ hasS (swL r n [l[k]]) x y := by
  obtain ⟨h1, h2⟩ := swB_iff.1 h
  have b1 : swB n (l.take (k + 1)) = true := swB_iff.2 ⟨h1, fun p hp => h2 p (List.mem_of_mem_take hp)⟩
  have b2 : swB n (l.take k) = true := swB_iff.2 ⟨h1, fun p hp => h2 p (List.mem_of_mem_take hp)⟩
  have b3 : swB n [l[k]] = true := swB_iff.2 ⟨h1, fun p hp => by rw [List.mem_singleton.1 hp]; exact h2 _ (List.getElem_mem hk)⟩
  rw [swL_has b1, swL_has b2, swL_has b3, List.take_succ_eq_append_getElem hk]
  constructor
  · rintro ⟨p, hp, g⟩
    rcases List.mem_append.1 hp with hp | hp
    · exact .inl ⟨p, hp, g⟩
    · exact .inr ⟨p, hp, g⟩
  · rintro (⟨p, hp, g⟩ | ⟨p, hp, g⟩)
    · exact ⟨p, List.mem_append.2 (.inl hp), g⟩
    · exact ⟨p, List.mem_append.2 (.inr hp), g⟩
theorem sw_rev {n : Int} {l : List P2} (h : swB n l = true) : swB n l.reverse = true := by
  obtain ⟨h1, h2⟩ := swB_iff.1 h
  exact swB_iff.2 ⟨h1, fun p hp => h2 p (List.mem_reverse.1 hp)⟩
theorem sw_one {n : Int} {l : List P2} (h : swB n l = true) {k : Nat} (hk : k < l.length) : swB n [l[k]] = true := by
  obtain ⟨h1, h2⟩ := swB_iff.1 h
  exact swB_iff.2 ⟨h1, fun p hp => by rw [List.mem_singleton.1 hp]; exact h2 _ (List.getElem_mem hk)⟩
theorem swL_none (r : Bool) (n : Int) : swL r n [] = [] := by
  unfold swL
  split
  · exact norm_calc (l := []) (m := []) (.refl _) List.Pairwise.nil (fun s h => by cases h) rfl
  · rfl
theorem drw_none (w h : Int) (ts : List TL) (c : C4) : drwC false w h ts c [] = ts := rfl
set_option maxRecDepth 4000 in
set_option maxHeartbeats 1000000 in
theorem revP (l : List P2) : DFun Tryz.prog 40 [.arr 0] [.arr 51 2 (l).length ((l).flatMap p2)] (.tup []) [.arr 51 2 l.length ((l.reverse).flatMap p2)] := by
  refine dcalls_go (N := 28) 1 (by kernel_rfl) Tryz.func40 rfl rfl rfl (by simp only [fr0, Nat.zero_add, Nat.reduceAdd]; exact rfl) rfl fun s0 hs0 => ?_
  refine dwp_lena (i := 0) rfl fun hl0 hL0 => ?_
  refine zaf ?_
  refine zad ?_
  refine zab rfl rfl rfl (zac (.inl rfl) (ev1 rfl)) ?_
  refine zab rfl rfl rfl (op_lena rfl sl48 (ev1 rfl) rfl) ?_
  refine zab rfl rfl rfl (op_sub' rfl (ev1 rfl) (ev1 rfl) (fun _ => IntWalk.i64_in _ (by omega))) ?_
  refine zab rfl rfl rfl (zac (.inr rfl) (ev1 rfl)) ?_
  refine zab rfl rfl rfl (zac (.inr rfl) (ev1 rfl)) ?_
  refine zae ?_
  refine dwp_block ?_
  refine dwp_loopS ⟨hs0, rfl⟩ (α := Nat) (fun k => [(2, .val (.int .i64 (k : Int))), (3, .val (.int .i64 ((l.length : Int) - 1 - (k : Int))))]) [(0, _)] (fun k => [(0, .arr 51 2 l.length ((rvTo l k).flatMap p2))]) [.hole] (fun k => 2 * k ≤ l.length + 1) (fun k => l.length - k) 0 [0] (by omega) rfl ⟨rfl, trivial⟩ ⟨rfl, congrArg (fun z => some (D.val (.int .i64 z))) (by omega), trivial⟩ ⟨rfl, trivial⟩ ?_
  intro k hx
  simp only [upd, zaa, za, List.cons_append, List.nil_append]
  have hk := hx
  have hLl := rvTo_len l k
  refine zaf ?_
  refine zaf ?_
  refine zad ?_
  refine zab rfl rfl rfl (zac (.inl rfl) (ev1 rfl)) ?_
  refine zab rfl rfl rfl (zac (.inl rfl) (ev1 rfl)) ?_
  refine zab rfl rfl rfl (op_lss rfl (ev1 rfl) (ev1 rfl)) ?_
  refine zae ?_
  refine dwp_cond rfl (fun c1 => ?_) (fun c1 => ?_)
  · try simp only [decide_eq_true_eq, decide_eq_false_iff_not, beq_iff_eq, bne_iff_ne, beq_eq_false_iff_ne, bne_eq_false_iff_eq, Bool.not_eq_true', Bool.not_eq_false', Bool.and_eq_true, Bool.or_eq_true, Bool.or_eq_false_iff, ne_eq, Decidable.not_not, Int.not_lt, Int.not_le] at c1
    refine zal ?_
    refine zaf ?_
    refine dwp_block ?_
    obtain ⟨L, hL⟩ : ∃ L, L = rvTo l k := ⟨_, rfl⟩
    rw [← hL] at hLl ⊢
    refine dwp_draw [([], []), ([], []), ([], []), ([], []), ([], []), ([], []), ([0], []), ([0], []), ([], []), ([], []), ([0], []), ([0], []), ([0], []), ([0], [0]), ([0], []), ([0], [0])] mixed (by kernel_rfl) ?_
    refine zag rfl rfl (zac (.inl rfl) (ev1 rfl)) ?_
    refine zag rfl rfl (zac (.inl rfl) (ev1 rfl)) ?_
    refine zag rfl rfl (zac (.inl rfl) (ev1 rfl)) ?_
    refine zag rfl rfl (zac (.inl rfl) (ev1 rfl)) ?_
    refine zag rfl rfl (zac (.inl rfl) (ev1 rfl)) ?_
    refine zag rfl rfl (zac (.inl rfl) (ev1 rfl)) ?_
    refine zag rfl rfl (op_ixar (j := l.length - 1 - k) rfl sl48 (ev1 rfl) (ev1 rfl) rfl (fun _ => by first | rfl | omega) (fun _ => by omega)) ?_
    refine zag rfl rfl (op_ldar rfl tb51 (ev1 rfl) rfl (fun _ => rfl) (by omega)) ?_
    refine zag rfl rfl (zac (.inl rfl) (ev1 rfl)) ?_
    refine zag rfl rfl (zac (.inl rfl) (ev1 rfl)) ?_
    refine zag rfl rfl (op_ixar (j := k) rfl sl48 (ev1 rfl) (ev1 rfl) rfl (fun _ => by first | rfl | omega) (fun _ => by omega)) ?_
    refine zag rfl rfl (op_ldar rfl tb51 (ev1 rfl) rfl (fun _ => rfl) (by omega)) ?_
    refine zag rfl rfl (op_ixar (j := k) rfl sl48 (ev1 rfl) (ev1 rfl) rfl (fun _ => by first | rfl | omega) (fun _ => by omega)) ?_
    refine lex_s rfl rfl (op_star rfl tb51 (ev1 rfl) rfl (ev1 rfl) (fun _ => rfl) (by first | omega | (simp only [List.length_set]; omega)) rfl) rfl (by simp only [upd, zaa, za]; exact rfl) ?_
    refine zag rfl rfl (op_ixar (j := l.length - 1 - k) rfl sl48 (ev1 rfl) (ev1 rfl) rfl (fun _ => by first | rfl | omega) (fun _ => by omega)) ?_
    refine lex_s rfl rfl (op_star rfl tb51 (ev1 rfl) rfl (ev1 rfl) (fun _ => rfl) (by first | omega | (simp only [List.length_set]; omega)) rfl) rfl (by simp only [upd, zaa, za]; exact rfl) ?_
    refine lex_nil ?_
    refine zad ?_
    refine zab rfl rfl rfl (zac (.inl rfl) (ev1 rfl)) ?_
    refine zab rfl rfl rfl (op_add' rfl (ev1 rfl) (ev1 rfl) (fun _ => IntWalk.i64_in _ (by omega))) ?_
    refine zab rfl rfl rfl (zac (.inl rfl) (ev1 rfl)) ?_
    refine zab rfl rfl rfl (op_sub' rfl (ev1 rfl) (ev1 rfl) (fun _ => IntWalk.i64_in _ (by omega))) ?_
    refine zab rfl rfl rfl (zac (.inr rfl) (ev1 rfl)) ?_
    refine zab rfl rfl rfl (zac (.inr rfl) (ev1 rfl)) ?_
    refine zae ?_
    refine ⟨k + 1, [0], by omega, by simp only []; omega, rfl, ⟨rfl, congrArg (fun z => some (D.val (.int .i64 z))) (by omega), rfl, trivial⟩, ⟨by rw [show rvTo l (k + 1) = (L.set k L[l.length - 1 - k]).set (l.length - 1 - k) L[k] from by rw [show rvTo l (k + 1) = swp L k by rw [hL]; rfl, swp_eq hLl (by omega) (by omega)]]; rfl, trivial⟩⟩
  · try simp only [decide_eq_true_eq, decide_eq_false_iff_not, beq_iff_eq, bne_iff_ne, beq_eq_false_iff_ne, bne_eq_false_iff_eq, Bool.not_eq_true', Bool.not_eq_false', Bool.and_eq_true, Bool.or_eq_true, Bool.or_eq_false_iff, ne_eq, Decidable.not_not, Int.not_lt, Int.not_le] at c1
    refine dwp_exit ?_
    rw [rvTo_end l hk (by omega)]
    refine kend [0] (res_none rfl) rfl rfl ?_ ⟨rfl, trivial⟩
    rfl
set_option maxRecDepth 4000 in
set_option maxHeartbeats 1000000 in
theorem sweep_w (l : List P2) (n : Nat) (r : Bool) (hn : n ≤ 15) (hd : drwL l = true) (hl : l.length ≤ 1000) : DFun Tryz.prog 65 [.arr 0, .val (.int .i64 (n : Int)), .val (.bool r)] [.arr 51 2 (l).length ((l).flatMap p2)] (.tup [.slf 3 (swA r n l).length ((swA r n l).flatMap s3), .val (.int .i64 0)]) [.arr 51 2 (l).length ((l).flatMap p2)] := by
  have hbl := brS_len (r := r) hn
  have hbm : (brS r n).length * l.length ≤ 961 * 1000 := Nat.mul_le_mul hbl hl
  have hbz : ((brS r n).length : Int) * (l.length : Int) = (((brS r n).length * l.length : Nat) : Int) := by push_cast; rfl
  have hbd : ∀ s ∈ brS r n, bdS s := fun s hs => by
    have h1 := brS_in s hs
    have h2 := (brS_ok r n).1.1 s hs
    unfold bdS
    omega
  refine dcalls_go (N := 42) 1 (by kernel_rfl) Tryz.func65 rfl rfl rfl (by simp only [fr0, Nat.zero_add, Nat.reduceAdd]; exact rfl) rfl fun s0 hs0 => ?_
  refine dwp_lena (i := 0) rfl fun hl0 hL0 => ?_
  refine zaf ?_
  refine zad ?_
  refine zab rfl rfl rfl (zac (.inr rfl) (ev1 rfl)) ?_
  refine zab rfl rfl rfl (zac (.inr rfl) (ev1 rfl)) ?_
  refine zae ?_
  refine zaf ?_
  refine zaf ?_
  refine zad ?_
  refine zab rfl rfl rfl (zac (.inl rfl) (ev1 rfl)) ?_
  refine zab rfl rfl rfl (zah [] [] [] rfl (ev1 rfl) (ec (ev1 rfl) en) rfl rfl (isSize_d _) rfl rfl rfl rfl rfl rfl) ?_
  refine zab rfl rfl rfl (op_not rfl (ev1 rfl)) ?_
  refine zab rfl rfl rfl (zac (.inl rfl) (ev1 rfl)) ?_
  refine zak (gd_f rfl rfl rfl) rfl rfl rfl (zac (.inl rfl) (ev1 rfl)) ?_
  refine zak (gd_f rfl rfl rfl) rfl rfl rfl (zah [] [0] [] rfl (ev1 rfl) (ec (ev2 rfl) en) rfl rfl (undrawn_d l) rfl rfl rfl rfl rfl rfl) ?_
  refine zab rfl rfl rfl (op_or rfl (ev1 rfl) (ev3 rfl id)) ?_
  refine zae ?_
  refine dwp_if_f rfl (by rw [hd]; simp; omega) ?_
  refine zal ?_
  refine zaf ?_
  refine zad ?_
  refine zab rfl rfl rfl (zac (.inl rfl) (ev1 rfl)) ?_
  refine zab rfl rfl rfl (zac (.inl rfl) (ev1 rfl)) ?_
  refine zab rfl rfl rfl (zah [] [] [] rfl (ev1 rfl) (ec (ev1 rfl) (ec (ev1 rfl) en)) rfl rfl (brush_d r n hn) rfl rfl rfl rfl rfl rfl) ?_
  refine zab rfl rfl rfl (zac (.inr rfl) (ev1 rfl)) ?_
  refine zae ?_
  refine zaf ?_
  refine zai 1 (by simp only [holes, List.cons_append, List.nil_append]; exact rfl) ?_
  refine zad ?_
  refine zab rfl rfl rfl (zac (.inl rfl) (ev1 rfl)) ?_
  refine zab rfl rfl rfl (op_len rfl sl25 (ev1 rfl)) ?_
  refine zab rfl rfl rfl (zac (.inl rfl) (ev1 rfl)) ?_
  refine zab rfl rfl rfl (op_lena rfl sl48 (ev1 rfl) rfl) ?_
  refine zab rfl rfl rfl (op_mul' rfl (ev1 rfl) (ev1 rfl) (fun _ => IntWalk.i64_in _ (by omega))) ?_
  refine zaj rfl rfl rfl (op_mk0 1 ((brS r n).length * l.length) rfl sl25 zr32 (ev1 rfl) (ev1 rfl) (fun _ => rfl) (fun _ => by rw [hbz]) rfl (fun _ => by omega)) (by simp only [upd, zaa, za]; exact rfl) ?_
  refine zab rfl rfl rfl (zac (.inr rfl) (ev1 rfl)) ?_
  refine zae ?_
  refine zaf ?_
  refine zaf ?_
  refine zad ?_
  refine zab rfl rfl rfl (zac (.inl rfl) (ev1 rfl)) ?_
  refine zab rfl rfl rfl (op_lena rfl sl48 (ev1 rfl) rfl) ?_
  refine zab rfl rfl rfl (zac (.inl rfl) (ev1 rfl)) ?_
  refine zae ?_
  refine dwp_block ?_
  refine dwp_loopS ⟨hs0, rfl⟩ (α := Nat) (fun i => [(30, .val (.int .i64 (i : Int)))]) [(8, _), (9, _), (28, _), (29, _)] (fun i => [(1, .arr 32 3 (swK r n (l.take i)).length ((swK r n (l.take i)).flatMap s3))]) [_, .hole] (fun i => i ≤ l.length) (fun i => l.length - i) 0 [0, 1] (Nat.zero_le _) rfl ⟨rfl, rfl, rfl, rfl, trivial⟩ ⟨rfl, trivial⟩ ⟨rfl, rfl, trivial⟩ ?_
  intro i hx
  simp only [upd, zaa, za, List.cons_append, List.nil_append]
  have hi0 := hx
  have hsl := swK_len (r := r) hn (l.take i)
  rw [List.length_take] at hsl
  have hs2 : min i l.length * 961 ≤ 1000 * 961 := Nat.mul_le_mul_right _ (by omega)
  refine zaf ?_
  refine zad ?_
  refine zab rfl rfl rfl (op_lss rfl (ev1 rfl) (ev1 rfl)) ?_
  refine zae ?_
  refine zaf ?_
  refine dwp_cond rfl (fun c2 => ?_) (fun c2 => ?_)
  · try simp only [decide_eq_true_eq, decide_eq_false_iff_not, beq_iff_eq, bne_iff_ne, beq_eq_false_iff_ne, bne_eq_false_iff_eq, Bool.not_eq_true', Bool.not_eq_false', Bool.and_eq_true, Bool.or_eq_true, Bool.or_eq_false_iff, ne_eq, Decidable.not_not, Int.not_lt, Int.not_le] at c2
    refine zal ?_
    refine zaf ?_
    refine dwp_block ?_
    refine zaf ?_
    have hi : i < l.length := by omega
    have hpd := drwL_mem hd (List.getElem_mem hi)
    have hml : ((brS r n).map (Sp.sh l[i])).length ≤ 961 := by rw [List.length_map]; exact hbl
    refine zai 1 (by simp only [holes, List.cons_append, List.nil_append]; exact rfl) ?_
    refine zad ?_
    refine zab rfl rfl rfl (op_ixar (j := i) rfl sl48 (ev1 rfl) (ev1 rfl) rfl (fun _ => by first | rfl | omega) (fun _ => by omega)) ?_
    refine zab rfl rfl rfl (op_ldar rfl tb51 (ev1 rfl) rfl (fun _ => rfl) (by omega)) ?_
    refine zaj rfl rfl rfl (op_alloc 2 rfl zr51 rfl) (by simp only [upd, zaa, za]; exact rfl) ?_
    refine walk_s rfl rfl (op_stwa rfl tb51 (ev1 rfl) (ev1 rfl) rfl rfl rfl rfl) (by simp only [upd, zaa, za]; exact rfl) ?_
    refine zae ?_
    refine zai 2 (by simp only [holes, List.cons_append, List.nil_append]; exact rfl) ?_
    refine zad ?_
    refine zab rfl rfl rfl (zac (.inl rfl) (ev1 rfl)) ?_
    refine zab rfl rfl rfl (zac (.inl rfl) (ev1 rfl)) ?_
    refine zab rfl rfl rfl (op_mkf rfl en (ec (ev1 rfl) en)) ?_
    refine zaj rfl rfl rfl (zah [2] [] [3] rfl (ev1 rfl) (ec (ev1 rfl) (ec (ev1 rfl) en)) rfl rfl (each_o _ l[i] hpd hbd (by omega)) rfl rfl rfl rfl rfl rfl) (by simp only [upd, zaa, za]; exact rfl) ?_
    refine zaj rfl rfl rfl (op_app (j := 4) rfl sl25 zr32 rfl (ev1 rfl) (ev1 rfl) (src_arr rfl) rfl rfl (fun _ => oc3 _) (fun _ => ⟨by omega, by omega⟩)) (by simp only [upd, zaa, za]; exact rfl) ?_
    refine zab rfl rfl rfl (zac (.inr rfl) (ev1 rfl)) ?_
    refine zae ?_
    refine zad ?_
    refine zab rfl rfl rfl (op_add' rfl (ev1 rfl) (ev1 rfl) (fun _ => IntWalk.i64_in _ (by omega))) ?_
    refine zab rfl rfl rfl (zac (.inl rfl) (ev1 rfl)) ?_
    refine zae ?_
    refine ⟨i + 1, [0, 4], by omega, by simp only []; omega, rfl, ⟨rfl, rfl, rfl, rfl, rfl, trivial⟩, ⟨rfl, (by rw [swK_add hi, List.length_append, List.flatMap_append]; rfl), trivial⟩⟩
  · try simp only [decide_eq_true_eq, decide_eq_false_iff_not, beq_iff_eq, bne_iff_ne, beq_eq_false_iff_ne, bne_eq_false_iff_eq, Bool.not_eq_true', Bool.not_eq_false', Bool.and_eq_true, Bool.or_eq_true, Bool.or_eq_false_iff, ne_eq, Decidable.not_not, Int.not_lt, Int.not_le] at c2
    refine dwp_exit ?_
    refine zaf ?_
    refine dwp_giveA 9 rfl rfl (by simp only [zaa, za]; exact rfl) ?_
    rw [show swK r n (l.take i) = swK r n l by rw [take_all (by omega)]] at hsl ⊢
    refine zad ?_
    refine zab rfl rfl rfl (zac (.inl rfl) (ev1 rfl)) ?_
    refine zab rfl rfl rfl (zah [] [] [] rfl (ev1 rfl) (ec (ev1 rfl) en) rfl rfl (gath_d _ (swK_valid r n l) (fun s hs => (swK_bd hn hd s hs).2) (by omega)) rfl rfl rfl rfl rfl rfl) ?_
    refine zab rfl rfl rfl (zac (.inr rfl) (ev1 rfl)) ?_
    refine zab rfl rfl rfl (zac (.inr rfl) (ev1 rfl)) ?_
    refine zae ?_
    refine dwp_ret ?_
    refine kend [0] (rs2 rfl (rv_t rfl) (rv_t rfl)) rfl rfl ?_ ⟨rfl, trivial⟩
    rfl
theorem sweep_wz (l : List P2) (n : Int) (r : Bool) (hs : swB n l = true) (hl : l.length ≤ 1000) : DFun Tryz.prog 65 [.arr 0, .val (.int .i64 n), .val (.bool r)] [.arr 51 2 (l).length ((l).flatMap p2)] (.tup [.slf 3 (swL r n l).length ((swL r n l).flatMap s3), .val (.int .i64 0)]) [.arr 51 2 (l).length ((l).flatMap p2)] := by
  obtain ⟨e1, _, e3, e4⟩ := sw_ok (r := r) hs
  rw [e1]
  have := sweep_w l n.toNat r (by omega) e4 hl
  rwa [show ((n.toNat : Nat) : Int) = n by omega] at this
set_option maxRecDepth 4000 in
set_option maxHeartbeats 1000000 in
theorem stroke_w (w h : Int) (ds : List D) (ts : List TL) (hr : RowOk ds ts) (hc : CvOk w h ts) (c : C4) (n : Int) (r : Bool) (l : List P2) (hs : swB n l = true) (hn : l.length ≤ 1000) : DFun Tryz.prog 27 [cvD w h ds, .val (.agg #[.int .u8 c.r, .int .u8 c.g, .int .u8 c.b, .int .u8 c.a, .int .i64 n, .bool r]), .arr 0] [.arr 51 2 (l).length ((l).flatMap p2)] (.tup [cvD w h (dpR (drwC false w h ts c (swL r n l))), .val (.int .i64 0)]) [.arr 51 2 (l).length ((l).flatMap p2)] := by
  have hsl := swL_len (r := r) hs
  refine dcalls_body (N := 26) 1 (by kernel_rfl) Tryz.func27 rfl rfl rfl (by simp only [fr0, Nat.zero_add, Nat.reduceAdd]; exact rfl) rfl fun s0 hs0 => ?_
  refine dbody_seq rfl hs0 ?_
  refine zai 2 (by simp only [holes, List.cons_append, List.nil_append]; exact rfl) ?_
  refine zad ?_
  refine zaj rfl rfl rfl (op_boxa 1 rfl (ev1 rfl) rfl) (by simp only [upd, zaa, za]; exact rfl) ?_
  refine zab rfl rfl rfl (zac (.inr rfl) (ev1 rfl)) ?_
  refine zaj rfl rfl rfl (op_alloc 2 rfl zr34 rfl) (by simp only [upd, zaa, za]; exact rfl) ?_
  refine zae ?_
  refine dbody_defer (l0 := [_]) rfl rfl rfl rfl rfl hs0 ?_
  refine zab rfl rfl rfl (op_mkf rfl en (ec (ev1 rfl) en)) ?_
  refine zae ⟨_, _, _, 3, ev1 rfl, Nat.le_trans hs0 (by decide), rfl, ?_⟩
  have hs1 : s0.M.length ≤ 3 := Nat.le_trans hs0 (by decide)
  refine dbody_end rfl hs0 ?_
  refine zaf ?_
  refine zai 1 (by simp only [holes, List.cons_append, List.nil_append]; exact rfl) ?_
  refine zad ?_
  refine zab rfl rfl rfl (zac (.inl rfl) (ev1 rfl)) ?_
  refine zab rfl rfl rfl (zah [] [] [] rfl (ev1 rfl) (ec (ev1 rfl) en) rfl rfl (easel_d w h ds) rfl rfl rfl rfl rfl rfl) ?_
  refine zaj rfl rfl rfl (op_alloc 3 rfl zr85 rfl) (by simp only [upd, zaa, za]; exact rfl) ?_
  refine walk_s rfl rfl (op_stam2 rfl tb85 (ev1 rfl) (ev1 rfl) rfl rfl rfl rfl) (by simp only [upd, zaa, za]; exact rfl) ?_
  refine zae ?_
  refine zaf ?_
  refine zai 1 (by simp only [holes, List.cons_append, List.nil_append]; exact rfl) ?_
  refine dwp_draw [([3], []), ([], []), ([], []), ([1], []), ([], []), ([1], []), ([0], [0]), ([], []), ([], []), ([], []), ([], []), ([1], []), ([4], [4]), ([4], [4]), ([], []), ([2], [2])] mixed (by kernel_rfl) ?_
  refine zag rfl rfl (op_ldmw rfl tb85 (ev1 rfl) rfl rfl) ?_
  refine zag rfl rfl (zac (.inl rfl) (ev1 rfl)) ?_
  refine zag rfl rfl (op_fa rfl fo47_1 (ev1 rfl)) ?_
  refine zag rfl rfl (op_ldo rfl tb3 (ev1 rfl) rfl rfl) ?_
  refine zag rfl rfl (op_fa rfl fo47_2 (ev1 rfl)) ?_
  refine zag rfl rfl (op_ldo rfl tb4 (ev1 rfl) rfl rfl) ?_
  refine lex_w rfl rfl (zah [0] [] [] rfl (ev1 rfl) (ec (ev1 rfl) (ec (ev1 rfl) (ec (ev1 rfl) en))) rfl rfl (sweep_wz l n r hs hn) rfl rfl rfl rfl rfl rfl) rfl (by simp only [upd, zaa, za]; exact rfl) ?_
  refine zag rfl rfl (op_ext rfl (ev1 rfl) rfl) ?_
  refine zag rfl rfl (op_ext rfl (ev1 rfl) rfl) ?_
  refine zag rfl rfl (zah [] [] [] rfl (ev1 rfl) (ec (ev1 rfl) (ec (ev1 rfl) en)) rfl rfl (mustS_d (swL r n l)) rfl rfl rfl rfl rfl rfl) ?_
  refine zag rfl rfl (op_fa rfl fo47_0 (ev1 rfl)) ?_
  refine zag rfl rfl (op_ldr rfl tb27 (ev1 rfl) rfl rfl rfl) ?_
  refine lex_w rfl rfl (zah [] [] [4] rfl (ev1 rfl) (ec (ev1 rfl) en) rfl rfl (paints_d c) rfl rfl rfl rfl rfl rfl) rfl (by simp only [upd, zaa, za]; exact rfl) ?_
  refine lex_w rfl rfl (zah [4] [] [] rfl (ev1 rfl) (ec (ev1 rfl) (ec (ev1 rfl) (ec (ev1 rfl) en))) rfl rfl (drawn_p w h ds ts hr hc c (swL r n l) (swL_chk hs) (by omega)) rfl rfl rfl rfl rfl rfl) rfl (by simp only [upd, zaa, za]; exact rfl) ?_
  refine zag rfl rfl (zac (.inr rfl) (ev1 rfl)) ?_
  refine lex_s rfl rfl (op_stwi rfl tb34 (ev1 rfl) (ev1 rfl) rfl) rfl (by simp only [upd, zaa, za]; exact rfl) ?_
  refine lex_nil ?_
  refine dwp_ret ?_
  refine kdef (dturn_idle [2] [] rfl rfl (dstroke1_idle _) rfl rfl rfl rfl rfl) ?_
  refine kend [0] (rs2 rfl (rv_t rfl) (rv_1 tb34 rfl rfl rfl)) rfl rfl ?_ ⟨rfl, trivial⟩
  rfl
set_option maxRecDepth 4000 in
set_option maxHeartbeats 1000000 in
theorem orders_d (w h : Int) (ts : List TL) (c : C4) (n : Int) (r : Bool) (y : List P2) : DFun Tryz.prog 8 [shD w h ts, .val (.agg #[.int .u8 c.r, .int .u8 c.g, .int .u8 c.b, .int .u8 c.a, .int .i64 n, .bool r]), .slf 2 y.length (y.flatMap p2)] [.glob 0 (c4 redC)] (.val (.bool true)) [.glob 0 (c4 redC)] := by
  have hlo := fewO_len y
  have hlr : ((fewO y).reverse).length = (fewO y).length := List.length_reverse
  refine dcalls_go (N := 89) 1 (by kernel_rfl) Tryz.func8 rfl rfl rfl (by simp only [fr0, Nat.zero_add, Nat.reduceAdd]; exact rfl) rfl fun s0 hs0 => ?_
  refine dwp_len (t := 2) rfl fun hl2 hL2 => ?_
  refine zaf ?_
  refine zai 2 (by simp only [holes, List.cons_append, List.nil_append]; exact rfl) ?_
  refine zad ?_
  refine zaj rfl rfl rfl (op_boxam 1 rfl (ev1 rfl) rfl) (by simp only [upd, zaa, za]; exact rfl) ?_
  refine zaj rfl rfl rfl (op_boxa 2 rfl (ev1 rfl) rfl) (by simp only [upd, zaa, za]; exact rfl) ?_
  refine zab rfl rfl rfl (zac (.inr rfl) (ev1 rfl)) ?_
  refine zae ?_
  refine zaf ?_
  refine zaf ?_
  refine zad ?_
  refine zaj rfl rfl rfl (zah [0] [] [] rfl (ev1 rfl) en rfl rfl (wakes_d) rfl rfl rfl rfl rfl rfl) (by simp only [upd, zaa, za]; exact rfl) ?_
  refine zab rfl rfl rfl ((op_not rfl (ev1 rfl)).cast (d' := .val (.bool false)) (by kernel_rfl)) ?_
  refine zae ?_
  refine dwp_if_f rfl (rfl) ?_
  refine zal ?_
  refine zaf ?_
  by_cases hr : rightB w h ts = true
  · have hc := rightB_ok hr
    refine zad ?_
    refine zab rfl rfl rfl (op_ldmw rfl tb24 (ev1 rfl) rfl rfl) ?_
    refine zab rfl rfl rfl (zah [] [] [] rfl (ev1 rfl) (ec (ev1 rfl) en) rfl rfl (of_d w h ts hc) rfl rfl rfl rfl rfl rfl) ?_
    refine zab rfl rfl rfl (zac (.inl rfl) (ev1 rfl)) ?_
    refine zab rfl rfl rfl (op_ext rfl (ev1 rfl) rfl) ?_
    refine zab rfl rfl rfl (op_ext rfl (ev1 rfl) rfl) ?_
    refine zab rfl rfl rfl (zac (.inr rfl) (ev1 rfl)) ?_
    refine zab rfl rfl rfl (zac (.inr rfl) (ev1 rfl)) ?_
    refine zae ?_
    refine zaf ?_
    refine zaf ?_
    refine zad ?_
    refine zab rfl rfl rfl (zac (.inl rfl) (ev1 rfl)) ?_
    refine zab rfl rfl rfl ((op_neq rfl (ev1 rfl) (ev1 rfl)).cast (d' := .val (.bool false)) (by kernel_rfl)) ?_
    refine zae ?_
    refine dwp_if_f rfl (rfl) ?_
    refine zal ?_
    refine zaf ?_
    refine zai 1 (by simp only [holes, List.cons_append, List.nil_append]; exact rfl) ?_
    refine zad ?_
    refine zab rfl rfl rfl (zac (.inl rfl) (ev1 rfl)) ?_
    refine zab rfl rfl rfl (zac (.inl rfl) (ev1 rfl)) ?_
    refine zab rfl rfl rfl (op_len rfl sl48 (ev1 rfl)) ?_
    refine zab rfl rfl rfl (op_min rfl (ev1 rfl) (ev1 rfl)) ?_
    refine zab rfl rfl rfl (op_sltk (j := min y.length 6) rfl sl48 (ev1 rfl) (bd_some (ev1 rfl)) (fun _ => by omega) (fun _ => by omega) (fun _ => rfl)) ?_
    refine zaj rfl rfl rfl (zah [] [] [3] rfl (ev1 rfl) (ec (ev1 rfl) en) rfl rfl (cloneP (fewO y) (by omega)) rfl rfl rfl rfl rfl rfl) (by simp only [upd, zaa, za]; exact rfl) ?_
    refine zab rfl rfl rfl (zac (.inr rfl) (ev1 rfl)) ?_
    refine zae ?_
    refine zaf ?_
    by_cases hs : swB n (fewO y) = true
    · have hs2 := sw_rev hs
      refine zad ?_
      refine zab rfl rfl rfl (zac (.inl rfl) (ev1 rfl)) ?_
      refine zab rfl rfl rfl (op_ldw rfl tb47 (ev1 rfl) rfl rfl) ?_
      refine zab rfl rfl rfl (zac (.inl rfl) (ev1 rfl)) ?_
      refine zaj rfl rfl rfl (zah [3] [] [] rfl (ev1 rfl) (ec (ev1 rfl) (ec (ev1 rfl) (ec (ev1 rfl) en))) rfl rfl (stroke_w w h _ ts (dpR_ok _) hc c n r (fewO y) hs (by omega)) rfl rfl rfl rfl rfl rfl) (by simp only [upd, zaa, za]; exact rfl) ?_
      refine zab rfl rfl rfl (zac (.inl rfl) (ev1 rfl)) ?_
      refine zab rfl rfl rfl (op_ext rfl (ev1 rfl) rfl) ?_
      refine zab rfl rfl rfl (op_ext rfl (ev1 rfl) rfl) ?_
      refine zab rfl rfl rfl (zac (.inr rfl) (ev1 rfl)) ?_
      refine zab rfl rfl rfl (zac (.inr rfl) (ev1 rfl)) ?_
      refine zae ?_
      refine zaf ?_
      refine zaf ?_
      refine zad ?_
      refine zab rfl rfl rfl (zac (.inl rfl) (ev1 rfl)) ?_
      refine zab rfl rfl rfl ((op_neq rfl (ev1 rfl) (ev1 rfl)).cast (d' := .val (.bool false)) (by kernel_rfl)) ?_
      refine zae ?_
      refine dwp_if_f rfl (rfl) ?_
      refine zal ?_
      refine zaf ?_
      refine zad ?_
      refine zab rfl rfl rfl (zac (.inl rfl) (ev1 rfl)) ?_
      refine zaj rfl rfl rfl (zah [3] [] [] rfl (ev1 rfl) (ec (ev1 rfl) en) rfl rfl (revP (fewO y)) rfl rfl rfl rfl rfl rfl) (by simp only [upd, zaa, za]; exact rfl) ?_
      refine zae ?_
      refine zaf ?_
      refine dwp_reb 3 (reb_eq (k' := .arr 51 2 ((fewO y).reverse).length (((fewO y).reverse).flatMap p2)) (by rw [List.length_reverse])) rfl rfl (by simp only [List.cons_append, List.nil_append, zaa, za, List.map]; exact rfl) ?_
      refine zad ?_
      refine zab rfl rfl rfl (zac (.inl rfl) (ev1 rfl)) ?_
      refine zab rfl rfl rfl (op_ldw rfl tb47 (ev1 rfl) rfl rfl) ?_
      refine zab rfl rfl rfl (zac (.inl rfl) (ev1 rfl)) ?_
      refine zaj rfl rfl rfl (zah [3] [] [] rfl (ev1 rfl) (ec (ev1 rfl) (ec (ev1 rfl) (ec (ev1 rfl) en))) rfl rfl (stroke_w w h _ ts (dpR_ok _) hc c n r ((fewO y).reverse) hs2 (by omega)) rfl rfl rfl rfl rfl rfl) (by simp only [upd, zaa, za]; exact rfl) ?_
      refine zab rfl rfl rfl (zac (.inl rfl) (ev1 rfl)) ?_
      refine zab rfl rfl rfl (op_ext rfl (ev1 rfl) rfl) ?_
      refine zab rfl rfl rfl (op_ext rfl (ev1 rfl) rfl) ?_
      refine zab rfl rfl rfl (zac (.inr rfl) (ev1 rfl)) ?_
      refine zab rfl rfl rfl (zac (.inr rfl) (ev1 rfl)) ?_
      refine zae ?_
      refine zaf ?_
      refine zad ?_
      refine zab rfl rfl rfl (zac (.inl rfl) (ev1 rfl)) ?_
      refine zab rfl rfl rfl (zac (.inr rfl) (ev1 rfl)) ?_
      refine zae ?_
      refine zaf ?_
      refine zaf ?_
      refine zad ?_
      refine zab rfl rfl rfl (zac (.inl rfl) (ev1 rfl)) ?_
      refine zab rfl rfl rfl (op_lena rfl sl48 (ev1 rfl) rfl) ?_
      refine zab rfl rfl rfl (zac (.inl rfl) (ev1 rfl)) ?_
      refine zae ?_
      refine dwp_block ?_
      refine dwp_loopS ⟨hs0, rfl⟩ (α := Nat) (fun k => [(12, cvD w h (dpR (drwC false w h ts c (swL r n ((fewO y).reverse.take (k)))))), (61, .val (.int .i64 (k : Int)))]) [(4, _), (9, _), (10, _), (11, _), (59, _), (60, _)] (fun k => []) [_, _, _, _] (fun k => k ≤ ((fewO y).reverse).length) (fun k => ((fewO y).reverse).length - k) 0 [0, 1, 2, 3] (Nat.zero_le _) rfl ⟨rfl, rfl, rfl, rfl, rfl, rfl, trivial⟩ ⟨by rw [List.take_zero, swL_none, drw_none]; rfl, rfl, trivial⟩ ⟨rfl, rfl, rfl, rfl, trivial⟩ ?_
      intro k hx
      simp only [upd, zaa, za, List.cons_append, List.nil_append]
      have hk0 := hx
      refine zaf ?_
      refine zad ?_
      refine zab rfl rfl rfl (op_lss rfl (ev1 rfl) (ev1 rfl)) ?_
      refine zae ?_
      refine zaf ?_
      refine dwp_cond rfl (fun c4 => ?_) (fun c4 => ?_)
      · try simp only [decide_eq_true_eq, decide_eq_false_iff_not, beq_iff_eq, bne_iff_ne, beq_eq_false_iff_ne, bne_eq_false_iff_eq, Bool.not_eq_true', Bool.not_eq_false', Bool.and_eq_true, Bool.or_eq_true, Bool.or_eq_false_iff, ne_eq, Decidable.not_not, Int.not_lt, Int.not_le] at c4
        refine zal ?_
        refine zaf ?_
        refine dwp_block ?_
        refine zaf ?_
        have hk : k < ((fewO y).reverse).length := by omega
        refine zai 1 (by simp only [holes, List.cons_append, List.nil_append]; exact rfl) ?_
        refine zad ?_
        refine zab rfl rfl rfl (op_ixar (j := k) rfl sl48 (ev1 rfl) (ev1 rfl) rfl (fun _ => by first | rfl | omega) (fun _ => by omega)) ?_
        refine zab rfl rfl rfl (op_ldar rfl tb51 (ev1 rfl) rfl (fun _ => rfl) (by omega)) ?_
        refine zaj rfl rfl rfl (op_alloc 4 rfl zr51 rfl) (by simp only [upd, zaa, za]; exact rfl) ?_
        refine walk_s rfl rfl (op_stwa rfl tb51 (ev1 rfl) (ev1 rfl) rfl rfl rfl rfl) (by simp only [upd, zaa, za]; exact rfl) ?_
        refine zae ?_
        refine zaf ?_
        refine zad ?_
        refine zab rfl rfl rfl (zac (.inl rfl) (ev1 rfl)) ?_
        refine zab rfl rfl rfl (op_ldw rfl tb47 (ev1 rfl) rfl rfl) ?_
        refine zab rfl rfl rfl (op_ldw rfl tb51 (ev1 rfl) rfl rfl) ?_
        refine zab rfl rfl rfl (op_bs (ps := [(0, .tmp 68)]) rfl sl48 zr51 rfl (vc (ev1 rfl) vn) rfl (by decide) (by decide)) ?_
        refine zab rfl rfl rfl (zah [] [] [] rfl (ev1 rfl) (ec (ev1 rfl) (ec (ev1 rfl) (ec (ev1 rfl) en))) rfl rfl (stroke_d w h _ (drwC false w h ts c (swL r n ((fewO y).reverse.take (k)))) (dpR_ok _) (drwC_ok hc _ _ _) c n r [((fewO y).reverse)[k]] (sw_one hs2 hk) (Nat.le_of_ble_eq_true rfl)) rfl rfl rfl rfl rfl rfl) ?_
        refine zab rfl rfl rfl (zac (.inl rfl) (ev1 rfl)) ?_
        refine zab rfl rfl rfl (op_ext rfl (ev1 rfl) rfl) ?_
        refine zab rfl rfl rfl (op_ext rfl (ev1 rfl) rfl) ?_
        refine zab rfl rfl rfl (zac (.inr rfl) (ev1 rfl)) ?_
        refine zab rfl rfl rfl (zac (.inr rfl) (ev1 rfl)) ?_
        refine zae ?_
        refine zaf ?_
        refine zaf ?_
        refine zad ?_
        refine zab rfl rfl rfl (zac (.inl rfl) (ev1 rfl)) ?_
        refine zab rfl rfl rfl ((op_neq rfl (ev1 rfl) (ev1 rfl)).cast (d' := .val (.bool false)) (by kernel_rfl)) ?_
        refine zae ?_
        refine dwp_if_f rfl (rfl) ?_
        refine zal ?_
        refine zad ?_
        refine zab rfl rfl rfl (zac (.inl rfl) (ev1 rfl)) ?_
        refine zab rfl rfl rfl (zac (.inr rfl) (ev1 rfl)) ?_
        refine zae ?_
        refine zad ?_
        refine zab rfl rfl rfl (op_add' rfl (ev1 rfl) (ev1 rfl) (fun _ => IntWalk.i64_in _ (by omega))) ?_
        refine zab rfl rfl rfl (zac (.inl rfl) (ev1 rfl)) ?_
        refine zae ?_
        refine ⟨k + 1, [0, 1, 2, 3], by omega, by simp only []; omega, rfl, ⟨by rw [← drw_both hc c (swL_add hk hs2)]; rfl, rfl, rfl, rfl, rfl, rfl, rfl, rfl, trivial⟩, ⟨rfl, rfl, rfl, rfl, trivial⟩⟩
      · try simp only [decide_eq_true_eq, decide_eq_false_iff_not, beq_iff_eq, bne_iff_ne, beq_eq_false_iff_ne, bne_eq_false_iff_eq, Bool.not_eq_true', Bool.not_eq_false', Bool.and_eq_true, Bool.or_eq_true, Bool.or_eq_false_iff, ne_eq, Decidable.not_not, Int.not_lt, Int.not_le] at c4
        refine dwp_exit ?_
        refine zaf ?_
        obtain rfl : k = ((fewO y).reverse).length := by omega
        rw [List.take_length]
        refine zad ?_
        refine zab rfl rfl rfl (zac (.inl rfl) (ev1 rfl)) ?_
        refine zab rfl rfl rfl ((op_eql rfl (ev1 rfl) (ev1 rfl)).cast (d' := .val (.bool true)) (by kernel_rfl)) ?_
        refine zab rfl rfl rfl (zac (.inl rfl) (ev1 rfl)) ?_
        refine walk_k (gd_t (b := true) rfl rfl rfl) rfl rfl rfl (zac (.inl rfl) (ev1 rfl)) (by simp only [upd, zaa, za]; exact rfl) ?_
        refine walk_k (gd_t (b := true) rfl rfl rfl) rfl rfl rfl (zac (.inl rfl) (ev1 rfl)) (by simp only [upd, zaa, za]; exact rfl) ?_
        refine walk_k (gd_t (b := true) rfl rfl rfl) rfl rfl rfl ((zah [] [] [] rfl (ev1 rfl) (ec (ev2 rfl) (ec (ev2 rfl) en)) rfl rfl (same_cv w h _ _ (drwC false w h ts c (swL r n (fewO y).reverse)) (drwC false w h ts c (swL r n (fewO y))) (dpR_ok _) (dpR_ok _) (drwC_ok hc _ _ _) (drwC_ok hc _ _ _)) rfl rfl rfl rfl rfl rfl).cast (d' := .val (.bool true)) (by rw [drw_same hc false c (swL_rev hs hs2)]; simp)) (by simp only [upd, zaa, za]; exact rfl) ?_
        refine zab rfl rfl rfl ((op_and rfl (ev1 rfl) (ev3 rfl (fun _ => rfl))).cast (d' := .val (.bool true)) (by rfl)) ?_
        refine zab rfl rfl rfl (zac (.inl rfl) (ev1 rfl)) ?_
        refine walk_k (gd_t (b := true) rfl rfl rfl) rfl rfl rfl (zac (.inl rfl) (ev1 rfl)) (by simp only [upd, zaa, za]; exact rfl) ?_
        refine walk_k (gd_t (b := true) rfl rfl rfl) rfl rfl rfl (zac (.inl rfl) (ev1 rfl)) (by simp only [upd, zaa, za]; exact rfl) ?_
        refine walk_k (gd_t (b := true) rfl rfl rfl) rfl rfl rfl ((zah [] [] [] rfl (ev1 rfl) (ec (ev2 rfl) (ec (ev2 rfl) en)) rfl rfl (same_cv w h _ _ (drwC false w h ts c (swL r n (fewO y).reverse)) (drwC false w h ts c (swL r n (fewO y))) (dpR_ok _) (dpR_ok _) (drwC_ok hc _ _ _) (drwC_ok hc _ _ _)) rfl rfl rfl rfl rfl rfl).cast (d' := .val (.bool true)) (by rw [drw_same hc false c (swL_rev hs hs2)]; simp)) (by simp only [upd, zaa, za]; exact rfl) ?_
        refine zab rfl rfl rfl ((op_and rfl (ev1 rfl) (ev3 rfl (fun _ => rfl))).cast (d' := .val (.bool true)) (by rfl)) ?_
        refine zab rfl rfl rfl (zac (.inr rfl) (ev1 rfl)) ?_
        refine zae ?_
        refine dwp_ret ?_
        refine kend [0] (rs1 rfl (rv_t rfl)) rfl rfl ?_ ⟨rfl, trivial⟩
        rfl
    · refine zad ?_
      refine zab rfl rfl rfl (zac (.inl rfl) (ev1 rfl)) ?_
      refine zab rfl rfl rfl (op_ldw rfl tb47 (ev1 rfl) rfl rfl) ?_
      refine zab rfl rfl rfl (zac (.inl rfl) (ev1 rfl)) ?_
      refine zab rfl rfl rfl (zah [] [3] [] rfl (ev1 rfl) (ec (ev1 rfl) (ec (ev1 rfl) (ec (ev1 rfl) en))) rfl rfl (stroke_n w h _ ts (dpR_ok _) hc c n r (fewO y) (by simpa using hs) (by omega)) rfl rfl rfl rfl rfl rfl) ?_
      refine zab rfl rfl rfl (zac (.inl rfl) (ev1 rfl)) ?_
      refine zab rfl rfl rfl (op_ext rfl (ev1 rfl) rfl) ?_
      refine zab rfl rfl rfl (op_ext rfl (ev1 rfl) rfl) ?_
      refine zab rfl rfl rfl (zac (.inr rfl) (ev1 rfl)) ?_
      refine zab rfl rfl rfl (zac (.inr rfl) (ev1 rfl)) ?_
      refine zae ?_
      refine zaf ?_
      refine zaf ?_
      refine zad ?_
      refine zab rfl rfl rfl (zac (.inl rfl) (ev1 rfl)) ?_
      refine zab rfl rfl rfl ((op_neq rfl (ev1 rfl) (ev1 rfl)).cast (d' := .val (.bool true)) (by kernel_rfl)) ?_
      refine zae ?_
      refine dwp_if_t rfl (rfl) ?_
      refine zaf ?_
      refine zad ?_
      refine zab rfl rfl rfl (zac (.inl rfl) (ev1 rfl)) ?_
      refine zab rfl rfl rfl ((op_eql rfl (ev1 rfl) (ev1 rfl)).cast (d' := .val (.bool true)) (by kernel_rfl)) ?_
      refine zab rfl rfl rfl (zac (.inl rfl) (ev1 rfl)) ?_
      refine walk_k (gd_t (b := true) rfl rfl rfl) rfl rfl rfl (zac (.inl rfl) (ev1 rfl)) (by simp only [upd, zaa, za]; exact rfl) ?_
      refine walk_k (gd_t (b := true) rfl rfl rfl) rfl rfl rfl (op_pnil0 rfl pt33 (ev2 rfl)) (by simp only [upd, zaa, za]; exact rfl) ?_
      refine zab rfl rfl rfl ((op_and rfl (ev1 rfl) (ev3 rfl (fun _ => rfl))).cast (d' := .val (.bool true)) (by rfl)) ?_
      refine zab rfl rfl rfl (zac (.inr rfl) (ev1 rfl)) ?_
      refine zae ?_
      refine dwp_ret ?_
      refine kend [0] (rs1 rfl (rv_t rfl)) rfl rfl ?_ ⟨rfl, trivial⟩
      rfl
  · refine zad ?_
    refine zab rfl rfl rfl (op_ldmw rfl tb24 (ev1 rfl) rfl rfl) ?_
    refine zab rfl rfl rfl (zah [] [] [] rfl (ev1 rfl) (ec (ev1 rfl) en) rfl rfl (of_0 w h ts (by simpa using hr)) rfl rfl rfl rfl rfl rfl) ?_
    refine zab rfl rfl rfl (zac (.inl rfl) (ev1 rfl)) ?_
    refine zab rfl rfl rfl (op_ext rfl (ev1 rfl) rfl) ?_
    refine zab rfl rfl rfl (op_ext rfl (ev1 rfl) rfl) ?_
    refine zab rfl rfl rfl (zac (.inr rfl) (ev1 rfl)) ?_
    refine zab rfl rfl rfl (zac (.inr rfl) (ev1 rfl)) ?_
    refine zae ?_
    refine zaf ?_
    refine zaf ?_
    refine zad ?_
    refine zab rfl rfl rfl (zac (.inl rfl) (ev1 rfl)) ?_
    refine zab rfl rfl rfl ((op_neq rfl (ev1 rfl) (ev1 rfl)).cast (d' := .val (.bool true)) (by kernel_rfl)) ?_
    refine zae ?_
    refine dwp_if_t rfl (rfl) ?_
    refine zaf ?_
    refine zad ?_
    refine zab rfl rfl rfl (zac (.inl rfl) (ev1 rfl)) ?_
    refine zab rfl rfl rfl (op_pnil0 rfl pt33 (ev1 rfl)) ?_
    refine zab rfl rfl rfl (zac (.inr rfl) (ev1 rfl)) ?_
    refine zae ?_
    refine dwp_ret ?_
    refine kend [0] (rs1 rfl (rv_t rfl)) rfl rfl ?_ ⟨rfl, trivial⟩
    rfl
end Go.Proofs.YtjgnalfnginjbaaGreatDoor
