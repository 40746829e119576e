/- lines, rectangles, boxes, and what rows of spans have; what drawing rests on; strokes, lines, rectangles; arguments that are opened; a frame, and what is in it. No condition. -/
import Derived.Test.YtjgnalfnginjbaaGreatDoorQ7
import Derived.Test.YtjgnalfnginjbaaGreatDoorRows
namespace Go.Proofs.YtjgnalfnginjbaaGreatDoor
theorem ya {p : Prop} [Decidable p] : decide p = false ↔ ¬p := _root_.decide_eq_false_iff_not
theorem yb {α : Type _} [BEq α] [LawfulBEq α] {a b : α} : (a == b) = false ↔ a ≠ b := _root_.beq_eq_false_iff_ne
theorem yc {α : Type _} [BEq α] [LawfulBEq α] {a b : α} : (a != b) = false ↔ a = b := _root_.bne_eq_false_iff_eq
theorem yd {x y : Bool} : (x || y) = false ↔ x = false ∧ y = false := _root_.Bool.or_eq_false_iff
theorem ye {b : Bool} : ((!b) = false) = (b = true) := by cases b <;> simp
theorem yf {b : Bool} : ((!b) = true) = (b = false) := by cases b <;> simp
theorem yg {p : Prop} [Decidable p] : (decide p = true) = p := _root_.decide_eq_true_eq
theorem yh {a b : Bool} : ((a && b) = true) = (a = true ∧ b = true) := _root_.Bool.and_eq_true a b
theorem yi {a b : Bool} : ((a || b) = true) = (a = true ∨ b = true) := _root_.Bool.or_eq_true a b
theorem yj {p : Prop} [Decidable p] : ¬¬p ↔ p := _root_.Decidable.not_not
set_option maxRecDepth 4000
set_option linter.unusedVariables false
set_option linter.unusedSimpArgs false
open Go.RowKit
theorem rect_has (a b : P2) (x y : Int) : hasS (rectL a b) x y ↔ (min a.x b.x ≤ x ∧ x ≤ max a.x b.x) ∧ min a.y b.y ≤ y ∧ y ≤ max a.y b.y := by
  have e := wayN_eq a.y b.y
  constructor
  · rintro ⟨s, hs, h1, h2, h3⟩
    obtain ⟨j, hj, rfl⟩ := List.mem_map.1 hs
    rw [List.mem_range] at hj
    simp only at h1 h2 h3
    omega
  · rintro ⟨h1, h2⟩
    refine ⟨_, List.mem_map.2 ⟨(y - min a.y b.y).toNat, List.mem_range.2 (by omega), rfl⟩, ?_, ?_, ?_⟩
    · show min a.y b.y + (((y - min a.y b.y).toNat : Nat) : Int) = y; omega
    · exact h1.1
    · exact h1.2
set_option maxRecDepth 4000
set_option maxRecDepth 4000 in
set_option maxHeartbeats 1000000 in
theorem drect1_caught (e n : Int) : DDef Tryz.prog 70 [.loc 0 0] [.flat 34 [.int .i64 e]] (some (.ifc 122 (.val (.agg #[.int .i64 n])))) none [.flat 34 [.int .i64 n]] := by
  refine ddef_go1 (dr := .tup []) (t := 1) (N := 3) 1 (by kernel_rfl) Tryz.func70 rfl rfl rfl (by simp only [fr0, Nat.zero_add, Nat.reduceAdd]; exact rfl) rfl rfl rfl rfl rfl fun s0 hs0 => ?_
  refine zab rfl rfl rfl (zai [] [] [] rfl (ev1 rfl) (ec (ev1 rfl) en) rfl rfl (dtold_w n) rfl rfl rfl rfl rfl rfl) ?_
  refine walk_s rfl rfl (op_stwi rfl tb34 (ev1 rfl) (ev1 rfl) rfl) (by simp only [upd, zaa, za]; exact rfl) ?_
  refine zae ?_
  refine kend [0] (res_none rfl) rfl rfl ?_ ⟨rfl, trivial⟩
  rfl
set_option maxRecDepth 4000
theorem uni_has {rr : List (List Sp)} (h : allC rr = true) (x y : Int) : hasS (uniL rr) x y ↔ ∃ l ∈ rr, hasS l x y := by
  rw [(uni_ok h).1, (norm_ok fun s hs => (allC_flat h s hs).2).2]
  constructor
  · rintro ⟨s, hs, g⟩
    obtain ⟨l, hl, h1⟩ := List.mem_flatten.1 hs
    exact ⟨l, hl, s, h1, g⟩
  · rintro ⟨l, hl, s, hs, g⟩
    exact ⟨s, List.mem_flatten.2 ⟨l, hl, hs⟩, g⟩
set_option maxRecDepth 4000 in
set_option maxHeartbeats 1000000 in
theorem drect_n (w h : Int) (ds : List D) (ts : List TL) (hr : RowOk ds ts) (hc : CvOk w h ts) (c : C4) (a b : P2) (hd : (drwB a && drwB b) = false) : DFun Tryz.prog 31 [cvD w h ds, .val (.agg (c4 c).toArray), .val (.agg #[.int .i64 a.x, .int .i64 a.y]), .val (.agg #[.int .i64 b.x, .int .i64 b.y])] [] (.tup [.val (.pointer none), .val (.int .i64 2)]) [] := by
  obtain ⟨g1, g2⟩ := rct_no hd
  refine dcalls_body (N := 24) 0 (by kernel_rfl) Tryz.func31 rfl rfl rfl (by simp only [fr0, Nat.zero_add, Nat.reduceAdd]; exact rfl) rfl fun s0 hs0 => ?_
  refine dbody_seq rfl hs0 ?_
  refine zah 4 (by simp only [holes, List.cons_append, List.nil_append]; exact rfl) ?_
  refine zac ?_
  refine zaj rfl rfl rfl (op_boxa 0 rfl (ev1 rfl) rfl) (by simp only [upd, zaa, za]; exact rfl) ?_
  refine zaj rfl rfl rfl (op_boxa 1 rfl (ev1 rfl) rfl) (by simp only [upd, zaa, za]; exact rfl) ?_
  refine zaj rfl rfl rfl (op_boxa 2 rfl (ev1 rfl) rfl) (by simp only [upd, zaa, za]; exact rfl) ?_
  refine zab rfl rfl rfl (zad (.inr rfl) (ev1 rfl)) ?_
  refine zaj rfl rfl rfl (op_alloc 3 rfl zr34 rfl) (by simp only [upd, zaa, za]; exact rfl) ?_
  refine zae ?_
  refine dbody_defer (l0 := [_]) rfl rfl rfl rfl rfl hs0 ?_
  refine zab rfl rfl rfl (op_mkf rfl en (ec (ev1 rfl) en)) ?_
  refine zae ⟨_, _, _, 4, ev1 rfl, Nat.le_trans hs0 (by decide), rfl, ?_⟩
  have hs1 : s0.M.length ≤ 4 := Nat.le_trans hs0 (by decide)
  refine dbody_end rfl hs0 ?_
  refine zaf ?_
  refine zah 1 (by simp only [holes, List.cons_append, List.nil_append]; exact rfl) ?_
  refine zac ?_
  refine zab rfl rfl rfl (zad (.inl rfl) (ev1 rfl)) ?_
  refine zab rfl rfl rfl (zai [] [] [] rfl (ev1 rfl) (ec (ev1 rfl) en) rfl rfl (easel_d w h ds) rfl rfl rfl rfl rfl rfl) ?_
  refine zaj rfl rfl rfl (op_alloc 4 rfl zr85 rfl) (by simp only [upd, zaa, za]; exact rfl) ?_
  refine walk_s rfl rfl (op_stam2 rfl tb85 (ev1 rfl) (ev1 rfl) rfl rfl rfl rfl) (by simp only [upd, zaa, za]; exact rfl) ?_
  refine zae ?_
  refine zaf ?_
  refine dwp_drawR 6 8 [([4], []), ([1], []), ([2], []), ([], []), ([], []), ([], []), ([], []), ([0], [])] mixed (by kernel_rfl) rfl rfl rfl ?_
  refine zag rfl rfl (op_ldmw rfl tb85 (ev1 rfl) rfl rfl) ?_
  refine zag rfl rfl (op_ldw rfl tb51 (ev1 rfl) rfl rfl) ?_
  refine zag rfl rfl (op_ldw rfl tb51 (ev1 rfl) rfl rfl) ?_
  refine zag rfl rfl (zai [] [] [] rfl (ev1 rfl) (ec (ev1 rfl) (ec (ev1 rfl) en)) rfl rfl (rect_d a b) rfl rfl rfl rfl rfl rfl) ?_
  refine zag rfl rfl (op_ext rfl (ev1 rfl) rfl) ?_
  refine zag rfl rfl ((op_ext rfl (ev1 rfl) rfl).cast (d' := .val (.int .i64 2)) (by rw [g2])) ?_
  refine lex_s rfl rfl nop_d rfl rfl ?_
  refine zag rfl rfl (op_ldw rfl tb27 (ev1 rfl) rfl rfl) ?_
  refine lex_nil ⟨_, _, _, rfl, dop_callP [] [] [] rfl (ev1 rfl) (ec (ev1 rfl) (ec (ev1 rfl) en)) rfl rfl (mustS_p _ 2 (by decide)) rfl rfl rfl rfl rfl rfl, ?_⟩
  refine kdef (dturn_caught [3] [] rfl rfl rfl (drect1_caught _ _) rfl rfl rfl rfl rfl) ?_
  refine kend0 (rs2 rfl (rv_t rfl) (rv_1 tb34 rfl rfl rfl)) rfl ?_
  rfl
set_option maxRecDepth 4000
open Go.ChangeShapes Go.WideShapes Go.ChangeAt Go.Joins Go.Deep
theorem fits_p2 (cs : List Value) (h : fitsP [.int .i64, .int .i64] cs) : ∃ p : P2, p.rng ∧ cs = p2 p := by
  obtain ⟨x0, r, rfl, h0, g1⟩ := fitsP_cons h
  obtain ⟨x1, r, rfl, h1, g2⟩ := fitsP_cons g1
  obtain rfl := fitsP_nil g2
  obtain ⟨x, wx, rfl⟩ := fits_prim_i64 h0
  obtain ⟨y, wy, rfl⟩ := fits_prim_i64 h1
  exact ⟨⟨x, y⟩, ⟨wx, wy⟩, rfl⟩
set_option maxRecDepth 4000
theorem drw_same {w h : Int} {ts : List TL} (hc : CvOk w h ts) (k : Bool) (c : C4) {l m : List Sp} (he : ∀ x y, hasS l x y ↔ hasS m x y) : drwC k w h ts c l = drwC k w h ts c m :=
  cv_ext (drwC_ok hc _ _ _) (drwC_ok hc _ _ _) fun x y ho => by
    have e : hasB l ⟨x, y⟩ = hasB m ⟨x, y⟩ := by unfold hasB; rw [decide_eq_decide]; exact he x y
    rw [drw_get hc c l ho, drw_get hc c m ho, e]
theorem drw_both {w h : Int} {ts : List TL} (hc : CvOk w h ts) (c : C4) {l m n : List Sp} (he : ∀ x y, hasS n x y ↔ hasS l x y ∨ hasS m x y) : drwC false w h (drwC false w h ts c l) c m = drwC false w h ts c n :=
  cv_ext (drwC_ok (drwC_ok hc _ _ _) _ _ _) (drwC_ok hc _ _ _) fun x y ho => by
    rw [drw_get (drwC_ok hc _ _ _) c m ho, drw_get hc c n ho, drw_get hc c l ho]
    have e : hasB n ⟨x, y⟩ = (hasB l ⟨x, y⟩ || hasB m ⟨x, y⟩) := by
      unfold hasB
      rw [Bool.eq_iff_iff, Bool.or_eq_true, decide_eq_true_eq, decide_eq_true_eq, decide_eq_true_eq]
      exact he x y
    rw [e]
    cases hasB l ⟨x, y⟩ <;> cases hasB m ⟨x, y⟩ <;> rfl
theorem frm_has {a b : P2} (ha : drwB a = true) (hb : drwB b = true) (x y : Int) : hasS (uniL (frmR a b)) x y ↔ ((min a.x b.x ≤ x ∧ x ≤ max a.x b.x) ∧ min a.y b.y ≤ y ∧ y ≤ max a.y b.y) ∧ (x = a.x ∨ x = b.x ∨ y = a.y ∨ y = b.y) := by
  rw [uni_has (frm_ok ha hb).1]
  unfold frmR
  have e : (∃ l ∈ [rectL a (ac2 a b), rectL a (dn2 a b), rectL (ac2 a b) b, rectL (dn2 a b) b], hasS l x y) ↔ hasS (rectL a (ac2 a b)) x y ∨ hasS (rectL a (dn2 a b)) x y ∨ hasS (rectL (ac2 a b) b) x y ∨ hasS (rectL (dn2 a b) b) x y := by simp
  rw [e, rect_has, rect_has, rect_has, rect_has]
  unfold ac2 dn2
  simp only
  omega
theorem rect_turn (a b : P2) (x y : Int) : hasS (rectL b a) x y ↔ hasS (rectL a b) x y := by
  rw [rect_has, rect_has]
  omega
theorem rect_cross (a b : P2) (x y : Int) : hasS (rectL ⟨a.x, b.y⟩ ⟨b.x, a.y⟩) x y ↔ hasS (rectL a b) x y := by
  rw [rect_has, rect_has]
  simp only
  omega
theorem frm_in {a b : P2} (ha : drwB a = true) (hb : drwB b = true) (hx : min a.x b.x + 1 ≤ max a.x b.x - 1) (hy : min a.y b.y + 1 ≤ max a.y b.y - 1) (x y : Int) : hasS (rectL a b) x y ↔ hasS (uniL (frmR a b)) x y ∨ hasS (rectL ⟨min a.x b.x + 1, min a.y b.y + 1⟩ ⟨max a.x b.x - 1, max a.y b.y - 1⟩) x y := by
  rw [frm_has ha hb, rect_has, rect_has]
  simp only
  omega
theorem frm_thin {a b : P2} (ha : drwB a = true) (hb : drwB b = true) (h : max a.x b.x - 1 < min a.x b.x + 1 ∨ max a.y b.y - 1 < min a.y b.y + 1) (x y : Int) : hasS (uniL (frmR a b)) x y ↔ hasS (rectL a b) x y := by
  rw [frm_has ha hb, rect_has]
  omega
theorem in_drw {a b : P2} (ha : drwB a = true) (hb : drwB b = true) (hx : min a.x b.x + 1 ≤ max a.x b.x - 1) (hy : min a.y b.y + 1 ≤ max a.y b.y - 1) : drwB ⟨min a.x b.x + 1, min a.y b.y + 1⟩ = true ∧ drwB ⟨max a.x b.x - 1, max a.y b.y - 1⟩ = true := by
  have hA := drwB_iff.1 ha
  have hB := drwB_iff.1 hb
  exact ⟨drwB_iff.2 (by dsimp only; omega), drwB_iff.2 (by dsimp only; omega)⟩
set_option maxRecDepth 4000 in
set_option maxHeartbeats 1000000 in
theorem frames_d (w h : Int) (ts : List TL) (a b : P2) : DFun Tryz.prog 7 [shD w h ts, .val (.agg #[.int .i64 a.x, .int .i64 a.y]), .val (.agg #[.int .i64 b.x, .int .i64 b.y])] [.glob 0 (c4 redC)] (.val (.bool true)) [.glob 0 (c4 redC)] := by
  refine dcalls_go (N := 157) 1 (by kernel_rfl) Tryz.func7 rfl rfl rfl (by simp only [fr0, Nat.zero_add, Nat.reduceAdd]; exact rfl) rfl fun s0 hs0 => ?_
  refine zaf ?_
  refine zah 3 (by simp only [holes, List.cons_append, List.nil_append]; exact rfl) ?_
  refine zac ?_
  refine zaj rfl rfl rfl (op_boxam 1 rfl (ev1 rfl) rfl) (by simp only [upd, zaa, za]; exact rfl) ?_
  refine zaj rfl rfl rfl (op_boxa 2 rfl (ev1 rfl) rfl) (by simp only [upd, zaa, za]; exact rfl) ?_
  refine zaj rfl rfl rfl (op_boxa 3 rfl (ev1 rfl) rfl) (by simp only [upd, zaa, za]; exact rfl) ?_
  refine zab rfl rfl rfl (zad (.inr rfl) (ev1 rfl)) ?_
  refine zae ?_
  refine zaf ?_
  refine zaf ?_
  refine zac ?_
  refine zaj rfl rfl rfl (zai [0] [] [] rfl (ev1 rfl) en rfl rfl (wakes_d) rfl rfl rfl rfl rfl rfl) (by simp only [upd, zaa, za]; exact rfl) ?_
  refine zab rfl rfl rfl ((op_not rfl (ev1 rfl)).cast (d' := .val (.bool false)) (by kernel_rfl)) ?_
  refine zae ?_
  refine dwp_if_f rfl (rfl) ?_
  refine dwp_skip ?_
  refine zaf ?_
  by_cases hr : rightB w h ts = true
  · have hc := rightB_ok hr
    refine zac ?_
    refine zab rfl rfl rfl (op_ldmw rfl tb24 (ev1 rfl) rfl rfl) ?_
    refine zab rfl rfl rfl (zai [] [] [] rfl (ev1 rfl) (ec (ev1 rfl) en) rfl rfl (of_d w h ts hc) rfl rfl rfl rfl rfl rfl) ?_
    refine zab rfl rfl rfl (zad (.inl rfl) (ev1 rfl)) ?_
    refine zab rfl rfl rfl (op_ext rfl (ev1 rfl) rfl) ?_
    refine zab rfl rfl rfl (op_ext rfl (ev1 rfl) rfl) ?_
    refine zab rfl rfl rfl (zad (.inr rfl) (ev1 rfl)) ?_
    refine zab rfl rfl rfl (zad (.inr rfl) (ev1 rfl)) ?_
    refine zae ?_
    refine zaf ?_
    refine zaf ?_
    refine zac ?_
    refine zab rfl rfl rfl (zad (.inl rfl) (ev1 rfl)) ?_
    refine zab rfl rfl rfl ((op_neq rfl (ev1 rfl) (ev1 rfl)).cast (d' := .val (.bool false)) (by kernel_rfl)) ?_
    refine zae ?_
    refine dwp_if_f rfl (rfl) ?_
    refine dwp_skip ?_
    refine zaf ?_
    by_cases hd : (drwB a && drwB b) = true
    · obtain ⟨ha, hb⟩ := Bool.and_eq_true_iff.1 hd
      have hA := drwB_iff.1 ha
      have hB := drwB_iff.1 hb
      refine zac ?_
      refine zab rfl rfl rfl (zad (.inl rfl) (ev1 rfl)) ?_
      refine zab rfl rfl rfl (op_ldg (i := 0) rfl tb27 (ev1 rfl) rfl rfl) ?_
      refine zab rfl rfl rfl (op_ldw rfl tb51 (ev1 rfl) rfl rfl) ?_
      refine zab rfl rfl rfl (op_ldw rfl tb51 (ev1 rfl) rfl rfl) ?_
      refine zab rfl rfl rfl (zai [] [] [] rfl (ev1 rfl) (ec (ev1 rfl) (ec (ev1 rfl) (ec (ev1 rfl) (ec (ev1 rfl) en)))) rfl rfl (drect_d w h _ ts (dpR_ok _) hc redC a b ha hb) rfl rfl rfl rfl rfl rfl) ?_
      refine zab rfl rfl rfl (zad (.inl rfl) (ev1 rfl)) ?_
      refine zab rfl rfl rfl (op_ext rfl (ev1 rfl) rfl) ?_
      refine zab rfl rfl rfl (op_ext rfl (ev1 rfl) rfl) ?_
      refine zab rfl rfl rfl (zad (.inr rfl) (ev1 rfl)) ?_
      refine zab rfl rfl rfl (zad (.inr rfl) (ev1 rfl)) ?_
      refine zae ?_
      refine zaf ?_
      refine zaf ?_
      refine zac ?_
      refine zab rfl rfl rfl (zad (.inl rfl) (ev1 rfl)) ?_
      refine zab rfl rfl rfl ((op_neq rfl (ev1 rfl) (ev1 rfl)).cast (d' := .val (.bool false)) (by kernel_rfl)) ?_
      refine zae ?_
      refine dwp_if_f rfl (rfl) ?_
      refine dwp_skip ?_
      refine zaf ?_
      refine zac ?_
      refine zab rfl rfl rfl (zad (.inl rfl) (ev1 rfl)) ?_
      refine zab rfl rfl rfl (op_ldg (i := 0) rfl tb27 (ev1 rfl) rfl rfl) ?_
      refine zab rfl rfl rfl (op_ldw rfl tb51 (ev1 rfl) rfl rfl) ?_
      refine zab rfl rfl rfl (op_ldw rfl tb51 (ev1 rfl) rfl rfl) ?_
      refine zab rfl rfl rfl (zai [] [] [] rfl (ev1 rfl) (ec (ev1 rfl) (ec (ev1 rfl) (ec (ev1 rfl) (ec (ev1 rfl) en)))) rfl rfl (frame_d w h _ ts (dpR_ok _) hc redC a b ha hb) rfl rfl rfl rfl rfl rfl) ?_
      refine zab rfl rfl rfl (zad (.inl rfl) (ev1 rfl)) ?_
      refine zab rfl rfl rfl (op_ext rfl (ev1 rfl) rfl) ?_
      refine zab rfl rfl rfl (op_ext rfl (ev1 rfl) rfl) ?_
      refine zab rfl rfl rfl (zad (.inr rfl) (ev1 rfl)) ?_
      refine zab rfl rfl rfl (zad (.inr rfl) (ev1 rfl)) ?_
      refine zae ?_
      refine zaf ?_
      refine zac ?_
      refine zab rfl rfl rfl (zad (.inl rfl) (ev1 rfl)) ?_
      refine zab rfl rfl rfl (op_ldg (i := 0) rfl tb27 (ev1 rfl) rfl rfl) ?_
      refine zab rfl rfl rfl (op_ldw rfl tb51 (ev1 rfl) rfl rfl) ?_
      refine zab rfl rfl rfl (op_ldw rfl tb51 (ev1 rfl) rfl rfl) ?_
      refine zab rfl rfl rfl (zai [] [] [] rfl (ev1 rfl) (ec (ev1 rfl) (ec (ev1 rfl) (ec (ev1 rfl) (ec (ev1 rfl) en)))) rfl rfl (drect_d w h _ ts (dpR_ok _) hc redC b a hb ha) rfl rfl rfl rfl rfl rfl) ?_
      refine zab rfl rfl rfl (zad (.inl rfl) (ev1 rfl)) ?_
      refine zab rfl rfl rfl (op_ext rfl (ev1 rfl) rfl) ?_
      refine zab rfl rfl rfl (op_ext rfl (ev1 rfl) rfl) ?_
      refine zab rfl rfl rfl (zad (.inr rfl) (ev1 rfl)) ?_
      refine zab rfl rfl rfl (zad (.inr rfl) (ev1 rfl)) ?_
      refine zae ?_
      refine zaf ?_
      refine zac ?_
      refine zab rfl rfl rfl (zad (.inl rfl) (ev1 rfl)) ?_
      refine zab rfl rfl rfl (op_ldg (i := 0) rfl tb27 (ev1 rfl) rfl rfl) ?_
      refine zab rfl rfl rfl (op_fa rfl fo51_0 (ev1 rfl)) ?_
      refine zab rfl rfl rfl (op_ldo rfl tb3 (ev1 rfl) rfl rfl) ?_
      refine zab rfl rfl rfl (op_fa rfl fo51_1 (ev1 rfl)) ?_
      refine zab rfl rfl rfl (op_ldo rfl tb3 (ev1 rfl) rfl rfl) ?_
      refine zab rfl rfl rfl (op_build (ps := [(0, .tmp 67), (1, .tmp 69)]) rfl fl51 zr51 (vc (ev1 rfl) (vc (ev1 rfl) vn)) rfl rfl) ?_
      refine zab rfl rfl rfl (op_fa rfl fo51_0 (ev1 rfl)) ?_
      refine zab rfl rfl rfl (op_ldo rfl tb3 (ev1 rfl) rfl rfl) ?_
      refine zab rfl rfl rfl (op_fa rfl fo51_1 (ev1 rfl)) ?_
      refine zab rfl rfl rfl (op_ldo rfl tb3 (ev1 rfl) rfl rfl) ?_
      refine zab rfl rfl rfl (op_build (ps := [(0, .tmp 72), (1, .tmp 74)]) rfl fl51 zr51 (vc (ev1 rfl) (vc (ev1 rfl) vn)) rfl rfl) ?_
      refine zab rfl rfl rfl (zai [] [] [] rfl (ev1 rfl) (ec (ev1 rfl) (ec (ev1 rfl) (ec (ev1 rfl) (ec (ev1 rfl) en)))) rfl rfl (drect_d w h _ ts (dpR_ok _) hc redC ⟨a.x, b.y⟩ ⟨b.x, a.y⟩ (ac_drw ha hb).2 (ac_drw ha hb).1) rfl rfl rfl rfl rfl rfl) ?_
      refine zab rfl rfl rfl (zad (.inl rfl) (ev1 rfl)) ?_
      refine zab rfl rfl rfl (op_ext rfl (ev1 rfl) rfl) ?_
      refine zab rfl rfl rfl (op_ext rfl (ev1 rfl) rfl) ?_
      refine zab rfl rfl rfl (zad (.inr rfl) (ev1 rfl)) ?_
      refine zab rfl rfl rfl (zad (.inr rfl) (ev1 rfl)) ?_
      refine zae ?_
      refine zaf ?_
      refine zaf ?_
      refine zac ?_
      refine zab rfl rfl rfl (zad (.inl rfl) (ev1 rfl)) ?_
      refine zab rfl rfl rfl ((op_neq rfl (ev1 rfl) (ev1 rfl)).cast (d' := .val (.bool false)) (by kernel_rfl)) ?_
      refine zab rfl rfl rfl (zad (.inl rfl) (ev1 rfl)) ?_
      refine walk_k (gd_f (b := false) rfl rfl rfl) rfl rfl rfl (zad (.inl rfl) (ev1 rfl)) (by simp only [upd, zaa, za]; exact rfl) ?_
      refine walk_k (gd_f (b := false) rfl rfl rfl) rfl rfl rfl ((op_neq rfl (ev2 rfl) (ev1 rfl)).cast (d' := .val (.bool false)) (by kernel_rfl)) (by simp only [upd, zaa, za]; exact rfl) ?_
      refine zab rfl rfl rfl ((op_or rfl (ev1 rfl) (ev3 rfl (fun _ => rfl))).cast (d' := .val (.bool false)) (by rfl)) ?_
      refine zab rfl rfl rfl (zad (.inl rfl) (ev1 rfl)) ?_
      refine walk_k (gd_f (b := false) rfl rfl rfl) rfl rfl rfl (zad (.inl rfl) (ev1 rfl)) (by simp only [upd, zaa, za]; exact rfl) ?_
      refine walk_k (gd_f (b := false) rfl rfl rfl) rfl rfl rfl ((op_neq rfl (ev2 rfl) (ev1 rfl)).cast (d' := .val (.bool false)) (by kernel_rfl)) (by simp only [upd, zaa, za]; exact rfl) ?_
      refine zab rfl rfl rfl ((op_or rfl (ev1 rfl) (ev3 rfl (fun _ => rfl))).cast (d' := .val (.bool false)) (by rfl)) ?_
      refine zab rfl rfl rfl (zad (.inl rfl) (ev1 rfl)) ?_
      refine walk_k (gd_f (b := false) rfl rfl rfl) rfl rfl rfl (zad (.inl rfl) (ev1 rfl)) (by simp only [upd, zaa, za]; exact rfl) ?_
      refine walk_k (gd_f (b := false) rfl rfl rfl) rfl rfl rfl (zad (.inl rfl) (ev1 rfl)) (by simp only [upd, zaa, za]; exact rfl) ?_
      refine walk_k (gd_f (b := false) rfl rfl rfl) rfl rfl rfl ((zai [] [] [] rfl (ev1 rfl) (ec (ev2 rfl) (ec (ev2 rfl) en)) rfl rfl (same_cv w h _ _ (drwC false w h ts redC (rectL b a)) (drwC false w h ts redC (rectL a b)) (dpR_ok _) (dpR_ok _) (drwC_ok hc _ _ _) (drwC_ok hc _ _ _)) rfl rfl rfl rfl rfl rfl).cast (d' := .val (.bool true)) (by rw [drw_same hc false redC (rect_turn a b)]; simp)) (by simp only [upd, zaa, za]; exact rfl) ?_
      refine walk_k (gd_f (b := false) rfl rfl rfl) rfl rfl rfl ((op_not rfl (ev2 rfl)).cast (d' := .val (.bool false)) (by kernel_rfl)) (by simp only [upd, zaa, za]; exact rfl) ?_
      refine zab rfl rfl rfl ((op_or rfl (ev1 rfl) (ev3 rfl (fun _ => rfl))).cast (d' := .val (.bool false)) (by rfl)) ?_
      refine zab rfl rfl rfl (zad (.inl rfl) (ev1 rfl)) ?_
      refine walk_k (gd_f (b := false) rfl rfl rfl) rfl rfl rfl (zad (.inl rfl) (ev1 rfl)) (by simp only [upd, zaa, za]; exact rfl) ?_
      refine walk_k (gd_f (b := false) rfl rfl rfl) rfl rfl rfl (zad (.inl rfl) (ev1 rfl)) (by simp only [upd, zaa, za]; exact rfl) ?_
      refine walk_k (gd_f (b := false) rfl rfl rfl) rfl rfl rfl ((zai [] [] [] rfl (ev1 rfl) (ec (ev2 rfl) (ec (ev2 rfl) en)) rfl rfl (same_cv w h _ _ (drwC false w h ts redC (rectL ⟨a.x, b.y⟩ ⟨b.x, a.y⟩)) (drwC false w h ts redC (rectL a b)) (dpR_ok _) (dpR_ok _) (drwC_ok hc _ _ _) (drwC_ok hc _ _ _)) rfl rfl rfl rfl rfl rfl).cast (d' := .val (.bool true)) (by rw [drw_same hc false redC (rect_cross a b)]; simp)) (by simp only [upd, zaa, za]; exact rfl) ?_
      refine walk_k (gd_f (b := false) rfl rfl rfl) rfl rfl rfl ((op_not rfl (ev2 rfl)).cast (d' := .val (.bool false)) (by kernel_rfl)) (by simp only [upd, zaa, za]; exact rfl) ?_
      refine zab rfl rfl rfl ((op_or rfl (ev1 rfl) (ev3 rfl (fun _ => rfl))).cast (d' := .val (.bool false)) (by rfl)) ?_
      refine zae ?_
      refine dwp_if_f rfl (rfl) ?_
      refine dwp_skip ?_
      refine zaf ?_
      refine zah 2 (by simp only [holes, List.cons_append, List.nil_append]; exact rfl) ?_
      refine dwp_draw [([], []), ([2], []), ([], []), ([3], []), ([], []), ([], []), ([], []), ([2], []), ([], []), ([3], []), ([], []), ([], []), ([], []), ([], []), ([2], []), ([], []), ([3], []), ([], []), ([], []), ([], []), ([2], []), ([], []), ([3], []), ([], []), ([], []), ([], []), ([4], [4]), ([5], [5]), ([4], [4]), ([5], [5])] mixed (by kernel_rfl) ?_
      refine zag rfl rfl (op_fa rfl fo51_0 (ev1 rfl)) ?_
      refine zag rfl rfl (op_ldo rfl tb3 (ev1 rfl) rfl rfl) ?_
      refine zag rfl rfl (op_fa rfl fo51_0 (ev1 rfl)) ?_
      refine zag rfl rfl (op_ldo rfl tb3 (ev1 rfl) rfl rfl) ?_
      refine zag rfl rfl (op_min rfl (ev1 rfl) (ev1 rfl)) ?_
      refine zag rfl rfl (op_add' rfl (ev1 rfl) (ev1 rfl) (fun _ => IntWalk.i64_in _ (by omega))) ?_
      refine zag rfl rfl (op_fa rfl fo51_1 (ev1 rfl)) ?_
      refine zag rfl rfl (op_ldo rfl tb3 (ev1 rfl) rfl rfl) ?_
      refine zag rfl rfl (op_fa rfl fo51_1 (ev1 rfl)) ?_
      refine zag rfl rfl (op_ldo rfl tb3 (ev1 rfl) rfl rfl) ?_
      refine zag rfl rfl (op_min rfl (ev1 rfl) (ev1 rfl)) ?_
      refine zag rfl rfl (op_add' rfl (ev1 rfl) (ev1 rfl) (fun _ => IntWalk.i64_in _ (by omega))) ?_
      refine zag rfl rfl (op_build (ps := [(0, .tmp 106), (1, .tmp 112)]) rfl fl51 zr51 (vc (ev1 rfl) (vc (ev1 rfl) vn)) rfl rfl) ?_
      refine zag rfl rfl (op_fa rfl fo51_0 (ev1 rfl)) ?_
      refine zag rfl rfl (op_ldo rfl tb3 (ev1 rfl) rfl rfl) ?_
      refine zag rfl rfl (op_fa rfl fo51_0 (ev1 rfl)) ?_
      refine zag rfl rfl (op_ldo rfl tb3 (ev1 rfl) rfl rfl) ?_
      refine zag rfl rfl (op_max rfl (ev1 rfl) (ev1 rfl)) ?_
      refine zag rfl rfl (op_sub' rfl (ev1 rfl) (ev1 rfl) (fun _ => IntWalk.i64_in _ (by omega))) ?_
      refine zag rfl rfl (op_fa rfl fo51_1 (ev1 rfl)) ?_
      refine zag rfl rfl (op_ldo rfl tb3 (ev1 rfl) rfl rfl) ?_
      refine zag rfl rfl (op_fa rfl fo51_1 (ev1 rfl)) ?_
      refine zag rfl rfl (op_ldo rfl tb3 (ev1 rfl) rfl rfl) ?_
      refine zag rfl rfl (op_max rfl (ev1 rfl) (ev1 rfl)) ?_
      refine zag rfl rfl (op_sub' rfl (ev1 rfl) (ev1 rfl) (fun _ => IntWalk.i64_in _ (by omega))) ?_
      refine zag rfl rfl (op_build (ps := [(0, .tmp 119), (1, .tmp 125)]) rfl fl51 zr51 (vc (ev1 rfl) (vc (ev1 rfl) vn)) rfl rfl) ?_
      refine lex_w rfl rfl (op_alloc 4 rfl zr51 rfl) rfl (by simp only [upd, zaa, za]; exact rfl) ?_
      refine lex_w rfl rfl (op_alloc 5 rfl zr51 rfl) rfl (by simp only [upd, zaa, za]; exact rfl) ?_
      refine lex_s rfl rfl (op_stwa rfl tb51 (ev1 rfl) (ev1 rfl) rfl rfl rfl rfl) rfl (by simp only [upd, zaa, za]; exact rfl) ?_
      refine lex_s rfl rfl (op_stwa rfl tb51 (ev1 rfl) (ev1 rfl) rfl rfl rfl rfl) rfl (by simp only [upd, zaa, za]; exact rfl) ?_
      refine lex_nil ?_
      refine zaf ?_
      refine zaf ?_
      by_cases hlo : max a.x b.x - 1 < min a.x b.x + 1 ∨ max a.y b.y - 1 < min a.y b.y + 1
      · refine zac ?_
        refine zab rfl rfl rfl (op_fa rfl fo51_0 (ev1 rfl)) ?_
        refine zab rfl rfl rfl (op_ldo rfl tb3 (ev1 rfl) rfl rfl) ?_
        refine zab rfl rfl rfl (op_fa rfl fo51_0 (ev1 rfl)) ?_
        refine zab rfl rfl rfl (op_ldo rfl tb3 (ev1 rfl) rfl rfl) ?_
        refine zab rfl rfl rfl (op_gtr rfl (ev1 rfl) (ev1 rfl)) ?_
        refine zab rfl rfl rfl (zad (.inl rfl) (ev1 rfl)) ?_
        refine walk_gr (gd_f rfl rfl rfl) rfl rfl rfl (op_fa rfl fo51_1 (ev1 rfl)) ?_
        refine walk_gr (gd_f rfl rfl rfl) rfl rfl rfl (op_ldo rfl tb3 (ev2 rfl) rfl rfl) ?_
        refine walk_gr (gd_f rfl rfl rfl) rfl rfl rfl (op_fa rfl fo51_1 (ev1 rfl)) ?_
        refine walk_gr (gd_f rfl rfl rfl) rfl rfl rfl (op_ldo rfl tb3 (ev2 rfl) rfl rfl) ?_
        refine walk_gr (gd_f rfl rfl rfl) rfl rfl rfl (op_gtr rfl (ev2 rfl) (ev2 rfl)) ?_
        refine zab rfl rfl rfl (op_or rfl (ev1 rfl) (ev3 rfl id)) ?_
        refine zae ?_
        refine dwp_if_t rfl (by simp; omega) ?_
        refine zaf ?_
        refine zac ?_
        refine zab rfl rfl rfl (zad (.inl rfl) (ev1 rfl)) ?_
        refine zab rfl rfl rfl (zad (.inl rfl) (ev1 rfl)) ?_
        refine zab rfl rfl rfl ((zai [] [] [] rfl (ev1 rfl) (ec (ev1 rfl) (ec (ev1 rfl) en)) rfl rfl (same_cv w h _ _ (drwC false w h ts redC (uniL (frmR a b))) (drwC false w h ts redC (rectL a b)) (dpR_ok _) (dpR_ok _) (drwC_ok hc _ _ _) (drwC_ok hc _ _ _)) rfl rfl rfl rfl rfl rfl).cast (d' := .val (.bool true)) (by rw [drw_same hc false redC (frm_thin ha hb hlo)]; simp)) ?_
        refine zab rfl rfl rfl (zad (.inr rfl) (ev1 rfl)) ?_
        refine zae ?_
        refine dwp_ret ?_
        refine kend [0] (rs1 rfl (rv_t rfl)) rfl rfl ?_ ⟨rfl, trivial⟩
        rfl
      · refine zac ?_
        refine zab rfl rfl rfl (op_fa rfl fo51_0 (ev1 rfl)) ?_
        refine zab rfl rfl rfl (op_ldo rfl tb3 (ev1 rfl) rfl rfl) ?_
        refine zab rfl rfl rfl (op_fa rfl fo51_0 (ev1 rfl)) ?_
        refine zab rfl rfl rfl (op_ldo rfl tb3 (ev1 rfl) rfl rfl) ?_
        refine zab rfl rfl rfl (op_gtr rfl (ev1 rfl) (ev1 rfl)) ?_
        refine zab rfl rfl rfl (zad (.inl rfl) (ev1 rfl)) ?_
        refine walk_gr (gd_f rfl rfl rfl) rfl rfl rfl (op_fa rfl fo51_1 (ev1 rfl)) ?_
        refine walk_gr (gd_f rfl rfl rfl) rfl rfl rfl (op_ldo rfl tb3 (ev2 rfl) rfl rfl) ?_
        refine walk_gr (gd_f rfl rfl rfl) rfl rfl rfl (op_fa rfl fo51_1 (ev1 rfl)) ?_
        refine walk_gr (gd_f rfl rfl rfl) rfl rfl rfl (op_ldo rfl tb3 (ev2 rfl) rfl rfl) ?_
        refine walk_gr (gd_f rfl rfl rfl) rfl rfl rfl (op_gtr rfl (ev2 rfl) (ev2 rfl)) ?_
        refine zab rfl rfl rfl (op_or rfl (ev1 rfl) (ev3 rfl id)) ?_
        refine zae ?_
        refine dwp_if_f rfl (by simp; omega) ?_
        refine dwp_skip ?_
        refine zaf ?_
        obtain ⟨d1, d2⟩ := in_drw ha hb (by omega) (by omega)
        refine zac ?_
        refine zab rfl rfl rfl (zad (.inl rfl) (ev1 rfl)) ?_
        refine zab rfl rfl rfl (op_ldg (i := 0) rfl tb27 (ev1 rfl) rfl rfl) ?_
        refine zab rfl rfl rfl (op_ldw rfl tb51 (ev1 rfl) rfl rfl) ?_
        refine zab rfl rfl rfl (op_ldw rfl tb51 (ev1 rfl) rfl rfl) ?_
        refine zab rfl rfl rfl (zai [] [] [] rfl (ev1 rfl) (ec (ev1 rfl) (ec (ev1 rfl) (ec (ev1 rfl) (ec (ev1 rfl) en)))) rfl rfl (drect_d w h _ (drwC false w h ts redC (uniL (frmR a b))) (dpR_ok _) (drwC_ok hc _ _ _) redC ⟨min a.x b.x + 1, min a.y b.y + 1⟩ ⟨max a.x b.x - 1, max a.y b.y - 1⟩ d1 d2) rfl rfl rfl rfl rfl rfl) ?_
        refine zab rfl rfl rfl (zad (.inl rfl) (ev1 rfl)) ?_
        refine zab rfl rfl rfl (op_ext rfl (ev1 rfl) rfl) ?_
        refine zab rfl rfl rfl (op_ext rfl (ev1 rfl) rfl) ?_
        refine zab rfl rfl rfl (zad (.inr rfl) (ev1 rfl)) ?_
        refine zab rfl rfl rfl (zad (.inr rfl) (ev1 rfl)) ?_
        refine zae ?_
        refine zaf ?_
        refine zac ?_
        refine zab rfl rfl rfl (zad (.inl rfl) (ev1 rfl)) ?_
        refine zab rfl rfl rfl ((op_eql rfl (ev1 rfl) (ev1 rfl)).cast (d' := .val (.bool true)) (by kernel_rfl)) ?_
        refine zab rfl rfl rfl (zad (.inl rfl) (ev1 rfl)) ?_
        refine walk_k (gd_t (b := true) rfl rfl rfl) rfl rfl rfl (zad (.inl rfl) (ev1 rfl)) (by simp only [upd, zaa, za]; exact rfl) ?_
        refine walk_k (gd_t (b := true) rfl rfl rfl) rfl rfl rfl (zad (.inl rfl) (ev1 rfl)) (by simp only [upd, zaa, za]; exact rfl) ?_
        refine walk_k (gd_t (b := true) rfl rfl rfl) rfl rfl rfl ((zai [] [] [] rfl (ev1 rfl) (ec (ev2 rfl) (ec (ev2 rfl) en)) rfl rfl (same_cv w h _ _ (drwC false w h (drwC false w h ts redC (uniL (frmR a b))) redC (rectL ⟨min a.x b.x + 1, min a.y b.y + 1⟩ ⟨max a.x b.x - 1, max a.y b.y - 1⟩)) (drwC false w h ts redC (rectL a b)) (dpR_ok _) (dpR_ok _) (drwC_ok (drwC_ok hc _ _ _) _ _ _) (drwC_ok hc _ _ _)) rfl rfl rfl rfl rfl rfl).cast (d' := .val (.bool true)) (by rw [drw_both hc redC (n := rectL a b) (frm_in ha hb (by omega) (by omega))]; simp)) (by simp only [upd, zaa, za]; exact rfl) ?_
        refine zab rfl rfl rfl ((op_and rfl (ev1 rfl) (ev3 rfl (fun _ => rfl))).cast (d' := .val (.bool true)) (by rfl)) ?_
        refine zab rfl rfl rfl (zad (.inr rfl) (ev1 rfl)) ?_
        refine zae ?_
        refine dwp_ret ?_
        refine kend [0] (rs1 rfl (rv_t rfl)) rfl rfl ?_ ⟨rfl, trivial⟩
        rfl
    · refine zac ?_
      refine zab rfl rfl rfl (zad (.inl rfl) (ev1 rfl)) ?_
      refine zab rfl rfl rfl (op_ldg (i := 0) rfl tb27 (ev1 rfl) rfl rfl) ?_
      refine zab rfl rfl rfl (op_ldw rfl tb51 (ev1 rfl) rfl rfl) ?_
      refine zab rfl rfl rfl (op_ldw rfl tb51 (ev1 rfl) rfl rfl) ?_
      refine zab rfl rfl rfl (zai [] [] [] rfl (ev1 rfl) (ec (ev1 rfl) (ec (ev1 rfl) (ec (ev1 rfl) (ec (ev1 rfl) en)))) rfl rfl (drect_n w h _ ts (dpR_ok _) hc redC a b (by simpa using hd)) rfl rfl rfl rfl rfl rfl) ?_
      refine zab rfl rfl rfl (zad (.inl rfl) (ev1 rfl)) ?_
      refine zab rfl rfl rfl (op_ext rfl (ev1 rfl) rfl) ?_
      refine zab rfl rfl rfl (op_ext rfl (ev1 rfl) rfl) ?_
      refine zab rfl rfl rfl (zad (.inr rfl) (ev1 rfl)) ?_
      refine zab rfl rfl rfl (zad (.inr rfl) (ev1 rfl)) ?_
      refine zae ?_
      refine zaf ?_
      refine zaf ?_
      refine zac ?_
      refine zab rfl rfl rfl (zad (.inl rfl) (ev1 rfl)) ?_
      refine zab rfl rfl rfl ((op_neq rfl (ev1 rfl) (ev1 rfl)).cast (d' := .val (.bool true)) (by kernel_rfl)) ?_
      refine zae ?_
      refine dwp_if_t rfl (rfl) ?_
      refine zaf ?_
      refine zac ?_
      refine zab rfl rfl rfl (zad (.inl rfl) (ev1 rfl)) ?_
      refine zab rfl rfl rfl ((op_eql rfl (ev1 rfl) (ev1 rfl)).cast (d' := .val (.bool true)) (by kernel_rfl)) ?_
      refine zab rfl rfl rfl (zad (.inl rfl) (ev1 rfl)) ?_
      refine walk_k (gd_t (b := true) rfl rfl rfl) rfl rfl rfl (zad (.inl rfl) (ev1 rfl)) (by simp only [upd, zaa, za]; exact rfl) ?_
      refine walk_k (gd_t (b := true) rfl rfl rfl) rfl rfl rfl (op_pnil0 rfl pt33 (ev2 rfl)) (by simp only [upd, zaa, za]; exact rfl) ?_
      refine zab rfl rfl rfl ((op_and rfl (ev1 rfl) (ev3 rfl (fun _ => rfl))).cast (d' := .val (.bool true)) (by rfl)) ?_
      refine zab rfl rfl rfl (zad (.inr rfl) (ev1 rfl)) ?_
      refine zae ?_
      refine dwp_ret ?_
      refine kend [0] (rs1 rfl (rv_t rfl)) rfl rfl ?_ ⟨rfl, trivial⟩
      rfl
  · refine zac ?_
    refine zab rfl rfl rfl (op_ldmw rfl tb24 (ev1 rfl) rfl rfl) ?_
    refine zab rfl rfl rfl (zai [] [] [] rfl (ev1 rfl) (ec (ev1 rfl) en) rfl rfl (of_0 w h ts (by simpa using hr)) rfl rfl rfl rfl rfl rfl) ?_
    refine zab rfl rfl rfl (zad (.inl rfl) (ev1 rfl)) ?_
    refine zab rfl rfl rfl (op_ext rfl (ev1 rfl) rfl) ?_
    refine zab rfl rfl rfl (op_ext rfl (ev1 rfl) rfl) ?_
    refine zab rfl rfl rfl (zad (.inr rfl) (ev1 rfl)) ?_
    refine zab rfl rfl rfl (zad (.inr rfl) (ev1 rfl)) ?_
    refine zae ?_
    refine zaf ?_
    refine zaf ?_
    refine zac ?_
    refine zab rfl rfl rfl (zad (.inl rfl) (ev1 rfl)) ?_
    refine zab rfl rfl rfl ((op_neq rfl (ev1 rfl) (ev1 rfl)).cast (d' := .val (.bool true)) (by kernel_rfl)) ?_
    refine zae ?_
    refine dwp_if_t rfl (rfl) ?_
    refine zaf ?_
    refine zac ?_
    refine zab rfl rfl rfl (zad (.inl rfl) (ev1 rfl)) ?_
    refine zab rfl rfl rfl (op_pnil0 rfl pt33 (ev1 rfl)) ?_
    refine zab rfl rfl rfl (zad (.inr rfl) (ev1 rfl)) ?_
    refine zae ?_
    refine dwp_ret ?_
    refine kend [0] (rs1 rfl (rv_t rfl)) rfl rfl ?_ ⟨rfl, trivial⟩
    rfl
end Go.Proofs.YtjgnalfnginjbaaGreatDoor
