/- rows of spans together, and clipped; what a row has, and how many; rows copied and compared; places ranged over; fields of places, and their rows; what a row of spans has, by the document; places of canvases; colours that are near; A variable that holds one value with an address, then numbers, then another value with an address: its numbers told as one list; fields of numbers; searches; neighbours, and what is near; a search goes on from a place; searches by breadth; searches by breadth, from a place; regions. No condition. -/
import Derived.Test.YtfnhckildfbikaaGreatQ4
import Derived.Test.YtfnhckildfbikaaGreatRows
namespace Go.Proofs.YtfnhckildfbikaaGreat
set_option maxRecDepth 4000
set_option linter.unusedVariables false
set_option linter.unusedSimpArgs false
open Go.RowKit
theorem sl85 : slE Tryz.prog 85 = some (32, 1, 24) := by kernel_rfl
theorem tb32 : tyB Tryz.prog 32 = some (false, 1) := by kernel_rfl
theorem gath_d (l : List Sp) (hv : ∀ s ∈ l, s.f ≤ s.t) (hb : ∀ s ∈ l, bdS s) (hn : l.length ≤ 1000000) : DFun Tryz.prog 33 [.slf 3 l.length (l.flatMap s3)] [] (.slf 3 (normS l).length ((normS l).flatMap s3)) [] := freeze (gath_o l hv hb hn) rfl
def allC (rr : List (List Sp)) : Bool := rr.all fun l => decide (chkS l)
def uniL (rr : List (List Sp)) : List Sp := if allC rr = true then normS rr.flatten else []
def uniE (rr : List (List Sp)) : Int := if allC rr = true then 0 else 160
theorem uni_ok {rr : List (List Sp)} (h : allC rr = true) : uniL rr = normS rr.flatten ∧ uniE rr = 0 := by unfold uniL uniE; rw [if_pos h, if_pos h]; exact ⟨rfl, rfl⟩
theorem uni_no {rr : List (List Sp)} (h : allC rr = false) : uniL rr = [] ∧ uniE rr = 160 := by unfold uniL uniE; rw [h]; exact ⟨rfl, rfl⟩
theorem allC_add {rr : List (List Sp)} {i : Nat} (hi : i < rr.length) (h : allC (rr.take i) = true) (hc : chkS rr[i]) : allC (rr.take (i + 1)) = true := by
  unfold allC at *
  rw [List.take_succ_eq_append_getElem hi, List.all_append, h]
  simp [hc]
theorem allC_at {rr : List (List Sp)} {i : Nat} (hi : i < rr.length) (hc : ¬ chkS rr[i]) : allC rr = false := by
  unfold allC
  refine List.all_eq_false.2 ⟨rr[i], List.getElem_mem hi, by simp [hc]⟩
theorem allC_mem {rr : List (List Sp)} (h : allC rr = true) {l : List Sp} (hl : l ∈ rr) : chkS l := by simpa using List.all_eq_true.1 h l hl
theorem flat_add {α : Type} {rr : List (List α)} {i : Nat} (hi : i < rr.length) : (rr.take (i + 1)).flatten = (rr.take i).flatten ++ rr[i] := by rw [List.take_succ_eq_append_getElem hi, List.flatten_append]; simp
theorem flat_le {α : Type} (rr : List (List α)) (i : Nat) : (rr.take i).flatten.length ≤ rr.flatten.length := by
  have : rr.flatten = (rr.take i).flatten ++ (rr.drop i).flatten := by rw [← List.flatten_append, List.take_append_drop]
  rw [this, List.length_append]; omega
theorem allC_flat {rr : List (List Sp)} (h : allC rr = true) : ∀ s ∈ rr.flatten, rchS s ∧ s.f ≤ s.t := fun s hs => by
  obtain ⟨l, hl, h1⟩ := List.mem_flatten.1 hs
  exact (allC_mem h hl).1 s h1
theorem oc3 (l : List Sp) : (l.flatMap s3).all (·.oneCell') = true := flat_oc (fun _ => rfl) l
set_option maxRecDepth 4000 in
set_option maxHeartbeats 1000000 in
theorem union_d (rr : List (List Sp)) (hn : rr.flatten.length ≤ 1000000) : DFun Tryz.prog 9 [.slm 1 (rr).length ((rr).flatMap fun l => [.slf 3 l.length (l.flatMap s3)])] [] (.tup [.slf 3 (uniL rr).length ((uniL rr).flatMap s3), .val (.int .i64 (uniE rr))]) [] := by
  refine zan (N := 25) 0 (by kernel_rfl) Tryz.func9 rfl rfl rfl (by simp only [fr0, Nat.zero_add, Nat.reduceAdd]; exact rfl) rfl fun s0 hs0 => ?_
  refine dwp_lenm (t := 0) rfl fun hl0 hL0 => ?_
  refine zaf ?_
  refine zac ?_
  refine zab rfl rfl rfl (zad (.inr rfl) (ev1 rfl)) ?_
  refine zab rfl rfl rfl (zad (.inr rfl) (ev1 rfl)) ?_
  refine zae ?_
  refine zaf ?_
  refine zac ?_
  refine zab rfl rfl rfl (zad (.inr rfl) (ev1 rfl)) ?_
  refine zae ?_
  refine zaf ?_
  refine zaf ?_
  refine zac ?_
  refine zab rfl rfl rfl (zad (.inl rfl) (ev1 rfl)) ?_
  refine zab rfl rfl rfl (op_lenm rfl sl85 (ev1 rfl)) ?_
  refine zab rfl rfl rfl (zad (.inl rfl) (ev1 rfl)) ?_
  refine zae ?_
  refine zak ?_
  refine dwp_adopt 4 41 3 rfl rfl rfl ?_
  refine dwp_loopS ⟨hs0, rfl⟩ (α := Nat) (fun i => [(10, .val (.int .i64 (i : Int)))]) [(4, _), (8, _), (9, _)] (fun i => [(0, .arr 41 3 ((rr.take i).flatten).length (((rr.take i).flatten).flatMap s3))]) [.hole] (fun i => i ≤ rr.length ∧ allC (rr.take i) = true) (fun i => rr.length - i) 0 [0] (⟨Nat.zero_le _, rfl⟩) rfl ⟨rfl, rfl, rfl, trivial⟩ ⟨rfl, trivial⟩ ⟨rfl, trivial⟩ ?_
  intro i hx
  simp only [upd, zaa, za, List.cons_append, List.nil_append]
  obtain ⟨hi0, hok⟩ := hx
  have hfl := flat_le rr i
  refine zaf ?_
  refine zac ?_
  refine zab rfl rfl rfl (op_lss rfl (ev1 rfl) (ev1 rfl)) ?_
  refine zae ?_
  refine zaf ?_
  refine dwp_cond rfl (fun c1 => ?_) (fun c1 => ?_)
  · try simp only [decide_eq_true_eq, decide_eq_false_iff_not, beq_iff_eq, bne_iff_ne, beq_eq_false_iff_ne, bne_eq_false_iff_eq, Bool.not_eq_true', Bool.not_eq_false', Bool.and_eq_true, Bool.or_eq_true, Bool.or_eq_false_iff, ne_eq, Decidable.not_not, Int.not_lt, Int.not_le] at c1
    refine zal ?_
    refine zaf ?_
    refine zak ?_
    refine zaf ?_
    have hi : i < rr.length := by omega
    refine zac ?_
    refine zab rfl rfl rfl (op_ixm (i) rfl sl85 (ev1 rfl) (ev1 rfl) (fun _ => rfl) (flat1_at (by omega))) ?_
    refine zab rfl rfl rfl (op_lddm rfl tb32 (ev1 rfl) rfl) ?_
    refine zab rfl rfl rfl (zad (.inr rfl) (ev1 rfl)) ?_
    refine zae ?_
    refine zaf ?_
    refine zaf ?_
    refine zac ?_
    refine zab rfl rfl rfl (zad (.inl rfl) (ev1 rfl)) ?_
    refine zab rfl rfl rfl (zai [] [] [] rfl (ev1 rfl) (ec (ev1 rfl) en) rfl rfl (check_d rr[i]) rfl rfl rfl rfl rfl rfl) ?_
    refine zab rfl rfl rfl (zad (.inr rfl) (ev1 rfl)) ?_
    refine zae ?_
    refine zaf ?_
    refine zac ?_
    refine zab rfl rfl rfl (zad (.inl rfl) (ev1 rfl)) ?_
    refine zab rfl rfl rfl (op_neq rfl (ev1 rfl) (ev1 rfl)) ?_
    refine zae ?_
    refine dwp_cond rfl (fun c2 => ?_) (fun c2 => ?_)
    · have hc : ¬ chkS rr[i] := fun h => by rw [chkE_ok h] at c2; simp at c2
      have hall := uni_no (allC_at hi hc)
      rw [chkE_no hc]
      refine zaf ?_
      refine zac ?_
      refine zab rfl rfl rfl (zad (.inl rfl) (ev1 rfl)) ?_
      refine zab rfl rfl rfl (zad (.inr rfl) (ev1 rfl)) ?_
      refine zab rfl rfl rfl (zad (.inr rfl) (ev1 rfl)) ?_
      refine zae ?_
      refine dwp_wk 2 rfl (Wk.slf0 3) ?_
      refine dwp_ret ?_
      refine kend0 (rs2 rfl (rv_t rfl) (rv_t rfl)) rfl ?_
      rw [hall.1, hall.2]
      rfl
    · have hc : chkS rr[i] := by
        by_cases h : chkS rr[i]
        · exact h
        · rw [chkE_no h] at c2; simp at c2
      have hfa := flat_le rr (i + 1)
      rw [flat_add hi, List.length_append] at hfa
      refine zal ?_
      refine zah 1 (by simp only [holes, List.cons_append, List.nil_append]; exact rfl) ?_
      refine zac ?_
      refine zab rfl rfl rfl (zad (.inl rfl) (ev1 rfl)) ?_
      refine zab rfl rfl rfl (zad (.inl rfl) (ev1 rfl)) ?_
      refine zaj rfl rfl rfl (op_app (j := 1) rfl sl32 zr41 rfl (ev1 rfl) (ev1 rfl) src_slf rfl rfl (fun _ => oc3 _) (fun _ => ⟨by omega, by omega⟩)) (by simp only [upd, zaa, za]; exact rfl) ?_
      refine zab rfl rfl rfl (zad (.inr rfl) (ev1 rfl)) ?_
      refine zae ?_
      refine zac ?_
      refine zab rfl rfl rfl (op_add' rfl (ev1 rfl) (ev1 rfl) (fun _ => IntWalk.i64_in _ (by omega))) ?_
      refine zab rfl rfl rfl (zad (.inl rfl) (ev1 rfl)) ?_
      refine zae ?_
      refine ⟨i + 1, [1], ⟨by omega, allC_add hi hok hc⟩, by simp only []; omega, rfl, ⟨rfl, rfl, rfl, rfl, trivial⟩, ⟨(by rw [flat_add hi, List.length_append, List.flatMap_append]; rfl), trivial⟩⟩
  · try simp only [decide_eq_true_eq, decide_eq_false_iff_not, beq_iff_eq, bne_iff_ne, beq_eq_false_iff_ne, bne_eq_false_iff_eq, Bool.not_eq_true', Bool.not_eq_false', Bool.and_eq_true, Bool.or_eq_true, Bool.or_eq_false_iff, ne_eq, Decidable.not_not, Int.not_lt, Int.not_le] at c1
    refine dwp_exit ?_
    refine zaf ?_
    refine dwp_giveA 4 rfl rfl (by simp only [zaa, za]; exact rfl) ?_
    rw [take_all (by omega)] at hok
    have hall := uni_ok hok
    have hvf := allC_flat hok
    rw [show (rr.take i).flatten = rr.flatten by rw [take_all (by omega)]]
    refine zac ?_
    refine zab rfl rfl rfl (zad (.inl rfl) (ev1 rfl)) ?_
    refine zab rfl rfl rfl (zai [] [] [] rfl (ev1 rfl) (ec (ev1 rfl) en) rfl rfl (gath_d _ (fun s hs => (hvf s hs).2) (fun s hs => rch_bd (hvf s hs).1) hn) rfl rfl rfl rfl rfl rfl) ?_
    refine zab rfl rfl rfl (zad (.inr rfl) (ev1 rfl)) ?_
    refine zab rfl rfl rfl (zad (.inr rfl) (ev1 rfl)) ?_
    refine zae ?_
    refine dwp_ret ?_
    refine kend0 (rs2 rfl (rv_t rfl) (rv_t rfl)) rfl ?_
    rw [hall.1, hall.2]
end Go.Proofs.YtfnhckildfbikaaGreat
namespace Go.Proofs.YtfnhckildfbikaaGreat
set_option maxRecDepth 4000
set_option linter.unusedVariables false
set_option linter.unusedSimpArgs false
open Go.RowKit
theorem tb4 : tyB Tryz.prog 4 = some (false, 1) := by kernel_rfl
theorem zr4 : zrC Tryz.prog 4 = some [.bool false] := by kernel_rfl
set_option maxRecDepth 4000 in
set_option maxHeartbeats 1000000 in
theorem told_d (l : List Sp) : DFun Tryz.prog 34 [.slf 3 l.length (l.flatMap s3)] [] (.fn (.func 67) [] [.loc 0 0]) [.mix 32 [.slf 3 l.length (l.flatMap s3)]] := by
  refine zan (N := 4) 0 (by kernel_rfl) Tryz.func34 rfl rfl rfl (by simp only [fr0, Nat.zero_add, Nat.reduceAdd]; exact rfl) rfl fun s0 hs0 => ?_
  refine dwp_len (t := 0) rfl fun hl0 hL0 => ?_
  refine zaf ?_
  refine zah 1 (by simp only [holes, List.cons_append, List.nil_append]; exact rfl) ?_
  refine zac ?_
  refine zaj rfl rfl rfl (op_boxm 0 rfl (ev1 rfl) (fun s v h => by cases h <;> rfl) rfl) (by simp only [upd, zaa, za]; exact rfl) ?_
  refine zab rfl rfl rfl (zad (.inr rfl) (ev1 rfl)) ?_
  refine zae ?_
  refine zaf ?_
  refine zac ?_
  refine zab rfl rfl rfl (op_mkf rfl en (ec (ev1 rfl) en)) ?_
  refine zab rfl rfl rfl (zad (.inr rfl) (ev1 rfl)) ?_
  refine zae ?_
  refine dwp_ret ?_
  refine kend [0] (rs1 rfl (rv_t rfl)) rfl rfl ?_ ⟨rfl, trivial⟩
  rfl
noncomputable def hsrA : Code := rfA (pth [1, 0, 1, 1, 0, 1, 0] (bodyOf Tryz.f14))
noncomputable def hsrB : Code := rfB (pth [1, 0, 1, 1, 0, 1, 0] (bodyOf Tryz.f14))
def hitB (s : Sp) (p : P2) : Bool := decide (s.y = p.y) && (decide (s.f ≤ p.x) && decide (p.x ≤ s.t))
theorem hitB_iff {s : Sp} {p : P2} : hitB s p = true ↔ s.has p.x p.y := by
  unfold hitB Sp.has
  simp only [Bool.and_eq_true, decide_eq_true_eq]
def goB (s : Sp) (p : P2) : Bool := !decide (p.y < s.y) && !hitB s p
def hasB (l : List Sp) (p : P2) : Bool := decide (hasS l p.x p.y)
theorem hasB_stop {l : List Sp} (hc : chkS l) {p : P2} {i : Nat} (hi : i < l.length) (ha : (l.take i).all (fun s => goB s p) = true) (hg : goB l[i] p = false) : hasB l p = hitB l[i] p := by
  unfold hasB
  rw [Bool.eq_iff_iff, decide_eq_true_eq, hitB_iff]
  constructor
  · rintro ⟨s, hs, h⟩
    obtain ⟨j, hj, rfl⟩ := List.getElem_of_mem hs
    rcases Nat.lt_trichotomy j i with e | e | e
    · have := List.all_eq_true.1 ha l[j] (List.mem_take_iff_getElem.2 ⟨j, by omega, rfl⟩)
      unfold goB at this
      rw [hitB_iff.2 h] at this
      simp at this
    · subst e; exact h
    · unfold goB at hg
      cases hh : hitB l[i] p with
      | true => exact hitB_iff.1 hh
      | false =>
        rw [hh] at hg
        have h1 : p.y < l[i].y := by simpa using hg
        have h2 := List.pairwise_iff_getElem.1 hc.2 i j hi hj e
        have h3 := h.1
        unfold apS at h2
        omega
  · exact fun h => ⟨_, List.getElem_mem hi, h⟩
theorem hasB_end {l : List Sp} {p : P2} (ha : l.all (fun s => goB s p) = true) : hasB l p = false := by
  unfold hasB
  rw [decide_eq_false_iff_not]
  rintro ⟨s, hs, h⟩
  have := List.all_eq_true.1 ha s hs
  unfold goB at this
  rw [hitB_iff.2 h] at this
  simp at this
theorem all_add {α : Type} {q : α → Bool} {l : List α} {i : Nat} (hi : i < l.length) (h : (l.take i).all q = true) (hq : q l[i] = true) : (l.take (i + 1)).all q = true := by
  rw [List.take_succ_eq_append_getElem hi, List.all_append, h]
  simp [hq]
theorem all_no {α : Type} {q : α → Bool} {l : List α} {i : Nat} (hi : i < l.length) (hq : q l[i] = false) : l.all q = false := List.all_eq_false.2 ⟨_, List.getElem_mem hi, by simp [hq]⟩
set_option maxRecDepth 4000 in
set_option maxHeartbeats 1000000 in
theorem hasRound_y (s : Sp) (p : P2) (b : Bool) (h : p.y < s.y) : DRound Tryz.prog 0 [.val (.agg (s3 s).toArray)] [.lp 35 [(3, .loc 1 0), (5, .loc 2 0)] #[9] hsrA hsrB .ready none, .flat 26 [.int .i64 p.x, .int .i64 p.y], .flat 4 [.bool b]] false [.lp 35 [(3, .loc 1 0), (5, .loc 2 0)] #[9] hsrA hsrB .done (some (.exit 0)), .flat 26 [.int .i64 p.x, .int .i64 p.y], .flat 4 [.bool b]] := by
  refine dround_go 3 rfl rfl (by simp) rfl rfl fun s0 hs0 => ?_
  refine zah 1 (by simp only [holes, List.cons_append, List.nil_append]; exact rfl) ?_
  refine zac ?_
  refine zaj rfl rfl rfl (op_alloc 3 rfl zr41 rfl) (by simp only [upd, zaa, za]; exact rfl) ?_
  refine walk_s rfl rfl (op_stwa rfl tb41 (ev1 rfl) (ev1 rfl) rfl rfl rfl rfl) (by simp only [upd, zaa, za]; exact rfl) ?_
  refine zae ?_
  refine ⟨rfl, ?_⟩
  simp only [zaa, za]
  refine zak ?_
  refine zaf ?_
  refine zaf ?_
  refine zac ?_
  refine zab rfl rfl rfl (op_fa rfl fo41_0 (ev1 rfl)) ?_
  refine zab rfl rfl rfl (op_ldo rfl tb3 (ev1 rfl) rfl rfl) ?_
  refine zab rfl rfl rfl (op_fa rfl fo26_1 (ev1 rfl)) ?_
  refine zab rfl rfl rfl (op_ldo rfl tb3 (ev1 rfl) rfl rfl) ?_
  refine zab rfl rfl rfl (op_gtr rfl (ev1 rfl) (ev1 rfl)) ?_
  refine zae ?_
  refine dwp_if_t rfl (by simpa using h) ?_
  refine dwp_exit ?_
  refine ⟨by first | rfl | assumption | simp_all, rfl, [0, 1, 2], rfl, ⟨rfl, rfl, rfl, trivial⟩⟩
set_option maxRecDepth 4000 in
set_option maxHeartbeats 1000000 in
theorem hasRound_t (s : Sp) (p : P2) (b : Bool) (h : ¬ p.y < s.y ∧ hitB s p = true) : DRound Tryz.prog 0 [.val (.agg (s3 s).toArray)] [.lp 35 [(3, .loc 1 0), (5, .loc 2 0)] #[9] hsrA hsrB .ready none, .flat 26 [.int .i64 p.x, .int .i64 p.y], .flat 4 [.bool b]] false [.lp 35 [(3, .loc 1 0), (5, .loc 2 0)] #[9] hsrA hsrB .done (some (.exit 0)), .flat 26 [.int .i64 p.x, .int .i64 p.y], .flat 4 [.bool true]] := by
  refine dround_go 3 rfl rfl (by simp) rfl rfl fun s0 hs0 => ?_
  refine zah 1 (by simp only [holes, List.cons_append, List.nil_append]; exact rfl) ?_
  refine zac ?_
  refine zaj rfl rfl rfl (op_alloc 3 rfl zr41 rfl) (by simp only [upd, zaa, za]; exact rfl) ?_
  refine walk_s rfl rfl (op_stwa rfl tb41 (ev1 rfl) (ev1 rfl) rfl rfl rfl rfl) (by simp only [upd, zaa, za]; exact rfl) ?_
  refine zae ?_
  refine ⟨rfl, ?_⟩
  simp only [zaa, za]
  refine zak ?_
  refine zaf ?_
  refine zaf ?_
  refine zac ?_
  refine zab rfl rfl rfl (op_fa rfl fo41_0 (ev1 rfl)) ?_
  refine zab rfl rfl rfl (op_ldo rfl tb3 (ev1 rfl) rfl rfl) ?_
  refine zab rfl rfl rfl (op_fa rfl fo26_1 (ev1 rfl)) ?_
  refine zab rfl rfl rfl (op_ldo rfl tb3 (ev1 rfl) rfl rfl) ?_
  refine zab rfl rfl rfl (op_gtr rfl (ev1 rfl) (ev1 rfl)) ?_
  refine zae ?_
  refine dwp_if_f rfl (by simpa using h.1) ?_
  refine zal ?_
  refine zaf ?_
  refine zac ?_
  refine zab rfl rfl rfl (op_fa rfl fo41_0 (ev1 rfl)) ?_
  refine zab rfl rfl rfl (op_ldo rfl tb3 (ev1 rfl) rfl rfl) ?_
  refine zab rfl rfl rfl (op_fa rfl fo26_1 (ev1 rfl)) ?_
  refine zab rfl rfl rfl (op_ldo rfl tb3 (ev1 rfl) rfl rfl) ?_
  refine zab rfl rfl rfl (op_eql rfl (ev1 rfl) (ev1 rfl)) ?_
  refine zab rfl rfl rfl (zad (.inl rfl) (ev1 rfl)) ?_
  refine walk_gr (gd_t rfl rfl rfl) rfl rfl rfl (op_fa rfl fo41_1 (ev1 rfl)) ?_
  refine walk_gr (gd_t rfl rfl rfl) rfl rfl rfl (op_ldo rfl tb3 (ev2 rfl) rfl rfl) ?_
  refine walk_gr (gd_t rfl rfl rfl) rfl rfl rfl (op_fa rfl fo26_0 (ev1 rfl)) ?_
  refine walk_gr (gd_t rfl rfl rfl) rfl rfl rfl (op_ldo rfl tb3 (ev2 rfl) rfl rfl) ?_
  refine walk_gr (gd_t rfl rfl rfl) rfl rfl rfl (op_leq rfl (ev2 rfl) (ev2 rfl)) ?_
  refine zab rfl rfl rfl (op_and rfl (ev1 rfl) (ev3 rfl id)) ?_
  refine zab rfl rfl rfl (zad (.inl rfl) (ev1 rfl)) ?_
  refine walk_gr (gd_t rfl rfl rfl) rfl rfl rfl (op_fa rfl fo26_0 (ev1 rfl)) ?_
  refine walk_gr (gd_t rfl rfl rfl) rfl rfl rfl (op_ldo rfl tb3 (ev2 rfl) rfl rfl) ?_
  refine walk_gr (gd_t rfl rfl rfl) rfl rfl rfl (op_fa rfl fo41_2 (ev1 rfl)) ?_
  refine walk_gr (gd_t rfl rfl rfl) rfl rfl rfl (op_ldo rfl tb3 (ev2 rfl) rfl rfl) ?_
  refine walk_gr (gd_t rfl rfl rfl) rfl rfl rfl (op_leq rfl (ev2 rfl) (ev2 rfl)) ?_
  refine zab rfl rfl rfl (op_and rfl (ev1 rfl) (ev3 rfl id)) ?_
  refine zae ?_
  refine dwp_if_t rfl (by have := h.2; unfold hitB at this; simp at this; simp [this]) ?_
  refine zaf ?_
  refine zac ?_
  refine walk_s rfl rfl (op_stwb rfl tb4 (ev1 rfl) (ev1 rfl) rfl) (by simp only [upd, zaa, za]; exact rfl) ?_
  refine zae ?_
  refine dwp_exit ?_
  refine ⟨by first | rfl | assumption | simp_all, rfl, [0, 1, 2], rfl, ⟨rfl, rfl, rfl, trivial⟩⟩
set_option maxRecDepth 4000 in
set_option maxHeartbeats 1000000 in
theorem hasRound_g (s : Sp) (p : P2) (b : Bool) (h : ¬ p.y < s.y ∧ hitB s p = false) : DRound Tryz.prog 0 [.val (.agg (s3 s).toArray)] [.lp 35 [(3, .loc 1 0), (5, .loc 2 0)] #[9] hsrA hsrB .ready none, .flat 26 [.int .i64 p.x, .int .i64 p.y], .flat 4 [.bool b]] true [.lp 35 [(3, .loc 1 0), (5, .loc 2 0)] #[9] hsrA hsrB .ready none, .flat 26 [.int .i64 p.x, .int .i64 p.y], .flat 4 [.bool b]] := by
  refine dround_go 3 rfl rfl (by simp) rfl rfl fun s0 hs0 => ?_
  refine zah 1 (by simp only [holes, List.cons_append, List.nil_append]; exact rfl) ?_
  refine zac ?_
  refine zaj rfl rfl rfl (op_alloc 3 rfl zr41 rfl) (by simp only [upd, zaa, za]; exact rfl) ?_
  refine walk_s rfl rfl (op_stwa rfl tb41 (ev1 rfl) (ev1 rfl) rfl rfl rfl rfl) (by simp only [upd, zaa, za]; exact rfl) ?_
  refine zae ?_
  refine ⟨rfl, ?_⟩
  simp only [zaa, za]
  refine zak ?_
  refine zaf ?_
  refine zaf ?_
  refine zac ?_
  refine zab rfl rfl rfl (op_fa rfl fo41_0 (ev1 rfl)) ?_
  refine zab rfl rfl rfl (op_ldo rfl tb3 (ev1 rfl) rfl rfl) ?_
  refine zab rfl rfl rfl (op_fa rfl fo26_1 (ev1 rfl)) ?_
  refine zab rfl rfl rfl (op_ldo rfl tb3 (ev1 rfl) rfl rfl) ?_
  refine zab rfl rfl rfl (op_gtr rfl (ev1 rfl) (ev1 rfl)) ?_
  refine zae ?_
  refine dwp_if_f rfl (by simpa using h.1) ?_
  refine zal ?_
  refine zaf ?_
  refine zac ?_
  refine zab rfl rfl rfl (op_fa rfl fo41_0 (ev1 rfl)) ?_
  refine zab rfl rfl rfl (op_ldo rfl tb3 (ev1 rfl) rfl rfl) ?_
  refine zab rfl rfl rfl (op_fa rfl fo26_1 (ev1 rfl)) ?_
  refine zab rfl rfl rfl (op_ldo rfl tb3 (ev1 rfl) rfl rfl) ?_
  refine zab rfl rfl rfl (op_eql rfl (ev1 rfl) (ev1 rfl)) ?_
  refine zab rfl rfl rfl (zad (.inl rfl) (ev1 rfl)) ?_
  refine walk_gr (gd_t rfl rfl rfl) rfl rfl rfl (op_fa rfl fo41_1 (ev1 rfl)) ?_
  refine walk_gr (gd_t rfl rfl rfl) rfl rfl rfl (op_ldo rfl tb3 (ev2 rfl) rfl rfl) ?_
  refine walk_gr (gd_t rfl rfl rfl) rfl rfl rfl (op_fa rfl fo26_0 (ev1 rfl)) ?_
  refine walk_gr (gd_t rfl rfl rfl) rfl rfl rfl (op_ldo rfl tb3 (ev2 rfl) rfl rfl) ?_
  refine walk_gr (gd_t rfl rfl rfl) rfl rfl rfl (op_leq rfl (ev2 rfl) (ev2 rfl)) ?_
  refine zab rfl rfl rfl (op_and rfl (ev1 rfl) (ev3 rfl id)) ?_
  refine zab rfl rfl rfl (zad (.inl rfl) (ev1 rfl)) ?_
  refine walk_gr (gd_t rfl rfl rfl) rfl rfl rfl (op_fa rfl fo26_0 (ev1 rfl)) ?_
  refine walk_gr (gd_t rfl rfl rfl) rfl rfl rfl (op_ldo rfl tb3 (ev2 rfl) rfl rfl) ?_
  refine walk_gr (gd_t rfl rfl rfl) rfl rfl rfl (op_fa rfl fo41_2 (ev1 rfl)) ?_
  refine walk_gr (gd_t rfl rfl rfl) rfl rfl rfl (op_ldo rfl tb3 (ev2 rfl) rfl rfl) ?_
  refine walk_gr (gd_t rfl rfl rfl) rfl rfl rfl (op_leq rfl (ev2 rfl) (ev2 rfl)) ?_
  refine zab rfl rfl rfl (op_and rfl (ev1 rfl) (ev3 rfl id)) ?_
  refine zae ?_
  refine dwp_if_f rfl (by rw [← h.2]; unfold hitB; simp [Bool.and_assoc]; rfl) ?_
  refine zal ?_
  refine ⟨by first | rfl | assumption | simp_all, rfl, [0, 1, 2], rfl, ⟨rfl, rfl, rfl, trivial⟩⟩
theorem hasRound (s : Sp) (p : P2) : DRound Tryz.prog 0 [.val (.agg (s3 s).toArray)] [.lp 35 [(3, .loc 1 0), (5, .loc 2 0)] #[9] hsrA hsrB .ready none, .flat 26 [.int .i64 p.x, .int .i64 p.y], .flat 4 [.bool false]] (goB s p) [.lp 35 [(3, .loc 1 0), (5, .loc 2 0)] #[9] hsrA hsrB (rst (goB s p)) (rpe (.exit 0) (goB s p)), .flat 26 [.int .i64 p.x, .int .i64 p.y], .flat 4 [.bool (hitB s p)]] := by
  by_cases h : p.y < s.y
  · have e : goB s p = false := by unfold goB; simp [h]
    have e2 : hitB s p = false := by unfold hitB; rw [decide_eq_false (by omega)]; rfl
    rw [e, e2]
    exact hasRound_y s p false h
  · cases hh : hitB s p with
    | true =>
      have e : goB s p = false := by unfold goB; simp [hh]
      rw [e]
      exact hasRound_t s p false ⟨h, hh⟩
    | false =>
      have e : goB s p = true := by unfold goB; simp [hh]; omega
      rw [e]
      exact hasRound_g s p false ⟨h, hh⟩
set_option maxRecDepth 4000 in
set_option maxHeartbeats 1000000 in
theorem told_has (l : List Sp) (hc : chkS l) (p : P2) (hn : l.length ≤ 9223372036854775807) : DFun Tryz.prog 67 [.yld 0, .loc 3 0] [.lp 35 [(3, .loc 1 0), (5, .loc 2 0)] #[9] hsrA hsrB .ready none, .flat 26 [.int .i64 p.x, .int .i64 p.y], .flat 4 [.bool false], .mix 32 [.slf 3 l.length (l.flatMap s3)]] (.tup []) [.lp 35 [(3, .loc 1 0), (5, .loc 2 0)] #[9] hsrA hsrB (rst (l.all fun s => goB s p)) (rpe (.exit 0) (l.all fun s => goB s p)), .flat 26 [.int .i64 p.x, .int .i64 p.y], .flat 4 [.bool (hasB l p)], .mix 32 [.slf 3 l.length (l.flatMap s3)]] := by
  refine zan (N := 19) 4 (by kernel_rfl) Tryz.func67 rfl rfl rfl (by simp only [fr0, Nat.zero_add, Nat.reduceAdd]; exact rfl) rfl fun s0 hs0 => ?_
  refine zaf ?_
  refine zaf ?_
  refine zac ?_
  refine zab rfl rfl rfl (op_ldm rfl tb32 (ev1 rfl) rfl rfl) ?_
  refine zab rfl rfl rfl (zai [] [] [] rfl (ev1 rfl) (ec (ev1 rfl) en) rfl rfl (check_d l) rfl rfl rfl rfl rfl rfl) ?_
  refine zab rfl rfl rfl (op_neq rfl (ev1 rfl) (ev1 rfl)) ?_
  refine zae ?_
  refine dwp_if_f rfl (by rw [chkE_ok hc]; rfl) ?_
  refine zal ?_
  refine zaf ?_
  refine zac ?_
  refine zab rfl rfl rfl (op_ldm rfl tb32 (ev1 rfl) rfl rfl) ?_
  refine zab rfl rfl rfl (op_len rfl sl32 (ev1 rfl)) ?_
  refine zab rfl rfl rfl (zad (.inl rfl) (ev1 rfl)) ?_
  refine zae ?_
  refine zak ?_
  refine dwp_loopS ⟨hs0, rfl⟩ (α := Nat) (fun i => [(10, .val (.int .i64 (i : Int)))]) [(0, _), (8, _), (9, _)] (fun i => []) [_, _, _, _] (fun i => i ≤ l.length ∧ (l.take i).all (fun s => goB s p) = true) (fun i => l.length - i) 0 [0, 1, 2, 3] (⟨Nat.zero_le _, rfl⟩) rfl ⟨rfl, rfl, rfl, trivial⟩ ⟨rfl, trivial⟩ ⟨rfl, rfl, rfl, rfl, trivial⟩ ?_
  intro i hx
  simp only [upd, zaa, za, List.cons_append, List.nil_append]
  obtain ⟨hi0, hall⟩ := hx
  refine zaf ?_
  refine zac ?_
  refine zab rfl rfl rfl (op_lss rfl (ev1 rfl) (ev1 rfl)) ?_
  refine zae ?_
  refine zaf ?_
  refine dwp_cond rfl (fun c2 => ?_) (fun c2 => ?_)
  · try simp only [decide_eq_true_eq, decide_eq_false_iff_not, beq_iff_eq, bne_iff_ne, beq_eq_false_iff_ne, bne_eq_false_iff_eq, Bool.not_eq_true', Bool.not_eq_false', Bool.and_eq_true, Bool.or_eq_true, Bool.or_eq_false_iff, ne_eq, Decidable.not_not, Int.not_lt, Int.not_le] at c2
    refine zal ?_
    refine zaf ?_
    refine zak ?_
    refine zaf ?_
    have hi : i < l.length := by omega
    refine zah 1 (by simp only [holes, List.cons_append, List.nil_append]; exact rfl) ?_
    refine zac ?_
    refine zab rfl rfl rfl (op_ixsr (j := i) rfl sl32 (ev1 rfl) (ev1 rfl) (fun _ => rfl) (by decide) (by omega) (by omega)) ?_
    refine zab rfl rfl rfl (op_ldwd rfl tb41 (ev1 rfl) rfl) ?_
    refine zaj rfl rfl rfl (op_alloc 4 rfl zr41 rfl) (by simp only [upd, zaa, za]; exact rfl) ?_
    refine walk_s rfl rfl (op_stwa rfl tb41 (ev1 rfl) (ev1 rfl) rfl rfl rfl rfl) (by simp only [upd, zaa, za]; exact rfl) ?_
    refine zae ?_
    refine zaf ?_
    refine zac ?_
    refine zab rfl rfl rfl (zad (.inl rfl) (ev1 rfl)) ?_
    refine zab rfl rfl rfl (op_ldw rfl tb41 (ev1 rfl) rfl rfl) ?_
    refine zaj rfl rfl rfl (op_y (i := 0) [0, 1, 2] [] [] rfl (ev1 rfl) (ec (ev1 rfl) en) rfl rfl rfl (hasRound l[i] p) rfl rfl rfl rfl rfl) (by simp only [upd, zaa, za]; exact rfl) ?_
    refine zab rfl rfl rfl (op_not rfl (ev1 rfl)) ?_
    refine zae ?_
    refine dwp_cond rfl (fun c2 => ?_) (fun c2 => ?_)
    · have hg : goB l[i] p = false := by simpa using c2
      refine dwp_ret ?_
      have e1 := hasB_stop hc hi hall hg
      have e2 := all_no (q := fun s => goB s p) hi hg
      rw [e1, e2, hg]
      refine kend [0, 1, 2, 3] (res_none rfl) rfl rfl ?_ ⟨rfl, rfl, rfl, rfl, trivial⟩
      rfl
    · have hg : goB l[i] p = true := by simpa using c2
      refine zal ?_
      refine zac ?_
      refine zab rfl rfl rfl (op_add' rfl (ev1 rfl) (ev1 rfl) (fun _ => IntWalk.i64_in _ (by omega))) ?_
      refine zab rfl rfl rfl (zad (.inl rfl) (ev1 rfl)) ?_
      refine zae ?_
      have hnh : hitB l[i] p = false := by unfold goB at hg; revert hg; cases hitB l[i] p <;> simp
      rw [hg, hnh]
      refine ⟨i + 1, [0, 1, 2, 3], ⟨by omega, all_add hi hall hg⟩, by simp only []; omega, rfl, ⟨rfl, rfl, rfl, rfl, trivial⟩, ⟨rfl, rfl, rfl, rfl, trivial⟩⟩
  · try simp only [decide_eq_true_eq, decide_eq_false_iff_not, beq_iff_eq, bne_iff_ne, beq_eq_false_iff_ne, bne_eq_false_iff_eq, Bool.not_eq_true', Bool.not_eq_false', Bool.and_eq_true, Bool.or_eq_true, Bool.or_eq_false_iff, ne_eq, Decidable.not_not, Int.not_lt, Int.not_le] at c2
    refine dwp_exit ?_
    rw [take_all (by omega)] at hall
    have e1 := hasB_end hall
    rw [e1, hall]
    refine kend [0, 1, 2, 3] (res_none rfl) rfl rfl ?_ ⟨rfl, rfl, rfl, rfl, trivial⟩
    rfl
set_option maxRecDepth 4000 in
set_option maxHeartbeats 1000000 in
theorem told_has_no (l : List Sp) (hc : ¬ chkS l) (p : P2) : DFun Tryz.prog 67 [.yld 0, .loc 3 0] [.lp 35 [(3, .loc 1 0), (5, .loc 2 0)] #[9] hsrA hsrB .ready none, .flat 26 [.int .i64 p.x, .int .i64 p.y], .flat 4 [.bool false], .mix 32 [.slf 3 l.length (l.flatMap s3)]] (.tup []) [.lp 35 [(3, .loc 1 0), (5, .loc 2 0)] #[9] hsrA hsrB .ready none, .flat 26 [.int .i64 p.x, .int .i64 p.y], .flat 4 [.bool false], .mix 32 [.slf 3 l.length (l.flatMap s3)]] := by
  refine zan (N := 19) 4 (by kernel_rfl) Tryz.func67 rfl rfl rfl (by simp only [fr0, Nat.zero_add, Nat.reduceAdd]; exact rfl) rfl fun s0 hs0 => ?_
  refine zaf ?_
  refine zaf ?_
  refine zac ?_
  refine zab rfl rfl rfl (op_ldm rfl tb32 (ev1 rfl) rfl rfl) ?_
  refine zab rfl rfl rfl (zai [] [] [] rfl (ev1 rfl) (ec (ev1 rfl) en) rfl rfl (check_d l) rfl rfl rfl rfl rfl rfl) ?_
  refine zab rfl rfl rfl (op_neq rfl (ev1 rfl) (ev1 rfl)) ?_
  refine zae ?_
  refine dwp_if_t rfl (by rw [chkE_no hc]; rfl) ?_
  refine dwp_ret ?_
  refine kend [0, 1, 2, 3] (res_none rfl) rfl rfl ?_ ⟨rfl, rfl, rfl, rfl, trivial⟩
  rfl
set_option maxRecDepth 4000 in
set_option maxHeartbeats 1000000 in
theorem has_ok (l : List Sp) (hc : chkS l) (p : P2) : DFun Tryz.prog 14 [.slf 3 l.length (l.flatMap s3), .val (.agg #[.int .i64 p.x, .int .i64 p.y])] [] (.val (.bool (hasB l p))) [] := by
  refine zan (N := 35) 0 (by kernel_rfl) Tryz.func14 rfl rfl rfl (by simp only [fr0, Nat.zero_add, Nat.reduceAdd]; exact rfl) rfl fun s0 hs0 => ?_
  refine dwp_len (t := 0) rfl fun hl0 hL0 => ?_
  refine zaf ?_
  refine zah 1 (by simp only [holes, List.cons_append, List.nil_append]; exact rfl) ?_
  refine zac ?_
  refine zaj rfl rfl rfl (op_boxa 0 rfl (ev1 rfl) rfl) (by simp only [upd, zaa, za]; exact rfl) ?_
  refine zab rfl rfl rfl (zad (.inr rfl) (ev1 rfl)) ?_
  refine zae ?_
  refine dwp_scope ?_
  refine zaf ?_
  refine zah 1 (by simp only [holes, List.cons_append, List.nil_append]; exact rfl) ?_
  refine zac ?_
  refine zaj rfl rfl rfl (op_alloc 1 rfl zr4 rfl) (by simp only [upd, zaa, za]; exact rfl) ?_
  refine walk_s rfl rfl (op_stwb rfl tb4 (ev1 rfl) (ev1 rfl) rfl) (by simp only [upd, zaa, za]; exact rfl) ?_
  refine zae ?_
  refine zaf ?_
  refine dwp_label ?_
  refine zaf ?_
  refine zaf ?_
  refine zah 1 (by simp only [holes, List.cons_append, List.nil_append]; exact rfl) ?_
  refine zac ?_
  refine zab rfl rfl rfl (zad (.inl rfl) (ev1 rfl)) ?_
  refine zaj rfl rfl rfl (zai [] [] [2] rfl (ev1 rfl) (ec (ev1 rfl) en) rfl rfl (told_d l) rfl rfl rfl rfl rfl rfl) (by simp only [upd, zaa, za]; exact rfl) ?_
  refine zae ?_
  refine zak ?_
  refine dwp_hole ?_
  simp only [List.cons_append, List.nil_append]
  refine dwp_rf (FL := [(3, _), (5, _)]) (st := (rst (l.all fun s => goB s p))) (pe := (rpe (.exit 0) (l.all fun s => goB s p))) [3, 0, 1, 2] [] [] 3 rfl rfl (ev1 rfl) rfl (subF_lk ⟨rfl, rfl, trivial⟩) rfl rfl rfl (told_has l hc p hl0) rfl rfl rfl rfl rfl rfl rfl (rst_busy _) (fun e => ?_) (fun c e => ?_)
  · simp only [upd, zaa, za]
    refine zaf ?_
    refine zac ?_
    refine zab rfl rfl rfl (op_ldo rfl tb4 (ev1 rfl) rfl rfl) ?_
    refine zab rfl rfl rfl (zad (.inr rfl) (ev1 rfl)) ?_
    refine zae ?_
    refine dwp_ret ?_
    refine kend0 (rs1 rfl (rv_t rfl)) rfl ?_
    rfl
  · obtain ⟨e1, rfl⟩ : (l.all fun s => goB s p) = false ∧ c = .exit 0 := by
      cases h : (l.all fun s => goB s p) <;> simp_all [rpe]
    simp only [upd, zaa, za]
    refine dwp_exit ?_
    refine zaf ?_
    refine zac ?_
    refine zab rfl rfl rfl (op_ldo rfl tb4 (ev1 rfl) rfl rfl) ?_
    refine zab rfl rfl rfl (zad (.inr rfl) (ev1 rfl)) ?_
    refine zae ?_
    refine dwp_ret ?_
    refine kend0 (rs1 rfl (rv_t rfl)) rfl ?_
    rfl
set_option maxRecDepth 4000 in
set_option maxHeartbeats 1000000 in
theorem has_no (l : List Sp) (hc : ¬ chkS l) (p : P2) : DFun Tryz.prog 14 [.slf 3 l.length (l.flatMap s3), .val (.agg #[.int .i64 p.x, .int .i64 p.y])] [] (.val (.bool false)) [] := by
  refine zan (N := 35) 0 (by kernel_rfl) Tryz.func14 rfl rfl rfl (by simp only [fr0, Nat.zero_add, Nat.reduceAdd]; exact rfl) rfl fun s0 hs0 => ?_
  refine dwp_len (t := 0) rfl fun hl0 hL0 => ?_
  refine zaf ?_
  refine zah 1 (by simp only [holes, List.cons_append, List.nil_append]; exact rfl) ?_
  refine zac ?_
  refine zaj rfl rfl rfl (op_boxa 0 rfl (ev1 rfl) rfl) (by simp only [upd, zaa, za]; exact rfl) ?_
  refine zab rfl rfl rfl (zad (.inr rfl) (ev1 rfl)) ?_
  refine zae ?_
  refine dwp_scope ?_
  refine zaf ?_
  refine zah 1 (by simp only [holes, List.cons_append, List.nil_append]; exact rfl) ?_
  refine zac ?_
  refine zaj rfl rfl rfl (op_alloc 1 rfl zr4 rfl) (by simp only [upd, zaa, za]; exact rfl) ?_
  refine walk_s rfl rfl (op_stwb rfl tb4 (ev1 rfl) (ev1 rfl) rfl) (by simp only [upd, zaa, za]; exact rfl) ?_
  refine zae ?_
  refine zaf ?_
  refine dwp_label ?_
  refine zaf ?_
  refine zaf ?_
  refine zah 1 (by simp only [holes, List.cons_append, List.nil_append]; exact rfl) ?_
  refine zac ?_
  refine zab rfl rfl rfl (zad (.inl rfl) (ev1 rfl)) ?_
  refine zaj rfl rfl rfl (zai [] [] [2] rfl (ev1 rfl) (ec (ev1 rfl) en) rfl rfl (told_d l) rfl rfl rfl rfl rfl rfl) (by simp only [upd, zaa, za]; exact rfl) ?_
  refine zae ?_
  refine zak ?_
  refine dwp_hole ?_
  simp only [List.cons_append, List.nil_append]
  refine dwp_rf (FL := [(3, _), (5, _)]) (st := .ready) (pe := none) [3, 0, 1, 2] [] [] 3 rfl rfl (ev1 rfl) rfl (subF_lk ⟨rfl, rfl, trivial⟩) rfl rfl rfl (told_has_no l hc p) rfl rfl rfl rfl rfl rfl rfl (by simp) (fun e => ?_) (fun c e => ?_)
  · simp only [upd, zaa, za]
    refine zaf ?_
    refine zac ?_
    refine zab rfl rfl rfl (op_ldo rfl tb4 (ev1 rfl) rfl rfl) ?_
    refine zab rfl rfl rfl (zad (.inr rfl) (ev1 rfl)) ?_
    refine zae ?_
    refine dwp_ret ?_
    refine kend0 (rs1 rfl (rv_t rfl)) rfl ?_
    rfl
  · cases e
def hasL (l : List Sp) (p : P2) : Bool := decide (chkS l) && hasB l p
theorem has_d (l : List Sp) (p : P2) : DFun Tryz.prog 14 [.slf 3 l.length (l.flatMap s3), .val (.agg #[.int .i64 p.x, .int .i64 p.y])] [] (.val (.bool (hasL l p))) [] := by
  by_cases hc : chkS l
  · have e : hasL l p = hasB l p := by unfold hasL; rw [decide_eq_true hc]; rfl
    rw [e]; exact has_ok l hc p
  · have e : hasL l p = false := by unfold hasL; rw [decide_eq_false hc]; rfl
    rw [e]; exact has_no l hc p
end Go.Proofs.YtfnhckildfbikaaGreat
namespace Go.Proofs.YtfnhckildfbikaaGreat
set_option maxRecDepth 4000
set_option linter.unusedVariables false
set_option linter.unusedSimpArgs false
open Go.RowKit
theorem eq41 {a b : Sp} : eqT Tryz.prog 9 41 (s3 a) (s3 b) = some (decide (a = b)) := by
  have h : ((a.y == b.y) && ((a.f == b.f) && ((a.t == b.t) && true))) = decide (a = b) := by
    obtain ⟨x, y, z⟩ := a
    obtain ⟨x', y', z'⟩ := b
    rw [Bool.eq_iff_iff]
    simp
  rw [← h]
  exact (show eqT Tryz.prog 9 41 [.int .i64 a.y, .int .i64 a.f, .int .i64 a.t] [.int .i64 b.y, .int .i64 b.f, .int .i64 b.t] = some ((a.y == b.y) && ((a.f == b.f) && ((a.t == b.t) && true))) by kernel_rfl)
theorem gd41 : Tryz.prog.eqGuardType Tryz.prog.depth 41 = false := by kernel_rfl
theorem zr32 : zrC Tryz.prog 32 = some [.slice none 0 0] := by kernel_rfl
set_option maxRecDepth 4000 in
set_option maxHeartbeats 1000000 in
theorem equalS (l r : List Sp) : DFun Tryz.prog 10 [.slf 3 l.length (l.flatMap s3), .slf 3 r.length (r.flatMap s3)] [] (.val (.bool (decide (l = r)))) [] := by
  refine zan (N := 26) 0 (by kernel_rfl) Tryz.func10 rfl rfl rfl (by simp only [fr0, Nat.zero_add, Nat.reduceAdd]; exact rfl) rfl fun s0 hs0 => ?_
  refine dwp_len (t := 0) rfl fun hl0 hL0 => ?_
  refine dwp_len (t := 1) rfl fun hl1 hL1 => ?_
  refine zaf ?_
  refine zac ?_
  refine zab rfl rfl rfl (zad (.inr rfl) (ev1 rfl)) ?_
  refine zae ?_
  refine zaf ?_
  refine zaf ?_
  refine zac ?_
  refine zab rfl rfl rfl (zad (.inl rfl) (ev1 rfl)) ?_
  refine zab rfl rfl rfl (op_len rfl sl32 (ev1 rfl)) ?_
  refine zab rfl rfl rfl (zad (.inl rfl) (ev1 rfl)) ?_
  refine zab rfl rfl rfl (op_len rfl sl32 (ev1 rfl)) ?_
  refine zab rfl rfl rfl (op_neq rfl (ev1 rfl) (ev1 rfl)) ?_
  refine zae ?_
  refine dwp_cond rfl (fun c1 => ?_) (fun c1 => ?_)
  · try simp only [decide_eq_true_eq, decide_eq_false_iff_not, beq_iff_eq, bne_iff_ne, beq_eq_false_iff_ne, bne_eq_false_iff_eq, Bool.not_eq_true', Bool.not_eq_false', Bool.and_eq_true, Bool.or_eq_true, Bool.or_eq_false_iff, ne_eq, Decidable.not_not, Int.not_lt, Int.not_le] at c1
    refine zaf ?_
    refine zac ?_
    refine zab rfl rfl rfl (zad (.inr rfl) (ev1 rfl)) ?_
    refine zae ?_
    refine dwp_ret ?_
    refine kend0 (rs1 rfl (rv_t rfl)) rfl ?_
    have hne : l ≠ r := fun e => by subst e; exact c1 rfl
    rw [decide_eq_false hne]
  · try simp only [decide_eq_true_eq, decide_eq_false_iff_not, beq_iff_eq, bne_iff_ne, beq_eq_false_iff_ne, bne_eq_false_iff_eq, Bool.not_eq_true', Bool.not_eq_false', Bool.and_eq_true, Bool.or_eq_true, Bool.or_eq_false_iff, ne_eq, Decidable.not_not, Int.not_lt, Int.not_le] at c1
    have hlen : l.length = r.length := by omega
    refine zal ?_
    refine zaf ?_
    refine zaf ?_
    refine zac ?_
    refine zab rfl rfl rfl (zad (.inl rfl) (ev1 rfl)) ?_
    refine zab rfl rfl rfl (op_len rfl sl32 (ev1 rfl)) ?_
    refine zab rfl rfl rfl (zad (.inl rfl) (ev1 rfl)) ?_
    refine zae ?_
    refine zak ?_
    refine dwp_loopS ⟨hs0, rfl⟩ (α := Nat) (fun k => [(13, .val (.int .i64 (k : Int)))]) [(0, _), (1, _), (12, _)] (fun k => []) [] (fun k => k ≤ l.length ∧ l.take k = r.take k) (fun k => l.length - k) 0 [] (by simp) rfl ⟨rfl, rfl, rfl, trivial⟩ ⟨rfl, trivial⟩ trivial ?_
    intro k hx
    simp only [upd, zaa, za, List.cons_append, List.nil_append]
    obtain ⟨hk, he⟩ := hx
    refine zaf ?_
    refine zac ?_
    refine zab rfl rfl rfl (op_lss rfl (ev1 rfl) (ev1 rfl)) ?_
    refine zae ?_
    refine zaf ?_
    refine dwp_cond rfl (fun c2 => ?_) (fun c2 => ?_)
    · try simp only [decide_eq_true_eq, decide_eq_false_iff_not, beq_iff_eq, bne_iff_ne, beq_eq_false_iff_ne, bne_eq_false_iff_eq, Bool.not_eq_true', Bool.not_eq_false', Bool.and_eq_true, Bool.or_eq_true, Bool.or_eq_false_iff, ne_eq, Decidable.not_not, Int.not_lt, Int.not_le] at c2
      refine zal ?_
      refine zaf ?_
      refine zak ?_
      refine zaf ?_
      refine zac ?_
      refine zab rfl rfl rfl (zad (.inl rfl) (ev1 rfl)) ?_
      refine zab rfl rfl rfl (zad (.inr rfl) (ev1 rfl)) ?_
      refine zae ?_
      refine zaf ?_
      refine dwp_draw [([], []), ([], []), ([], []), ([], []), ([], []), ([], []), ([], []), ([], []), ([], [])] mixed (by kernel_rfl) ?_
      refine zag rfl rfl (zad (.inl rfl) (ev1 rfl)) ?_
      refine zag rfl rfl (zad (.inl rfl) (ev1 rfl)) ?_
      refine zag rfl rfl (op_ixsr (j := k) rfl sl32 (ev1 rfl) (ev1 rfl) (fun _ => rfl) (by decide) (by omega) (by omega)) ?_
      refine zag rfl rfl (op_ldwd rfl tb41 (ev1 rfl) rfl) ?_
      refine zag rfl rfl (zad (.inl rfl) (ev1 rfl)) ?_
      refine zag rfl rfl (zad (.inl rfl) (ev1 rfl)) ?_
      refine zag rfl rfl (op_ixsr (j := k) rfl sl32 (ev1 rfl) (ev1 rfl) (fun _ => rfl) (by decide) (by omega) (by omega)) ?_
      refine zag rfl rfl (op_ldwd rfl tb41 (ev1 rfl) rfl) ?_
      refine zag rfl rfl (op_ner eq41 rfl gd41 tb41 (ev1 rfl) (ev1 rfl)) ?_
      refine lex_nil ?_
      refine dwp_cond rfl (fun c2 => ?_) (fun c2 => ?_)
      · have c3 : l[k] ≠ r[k] := by simpa using c2
        refine zaf ?_
        refine zac ?_
        refine zab rfl rfl rfl (zad (.inr rfl) (ev1 rfl)) ?_
        refine zae ?_
        refine dwp_ret ?_
        refine kend0 (rs1 rfl (rv_t rfl)) rfl ?_
        have hne : l ≠ r := fun e => by subst e; exact c3 rfl
        rw [decide_eq_false hne]
      · have c3 : l[k] = r[k] := by simpa using c2
        refine zal ?_
        refine zac ?_
        refine zab rfl rfl rfl (op_add' rfl (ev1 rfl) (ev1 rfl) (fun _ => IntWalk.i64_in _ (by omega))) ?_
        refine zab rfl rfl rfl (zad (.inl rfl) (ev1 rfl)) ?_
        refine zae ?_
        refine ⟨k + 1, [], ⟨by omega, by rw [List.take_succ_eq_append_getElem (by omega), List.take_succ_eq_append_getElem (by omega), he, c3]⟩, by simp only []; omega, rfl, ⟨rfl, rfl, rfl, rfl, trivial⟩, trivial⟩
    · try simp only [decide_eq_true_eq, decide_eq_false_iff_not, beq_iff_eq, bne_iff_ne, beq_eq_false_iff_ne, bne_eq_false_iff_eq, Bool.not_eq_true', Bool.not_eq_false', Bool.and_eq_true, Bool.or_eq_true, Bool.or_eq_false_iff, ne_eq, Decidable.not_not, Int.not_lt, Int.not_le] at c2
      refine dwp_exit ?_
      refine zaf ?_
      refine zac ?_
      refine zab rfl rfl rfl (zad (.inr rfl) (ev1 rfl)) ?_
      refine zae ?_
      refine dwp_ret ?_
      refine kend0 (rs1 rfl (rv_t rfl)) rfl ?_
      have e : l = r := by
        have h := he
        rw [List.take_of_length_le (by omega), List.take_of_length_le (by omega)] at h
        exact h
      rw [decide_eq_true e]
set_option maxRecDepth 4000 in
set_option maxHeartbeats 1000000 in
theorem equalPt (l r : List P2) : DFun Tryz.prog 23 [.slf 2 l.length (l.flatMap p2), .slf 2 r.length (r.flatMap p2)] [] (.val (.bool (decide (l = r)))) [] := by
  refine zan (N := 26) 0 (by kernel_rfl) Tryz.func23 rfl rfl rfl (by simp only [fr0, Nat.zero_add, Nat.reduceAdd]; exact rfl) rfl fun s0 hs0 => ?_
  refine dwp_len (t := 0) rfl fun hl0 hL0 => ?_
  refine dwp_len (t := 1) rfl fun hl1 hL1 => ?_
  refine zaf ?_
  refine zac ?_
  refine zab rfl rfl rfl (zad (.inr rfl) (ev1 rfl)) ?_
  refine zae ?_
  refine zaf ?_
  refine zaf ?_
  refine zac ?_
  refine zab rfl rfl rfl (zad (.inl rfl) (ev1 rfl)) ?_
  refine zab rfl rfl rfl (op_len rfl sl55 (ev1 rfl)) ?_
  refine zab rfl rfl rfl (zad (.inl rfl) (ev1 rfl)) ?_
  refine zab rfl rfl rfl (op_len rfl sl55 (ev1 rfl)) ?_
  refine zab rfl rfl rfl (op_neq rfl (ev1 rfl) (ev1 rfl)) ?_
  refine zae ?_
  refine dwp_cond rfl (fun c1 => ?_) (fun c1 => ?_)
  · try simp only [decide_eq_true_eq, decide_eq_false_iff_not, beq_iff_eq, bne_iff_ne, beq_eq_false_iff_ne, bne_eq_false_iff_eq, Bool.not_eq_true', Bool.not_eq_false', Bool.and_eq_true, Bool.or_eq_true, Bool.or_eq_false_iff, ne_eq, Decidable.not_not, Int.not_lt, Int.not_le] at c1
    refine zaf ?_
    refine zac ?_
    refine zab rfl rfl rfl (zad (.inr rfl) (ev1 rfl)) ?_
    refine zae ?_
    refine dwp_ret ?_
    refine kend0 (rs1 rfl (rv_t rfl)) rfl ?_
    have hne : l ≠ r := fun e => by subst e; exact c1 rfl
    rw [decide_eq_false hne]
  · try simp only [decide_eq_true_eq, decide_eq_false_iff_not, beq_iff_eq, bne_iff_ne, beq_eq_false_iff_ne, bne_eq_false_iff_eq, Bool.not_eq_true', Bool.not_eq_false', Bool.and_eq_true, Bool.or_eq_true, Bool.or_eq_false_iff, ne_eq, Decidable.not_not, Int.not_lt, Int.not_le] at c1
    have hlen : l.length = r.length := by omega
    refine zal ?_
    refine zaf ?_
    refine zaf ?_
    refine zac ?_
    refine zab rfl rfl rfl (zad (.inl rfl) (ev1 rfl)) ?_
    refine zab rfl rfl rfl (op_len rfl sl55 (ev1 rfl)) ?_
    refine zab rfl rfl rfl (zad (.inl rfl) (ev1 rfl)) ?_
    refine zae ?_
    refine zak ?_
    refine dwp_loopS ⟨hs0, rfl⟩ (α := Nat) (fun k => [(13, .val (.int .i64 (k : Int)))]) [(0, _), (1, _), (12, _)] (fun k => []) [] (fun k => k ≤ l.length ∧ l.take k = r.take k) (fun k => l.length - k) 0 [] (by simp) rfl ⟨rfl, rfl, rfl, trivial⟩ ⟨rfl, trivial⟩ trivial ?_
    intro k hx
    simp only [upd, zaa, za, List.cons_append, List.nil_append]
    obtain ⟨hk, he⟩ := hx
    refine zaf ?_
    refine zac ?_
    refine zab rfl rfl rfl (op_lss rfl (ev1 rfl) (ev1 rfl)) ?_
    refine zae ?_
    refine zaf ?_
    refine dwp_cond rfl (fun c2 => ?_) (fun c2 => ?_)
    · try simp only [decide_eq_true_eq, decide_eq_false_iff_not, beq_iff_eq, bne_iff_ne, beq_eq_false_iff_ne, bne_eq_false_iff_eq, Bool.not_eq_true', Bool.not_eq_false', Bool.and_eq_true, Bool.or_eq_true, Bool.or_eq_false_iff, ne_eq, Decidable.not_not, Int.not_lt, Int.not_le] at c2
      refine zal ?_
      refine zaf ?_
      refine zak ?_
      refine zaf ?_
      refine zac ?_
      refine zab rfl rfl rfl (zad (.inl rfl) (ev1 rfl)) ?_
      refine zab rfl rfl rfl (zad (.inr rfl) (ev1 rfl)) ?_
      refine zae ?_
      refine zaf ?_
      refine dwp_draw [([], []), ([], []), ([], []), ([], []), ([], []), ([], []), ([], []), ([], []), ([], [])] mixed (by kernel_rfl) ?_
      refine zag rfl rfl (zad (.inl rfl) (ev1 rfl)) ?_
      refine zag rfl rfl (zad (.inl rfl) (ev1 rfl)) ?_
      refine zag rfl rfl (op_ixsr (j := k) rfl sl55 (ev1 rfl) (ev1 rfl) (fun _ => rfl) (by decide) (by omega) (by omega)) ?_
      refine zag rfl rfl (op_ldwd rfl tb26 (ev1 rfl) rfl) ?_
      refine zag rfl rfl (zad (.inl rfl) (ev1 rfl)) ?_
      refine zag rfl rfl (zad (.inl rfl) (ev1 rfl)) ?_
      refine zag rfl rfl (op_ixsr (j := k) rfl sl55 (ev1 rfl) (ev1 rfl) (fun _ => rfl) (by decide) (by omega) (by omega)) ?_
      refine zag rfl rfl (op_ldwd rfl tb26 (ev1 rfl) rfl) ?_
      refine zag rfl rfl (op_ner eq26 rfl gd26 tb26 (ev1 rfl) (ev1 rfl)) ?_
      refine lex_nil ?_
      refine dwp_cond rfl (fun c2 => ?_) (fun c2 => ?_)
      · have c3 : l[k] ≠ r[k] := by simpa using c2
        refine zaf ?_
        refine zac ?_
        refine zab rfl rfl rfl (zad (.inr rfl) (ev1 rfl)) ?_
        refine zae ?_
        refine dwp_ret ?_
        refine kend0 (rs1 rfl (rv_t rfl)) rfl ?_
        have hne : l ≠ r := fun e => by subst e; exact c3 rfl
        rw [decide_eq_false hne]
      · have c3 : l[k] = r[k] := by simpa using c2
        refine zal ?_
        refine zac ?_
        refine zab rfl rfl rfl (op_add' rfl (ev1 rfl) (ev1 rfl) (fun _ => IntWalk.i64_in _ (by omega))) ?_
        refine zab rfl rfl rfl (zad (.inl rfl) (ev1 rfl)) ?_
        refine zae ?_
        refine ⟨k + 1, [], ⟨by omega, by rw [List.take_succ_eq_append_getElem (by omega), List.take_succ_eq_append_getElem (by omega), he, c3]⟩, by simp only []; omega, rfl, ⟨rfl, rfl, rfl, rfl, trivial⟩, trivial⟩
    · try simp only [decide_eq_true_eq, decide_eq_false_iff_not, beq_iff_eq, bne_iff_ne, beq_eq_false_iff_ne, bne_eq_false_iff_eq, Bool.not_eq_true', Bool.not_eq_false', Bool.and_eq_true, Bool.or_eq_true, Bool.or_eq_false_iff, ne_eq, Decidable.not_not, Int.not_lt, Int.not_le] at c2
      refine dwp_exit ?_
      refine zaf ?_
      refine zac ?_
      refine zab rfl rfl rfl (zad (.inr rfl) (ev1 rfl)) ?_
      refine zae ?_
      refine dwp_ret ?_
      refine kend0 (rs1 rfl (rv_t rfl)) rfl ?_
      have e : l = r := by
        have h := he
        rw [List.take_of_length_le (by omega), List.take_of_length_le (by omega)] at h
        exact h
      rw [decide_eq_true e]
set_option maxRecDepth 4000 in
set_option maxHeartbeats 1000000 in
theorem cloneS (l : List Sp) (h : l.length ≤ 1000000) : DFun Tryz.prog 37 [.slf 3 l.length (l.flatMap s3)] [] (.arr 0) [.arr 41 3 l.length (l.flatMap s3)] := by
  refine zan (N := 8) 0 (by kernel_rfl) Tryz.func37 rfl rfl rfl (by simp only [fr0, Nat.zero_add, Nat.reduceAdd]; exact rfl) rfl fun s0 hs0 => ?_
  refine dwp_len (t := 0) rfl fun hl0 hL0 => ?_
  refine zaf ?_
  refine zac ?_
  refine zab rfl rfl rfl (zad (.inr rfl) (ev1 rfl)) ?_
  refine zae ?_
  refine zaf ?_
  refine zaf ?_
  refine zac ?_
  refine zab rfl rfl rfl (zad (.inl rfl) (ev1 rfl)) ?_
  refine walk_nil? rfl rfl rfl rfl sl32 (ev1 rfl) fun nb4 hnb4 => ?_
  refine zae ?_
  refine dwp_cond rfl (fun c1 => ?_) (fun c1 => ?_)
  · try simp only [decide_eq_true_eq, decide_eq_false_iff_not, beq_iff_eq, bne_iff_ne, beq_eq_false_iff_ne, bne_eq_false_iff_eq, Bool.not_eq_true', Bool.not_eq_false', Bool.and_eq_true, Bool.or_eq_true, Bool.or_eq_false_iff, ne_eq, Decidable.not_not, Int.not_lt, Int.not_le] at c1
    refine zaf ?_
    refine zac ?_
    refine zab rfl rfl rfl (zad (.inr rfl) (ev1 rfl)) ?_
    refine zae ?_
    refine dwp_adopt 2 41 3 rfl rfl rfl ?_
    refine dwp_ret ?_
    refine kend [0] (rs1 rfl (rv_t rfl)) rfl rfl ?_ ⟨?_, trivial⟩
    rfl
    exact (by obtain ⟨h1, h2⟩ := hnb4 c1; simp_all [MFits, vwB])
  · try simp only [decide_eq_true_eq, decide_eq_false_iff_not, beq_iff_eq, bne_iff_ne, beq_eq_false_iff_ne, bne_eq_false_iff_eq, Bool.not_eq_true', Bool.not_eq_false', Bool.and_eq_true, Bool.or_eq_true, Bool.or_eq_false_iff, ne_eq, Decidable.not_not, Int.not_lt, Int.not_le] at c1
    refine zal ?_
    refine zaf ?_
    refine zah 2 (by simp only [holes, List.cons_append, List.nil_append]; exact rfl) ?_
    refine zac ?_
    refine zaj rfl rfl rfl (op_bsa (ps := []) 0 rfl sl32 zr41 rfl vn rfl (by decide) (by decide) rfl) (by simp only [upd, zaa, za]; exact rfl) ?_
    refine zab rfl rfl rfl (zad (.inl rfl) (ev1 rfl)) ?_
    refine zaj rfl rfl rfl (op_app (j := 1) rfl sl32 zr41 rfl (ev1 rfl) (ev1 rfl) src_slf rfl rfl (fun _ => flat_oc (fun _ => rfl) l) (fun _ => ⟨by omega, by omega⟩)) (by simp only [upd, zaa, za]; exact rfl) ?_
    refine zab rfl rfl rfl (zad (.inr rfl) (ev1 rfl)) ?_
    refine zae ?_
    refine dwp_ret ?_
    refine kend [1] (rs1 rfl (rv_t rfl)) rfl rfl ?_ ⟨?_, trivial⟩
    rfl
    simp [vwB]
theorem cloneS_f (l : List Sp) (h : l.length ≤ 1000000) : DFun Tryz.prog 37 [.slf 3 l.length (l.flatMap s3)] [] (.slf 3 l.length (l.flatMap s3)) [] := freeze (cloneS l h) rfl
set_option maxRecDepth 4000 in
set_option maxHeartbeats 1000000 in
theorem all_d (l : List Sp) (h : l.length ≤ 1000000) : DFun Tryz.prog 13 [.slf 3 l.length (l.flatMap s3)] [] (.fn (.func 38) [] [.loc 0 0]) [.mix 32 [.slf 3 l.length (l.flatMap s3)]] := by
  refine zan (N := 7) 0 (by kernel_rfl) Tryz.func13 rfl rfl rfl (by simp only [fr0, Nat.zero_add, Nat.reduceAdd]; exact rfl) rfl fun s0 hs0 => ?_
  refine dwp_len (t := 0) rfl fun hl0 hL0 => ?_
  refine zaf ?_
  refine zac ?_
  refine zab rfl rfl rfl (zad (.inr rfl) (ev1 rfl)) ?_
  refine zae ?_
  refine zaf ?_
  refine zah 1 (by simp only [holes, List.cons_append, List.nil_append]; exact rfl) ?_
  refine zac ?_
  refine zab rfl rfl rfl (zad (.inl rfl) (ev1 rfl)) ?_
  refine zab rfl rfl rfl (zai [] [] [] rfl (ev1 rfl) (ec (ev1 rfl) en) rfl rfl (cloneS_f l h) rfl rfl rfl rfl rfl rfl) ?_
  refine zaj rfl rfl rfl (op_alloc 0 rfl zr32 rfl) (by simp only [upd, zaa, za]; exact rfl) ?_
  refine walk_s rfl rfl (op_stfm rfl tb32 (ev1 rfl) (ev1 rfl) (fun s v h => by cases h <;> exact ⟨rfl, rfl⟩) rfl (by decide)) (by simp only [upd, zaa, za]; exact rfl) ?_
  refine zae ?_
  refine zaf ?_
  refine zac ?_
  refine zab rfl rfl rfl (op_mkf rfl en (ec (ev1 rfl) en)) ?_
  refine zab rfl rfl rfl (zad (.inr rfl) (ev1 rfl)) ?_
  refine zae ?_
  refine dwp_ret ?_
  refine kend [0] (rs1 rfl (rv_t rfl)) rfl rfl ?_ ⟨rfl, trivial⟩
  rfl
def ptsL (l : List Sp) : List P2 := if chkS l then ptsS l else []
theorem ptsL_ok {l : List Sp} (h : chkS l) : ptsL l = ptsS l := if_pos h
theorem ptsL_no {l : List Sp} (h : ¬ chkS l) : ptsL l = [] := if_neg h
theorem pts_wd (s : Sp) : s.pts.length = s.wd := by unfold Sp.pts; simp
theorem pts_add {s : Sp} {k : Nat} (hk : k < s.wd) : s.pts.take (k + 1) = s.pts.take k ++ [⟨s.f + (k : Int), s.y⟩] := by
  rw [List.take_succ_eq_append_getElem (by rw [pts_wd]; exact hk)]
  congr 1
  unfold Sp.pts
  simp
theorem ptsS_add {l : List Sp} {i : Nat} (hi : i < l.length) : ptsS (l.take (i + 1)) = ptsS (l.take i) ++ l[i].pts := by
  unfold ptsS
  rw [List.take_succ_eq_append_getElem hi, List.flatMap_append]
  simp
theorem pts_mem2 {l : List Sp} {i k : Nat} (hi : i < l.length) (hk : k < l[i].wd) : (⟨l[i].f + (k : Int), l[i].y⟩ : P2) ∈ ptsS l := by
  refine List.mem_flatMap.2 ⟨l[i], List.getElem_mem hi, List.mem_map.2 ⟨k, List.mem_range.2 hk, rfl⟩⟩
end Go.Proofs.YtfnhckildfbikaaGreat
namespace Go.Proofs.YtfnhckildfbikaaGreat
set_option maxRecDepth 4000
set_option linter.unusedVariables false
set_option linter.unusedSimpArgs false
open Go.RowKit
theorem fieldN_len (w k : Nat) (X Y : Int) : (fieldN w k X Y).length = k := by unfold fieldN; simp
theorem row_set2 {out : List Sp} {p : P2} (h : opnS out p = true) : out.set (out.length - 1) ⟨(lastS out).y, (lastS out).f, p.x⟩ = mergeS out (pt1 p) := by
  obtain ⟨l, a, rfl, h1, h2⟩ := opn_last h
  rw [merge_open ⟨h1, h2⟩, lastS_app]
  simp
end Go.Proofs.YtfnhckildfbikaaGreat
namespace Go.Proofs.YtfnhckildfbikaaGreat
set_option maxRecDepth 4000
set_option linter.unusedVariables false
set_option linter.unusedSimpArgs false
open Go.RowKit
def tsRng (ts : List TL) : Prop := ∀ t ∈ ts, ∀ c ∈ t.l, c.rng
theorem tl_rng {t : TL} (h : ∀ c ∈ t.l, c.rng) (q : Nat) : (t.get q).rng := by
  unfold TL.get
  rw [List.getD_eq_getElem?_getD]
  by_cases hq : q < t.l.length
  · rw [List.getElem?_eq_getElem hq]; exact h _ (List.getElem_mem hq)
  · rw [List.getElem?_eq_none (by omega)]; exact zC4_rng
theorem getC_rng {ts : List TL} (h : tsRng ts) (w x y : Int) : (getC w ts x y).rng := by
  unfold getC
  refine tl_rng (fun c hc => ?_) _
  rw [List.getD_eq_getElem?_getD] at hc
  by_cases hp : plN w x y < ts.length
  · rw [List.getElem?_eq_getElem hp] at hc; exact h _ (List.getElem_mem hp) c hc
  · rw [List.getElem?_eq_none (by omega)] at hc
    have : c ∈ zT.l := hc
    rw [show c = zC4 from List.eq_of_mem_replicate this]
    exact zC4_rng
theorem putC_rng {w h : Int} {ts : List TL} {d : Dt} (ht : tsRng ts) (hd : d.c.rng) : tsRng (putC w h ts d) := by
  unfold putC
  split
  · intro t hm c hc
    obtain ⟨i, hi, rfl⟩ := List.getElem_of_mem hm
    by_cases e : plN w d.x d.y = i
    · subst e
      rw [List.getElem_set_self] at hc
      unfold TL.set at hc
      rcases List.mem_or_eq_of_mem_set hc with hc | rfl
      · rw [List.length_set] at hi
        rw [tl_at hi] at hc
        exact ht _ (List.getElem_mem hi) c hc
      · exact hd
    · rw [List.getElem_set_ne e] at hc
      exact ht _ (List.getElem_mem _) c hc
  · exact ht
theorem putsC_rng {w h : Int} : ∀ (l : List Dt) {ts : List TL}, tsRng ts → (∀ d ∈ l, d.c.rng) → tsRng (putsC w h ts l)
  | [], _, ht, _ => ht
  | d :: l, _, ht, hd => by
    rw [putsC, List.foldl_cons]
    exact putsC_rng l (putC_rng ht (hd d (by simp))) fun e he => hd e (List.mem_cons_of_mem _ he)
end Go.Proofs.YtfnhckildfbikaaGreat
namespace Go.Proofs.YtfnhckildfbikaaGreat
set_option maxRecDepth 4000
set_option linter.unusedVariables false
set_option linter.unusedSimpArgs false
open Go.RowKit
theorem aw134 : arW Tryz.prog 134 = some 4 := by kernel_rfl
theorem kn3 : knd Tryz.prog 3 = some .i64 := by kernel_rfl
theorem ty5 : (tyB Tryz.prog 5).isSome = true := by kernel_rfl
def farC (a b : C4) : Int := (max a.r b.r - min a.r b.r) + (max a.g b.g - min a.g b.g) + (max a.b b.b - min a.b b.b) + (max a.a b.a - min a.a b.a)
def nearC (tol : Int) (a b : C4) : Bool := decide (farC a b ≤ tol)
theorem farC_self (a : C4) : farC a a = 0 := by unfold farC; omega
theorem Wk.any (d : D) : Wk d .junk := fun _ v _ => .junk v
def prt (u : C4) : Nat → Int
  | 0 => u.r
  | 1 => u.g
  | 2 => u.b
  | _ => u.a
def psum (u o : C4) : Nat → Int
  | 0 => 0
  | i + 1 => psum u o i + (max (prt u i) (prt o i) - min (prt u i) (prt o i))
theorem psum_succ (u o : C4) (i : Nat) : psum u o (i + 1) = psum u o i + (max (prt u i) (prt o i) - min (prt u i) (prt o i)) := rfl
theorem psum_four (u o : C4) : psum u o 4 = farC u o := by
  show 0 + (max u.r o.r - min u.r o.r) + (max u.g o.g - min u.g o.g) + (max u.b o.b - min u.b o.b) + (max u.a o.a - min u.a o.a) = _
  unfold farC
  omega
theorem psum_nn (u o : C4) : ∀ i, 0 ≤ psum u o i ∧ psum u o i ≤ psum u o (i + 1)
  | 0 => by rw [psum_succ]; show 0 ≤ (0 : Int) ∧ (0 : Int) ≤ 0 + _; omega
  | i + 1 => by
    have := psum_nn u o i
    rw [psum_succ u o (i + 1)]
    omega
theorem prt_rng {u : C4} (h : u.rng) (i : Nat) : 0 ≤ prt u i ∧ prt u i ≤ 255 := by
  obtain ⟨h1, h2, h3, h4⟩ := h
  unfold prt
  split <;> assumption
theorem c4_prt (u : C4) {i : Nat} (h : i < 4) : (c4 u)[i]? = some (.int .u8 (prt u i)) := by
  match i, h with
  | 0, _ => rfl
  | 1, _ => rfl
  | 2, _ => rfl
  | 3, _ => rfl
theorem c4_prtD (u : C4) {i : Nat} (h : i < 4) : ((c4 u).map D.val)[i]? = some (.val (.int .u8 (prt u i))) := by rw [List.getElem?_map, c4_prt u h]; rfl
theorem psum_bd {u o : C4} (hu : u.rng) (ho : o.rng) : ∀ i : Nat, psum u o i ≤ 255 * (i : Int)
  | 0 => by show (0 : Int) ≤ _; omega
  | i + 1 => by
    have h1 := psum_bd hu ho i
    have h2 := prt_rng hu i
    have h3 := prt_rng ho i
    rw [psum_succ]
    omega
def fupS (u o : C4) (tol : Int) : Int := if tol < psum u o 1 then psum u o 1 else if tol < psum u o 2 then psum u o 2 else if tol < psum u o 3 then psum u o 3 else psum u o 4
theorem psum_mono (u o : C4) : ∀ (i j : Nat), psum u o i ≤ psum u o (i + j)
  | i, 0 => Int.le_refl _
  | i, j + 1 => Int.le_trans (psum_mono u o i j) (psum_nn u o (i + j)).2
theorem fup_at {u o : C4} {tol : Int} {i : Nat} (hi : i < 4) (h1 : psum u o i ≤ tol) (h2 : tol < psum u o (i + 1)) : fupS u o tol = psum u o (i + 1) := by
  unfold fupS
  have m1 := psum_mono u o 1
  have m2 := psum_mono u o 2
  match i, hi with
  | 0, _ => rw [if_pos h2]
  | 1, _ => rw [if_neg (by omega), if_pos h2]
  | 2, _ => have := m1 1; rw [if_neg (by simp only [Nat.reduceAdd] at this; omega), if_neg (by omega), if_pos h2]
  | 3, _ =>
    have a1 := m1 2
    have a2 := m2 1
    simp only [Nat.reduceAdd] at a1 a2
    rw [if_neg (by omega), if_neg (by omega), if_neg (by omega)]
theorem fup_end {u o : C4} {tol : Int} (h : psum u o 4 ≤ tol) : fupS u o tol = psum u o 4 := by
  unfold fupS
  have a1 := psum_mono u o 1 3
  have a2 := psum_mono u o 2 2
  have a3 := psum_mono u o 3 1
  simp only [Nat.reduceAdd] at a1 a2 a3
  rw [if_neg (by omega), if_neg (by omega), if_neg (by omega)]
theorem fup_near (u o : C4) (tol : Int) : decide (fupS u o tol ≤ tol) = nearC tol u o := by
  unfold nearC
  rw [← psum_four, Bool.eq_iff_iff, decide_eq_true_eq, decide_eq_true_eq]
  have a1 := psum_mono u o 1 3
  have a2 := psum_mono u o 2 2
  have a3 := psum_mono u o 3 1
  simp only [Nat.reduceAdd] at a1 a2 a3
  unfold fupS
  split
  · omega
  · split
    · omega
    · split <;> omega
theorem near_self {tol : Int} (h : 0 ≤ tol) (u : C4) : nearC tol u u = true := by unfold nearC; rw [farC_self]; simpa using h
set_option maxRecDepth 4000 in
set_option maxHeartbeats 1000000 in
theorem ptold_d (u : C4) : DFun Tryz.prog 75 [.val (.agg #[.int .u8 u.r, .int .u8 u.g, .int .u8 u.b, .int .u8 u.a])] [] (.fn (.func 92) [] [.loc 0 0]) [.flat 134 (c4 u)] := by
  refine zan (N := 4) 0 (by kernel_rfl) Tryz.func75 rfl rfl rfl (by simp only [fr0, Nat.zero_add, Nat.reduceAdd]; exact rfl) rfl fun s0 hs0 => ?_
  refine zaf ?_
  refine zah 1 (by simp only [holes, List.cons_append, List.nil_append]; exact rfl) ?_
  refine zac ?_
  refine zaj rfl rfl rfl (op_boxa 0 rfl (ev1 rfl) rfl) (by simp only [upd, zaa, za]; exact rfl) ?_
  refine zab rfl rfl rfl (zad (.inr rfl) (ev1 rfl)) ?_
  refine zae ?_
  refine zaf ?_
  refine zac ?_
  refine zab rfl rfl rfl (op_mkf rfl en (ec (ev1 rfl) en)) ?_
  refine zab rfl rfl rfl (zad (.inr rfl) (ev1 rfl)) ?_
  refine zae ?_
  refine dwp_ret ?_
  refine kend [0] (rs1 rfl (rv_t rfl)) rfl rfl ?_ ⟨rfl, trivial⟩
  rfl
noncomputable def fupA : Code := rfA (pth [1, 0, 1, 1, 1, 1, 0, 1, 0] (bodyOf Tryz.f43))
noncomputable def fupB : Code := rfB (pth [1, 0, 1, 1, 1, 1, 0, 1, 0] (bodyOf Tryz.f43))
set_option maxRecDepth 4000 in
set_option maxHeartbeats 1000000 in
theorem fupRound_y (u o : C4) (hu : u.rng) (ho : o.rng) (tol : Int) (ht : 0 ≤ tol) (i : Nat) (hi : i < 4) (hs :  psum u o (i + 1) ≤ tol) : DRound Tryz.prog 0 [.val (.int .i64 (i : Int)), .val (.int .u8 (prt u i))] [.lp 48 [(5, .loc 1 0), (8, .loc 2 0), (9, .loc 3 0)] #[22, 23] fupA fupB .ready none, .flat 3 [.int .i64 tol], .flat 3 [.int .i64 (psum u o i)], .flat 134 (c4 o)] true [.lp 48 [(5, .loc 1 0), (8, .loc 2 0), (9, .loc 3 0)] #[22, 23] fupA fupB .ready none, .flat 3 [.int .i64 tol], .flat 3 [.int .i64 (psum u o (i + 1))], .flat 134 (c4 o)] := by
  have h1 := prt_rng hu i
  have h2 := prt_rng ho i
  have h3 := psum_nn u o i
  have h4 := psum_bd hu ho i
  rw [psum_succ] at hs
  refine dround_go 4 rfl rfl (by simp) rfl rfl fun s0 hs0 => ?_
  refine zaf ?_
  refine zac ?_
  refine zab rfl rfl rfl (zad (.inr rfl) (ev1 rfl)) ?_
  refine zae ?_
  refine zac ?_
  refine zab rfl rfl rfl (zad (.inr rfl) (ev1 rfl)) ?_
  refine zae ?_
  refine ⟨rfl, ?_⟩
  simp only [zaa, za]
  refine zak ?_
  refine zaf ?_
  refine dwp_draw [([2], []), ([], []), ([], []), ([], []), ([], []), ([3], []), ([], []), ([], []), ([], []), ([], []), ([], []), ([], []), ([3], []), ([], []), ([], []), ([], []), ([], []), ([2], [2])] mixed (by kernel_rfl) ?_
  refine zag rfl rfl (op_ldo rfl tb3 (ev1 rfl) rfl rfl) ?_
  refine zag rfl rfl (zad (.inl rfl) (ev1 rfl)) ?_
  refine zag rfl rfl (op_conv' ty5 kn3 rfl (ev1 rfl) (fun _ => IntWalk.i64_in _ (by omega))) ?_
  refine zag rfl rfl (zad (.inl rfl) (ev1 rfl)) ?_
  refine zag rfl rfl (op_ixl rfl ar134 (ev1 rfl) (ev1 rfl) (fun _ => by omega)) ?_
  refine zag rfl rfl (op_ldo rfl tb5 (ev1 rfl) rfl (by simpa using c4_prt o hi)) ?_
  refine zag rfl rfl (op_conv' ty5 kn3 rfl (ev1 rfl) (fun _ => IntWalk.i64_in _ (by omega))) ?_
  refine zag rfl rfl (op_max rfl (ev1 rfl) (ev1 rfl)) ?_
  refine zag rfl rfl (zad (.inl rfl) (ev1 rfl)) ?_
  refine zag rfl rfl (op_conv' ty5 kn3 rfl (ev1 rfl) (fun _ => IntWalk.i64_in _ (by omega))) ?_
  refine zag rfl rfl (zad (.inl rfl) (ev1 rfl)) ?_
  refine zag rfl rfl (op_ixl rfl ar134 (ev1 rfl) (ev1 rfl) (fun _ => by omega)) ?_
  refine zag rfl rfl (op_ldo rfl tb5 (ev1 rfl) rfl (by simpa using c4_prt o hi)) ?_
  refine zag rfl rfl (op_conv' ty5 kn3 rfl (ev1 rfl) (fun _ => IntWalk.i64_in _ (by omega))) ?_
  refine zag rfl rfl (op_min rfl (ev1 rfl) (ev1 rfl)) ?_
  refine zag rfl rfl (op_sub' rfl (ev1 rfl) (ev1 rfl) (fun _ => IntWalk.i64_in _ (by omega))) ?_
  refine zag rfl rfl (op_add' rfl (ev1 rfl) (ev1 rfl) (fun _ => IntWalk.i64_in _ (by omega))) ?_
  refine lex_s rfl rfl (op_stwi rfl tb3 (ev1 rfl) (ev1 rfl) rfl) rfl (by simp only [upd, zaa, za]; exact rfl) ?_
  refine lex_nil ?_
  refine zaf ?_
  refine zac ?_
  refine zab rfl rfl rfl (op_ldo rfl tb3 (ev1 rfl) rfl rfl) ?_
  refine zab rfl rfl rfl (op_ldo rfl tb3 (ev1 rfl) rfl rfl) ?_
  refine zab rfl rfl rfl (op_gtr rfl (ev1 rfl) (ev1 rfl)) ?_
  refine zae ?_
  refine dwp_if_f rfl (by simpa using hs) ?_
  refine zal ?_
  refine ⟨by first | rfl | assumption | simp_all, rfl, [0, 1, 2, 3], rfl, ⟨rfl, rfl, rfl, rfl, trivial⟩⟩
set_option maxRecDepth 4000 in
set_option maxHeartbeats 1000000 in
theorem fupRound_n (u o : C4) (hu : u.rng) (ho : o.rng) (tol : Int) (ht : 0 ≤ tol) (i : Nat) (hi : i < 4) (hs : ¬ psum u o (i + 1) ≤ tol) : DRound Tryz.prog 0 [.val (.int .i64 (i : Int)), .val (.int .u8 (prt u i))] [.lp 48 [(5, .loc 1 0), (8, .loc 2 0), (9, .loc 3 0)] #[22, 23] fupA fupB .ready none, .flat 3 [.int .i64 tol], .flat 3 [.int .i64 (psum u o i)], .flat 134 (c4 o)] false [.lp 48 [(5, .loc 1 0), (8, .loc 2 0), (9, .loc 3 0)] #[22, 23] fupA fupB .done (some (.exit 0)), .flat 3 [.int .i64 tol], .flat 3 [.int .i64 (psum u o (i + 1))], .flat 134 (c4 o)] := by
  have h1 := prt_rng hu i
  have h2 := prt_rng ho i
  have h3 := psum_nn u o i
  have h4 := psum_bd hu ho i
  rw [psum_succ] at hs
  refine dround_go 4 rfl rfl (by simp) rfl rfl fun s0 hs0 => ?_
  refine zaf ?_
  refine zac ?_
  refine zab rfl rfl rfl (zad (.inr rfl) (ev1 rfl)) ?_
  refine zae ?_
  refine zac ?_
  refine zab rfl rfl rfl (zad (.inr rfl) (ev1 rfl)) ?_
  refine zae ?_
  refine ⟨rfl, ?_⟩
  simp only [zaa, za]
  refine zak ?_
  refine zaf ?_
  refine dwp_draw [([2], []), ([], []), ([], []), ([], []), ([], []), ([3], []), ([], []), ([], []), ([], []), ([], []), ([], []), ([], []), ([3], []), ([], []), ([], []), ([], []), ([], []), ([2], [2])] mixed (by kernel_rfl) ?_
  refine zag rfl rfl (op_ldo rfl tb3 (ev1 rfl) rfl rfl) ?_
  refine zag rfl rfl (zad (.inl rfl) (ev1 rfl)) ?_
  refine zag rfl rfl (op_conv' ty5 kn3 rfl (ev1 rfl) (fun _ => IntWalk.i64_in _ (by omega))) ?_
  refine zag rfl rfl (zad (.inl rfl) (ev1 rfl)) ?_
  refine zag rfl rfl (op_ixl rfl ar134 (ev1 rfl) (ev1 rfl) (fun _ => by omega)) ?_
  refine zag rfl rfl (op_ldo rfl tb5 (ev1 rfl) rfl (by simpa using c4_prt o hi)) ?_
  refine zag rfl rfl (op_conv' ty5 kn3 rfl (ev1 rfl) (fun _ => IntWalk.i64_in _ (by omega))) ?_
  refine zag rfl rfl (op_max rfl (ev1 rfl) (ev1 rfl)) ?_
  refine zag rfl rfl (zad (.inl rfl) (ev1 rfl)) ?_
  refine zag rfl rfl (op_conv' ty5 kn3 rfl (ev1 rfl) (fun _ => IntWalk.i64_in _ (by omega))) ?_
  refine zag rfl rfl (zad (.inl rfl) (ev1 rfl)) ?_
  refine zag rfl rfl (op_ixl rfl ar134 (ev1 rfl) (ev1 rfl) (fun _ => by omega)) ?_
  refine zag rfl rfl (op_ldo rfl tb5 (ev1 rfl) rfl (by simpa using c4_prt o hi)) ?_
  refine zag rfl rfl (op_conv' ty5 kn3 rfl (ev1 rfl) (fun _ => IntWalk.i64_in _ (by omega))) ?_
  refine zag rfl rfl (op_min rfl (ev1 rfl) (ev1 rfl)) ?_
  refine zag rfl rfl (op_sub' rfl (ev1 rfl) (ev1 rfl) (fun _ => IntWalk.i64_in _ (by omega))) ?_
  refine zag rfl rfl (op_add' rfl (ev1 rfl) (ev1 rfl) (fun _ => IntWalk.i64_in _ (by omega))) ?_
  refine lex_s rfl rfl (op_stwi rfl tb3 (ev1 rfl) (ev1 rfl) rfl) rfl (by simp only [upd, zaa, za]; exact rfl) ?_
  refine lex_nil ?_
  refine zaf ?_
  refine zac ?_
  refine zab rfl rfl rfl (op_ldo rfl tb3 (ev1 rfl) rfl rfl) ?_
  refine zab rfl rfl rfl (op_ldo rfl tb3 (ev1 rfl) rfl rfl) ?_
  refine zab rfl rfl rfl (op_gtr rfl (ev1 rfl) (ev1 rfl)) ?_
  refine zae ?_
  refine dwp_if_t rfl (by simpa using hs) ?_
  refine dwp_exit ?_
  refine ⟨by first | rfl | assumption | simp_all, rfl, [0, 1, 2, 3], rfl, ⟨rfl, rfl, rfl, rfl, trivial⟩⟩
theorem fupRound (u o : C4) (hu : u.rng) (ho : o.rng) (tol : Int) (ht : 0 ≤ tol) (i : Nat) (hi : i < 4) : DRound Tryz.prog 0 [.val (.int .i64 (i : Int)), .val (.int .u8 (prt u i))] [.lp 48 [(5, .loc 1 0), (8, .loc 2 0), (9, .loc 3 0)] #[22, 23] fupA fupB .ready none, .flat 3 [.int .i64 tol], .flat 3 [.int .i64 (psum u o i)], .flat 134 (c4 o)] (decide (psum u o (i + 1) ≤ tol)) [.lp 48 [(5, .loc 1 0), (8, .loc 2 0), (9, .loc 3 0)] #[22, 23] fupA fupB (rst (decide (psum u o (i + 1) ≤ tol))) (rpe (.exit 0) (decide (psum u o (i + 1) ≤ tol))), .flat 3 [.int .i64 tol], .flat 3 [.int .i64 (psum u o (i + 1))], .flat 134 (c4 o)] := by
  by_cases h : psum u o (i + 1) ≤ tol
  · rw [decide_eq_true h]; exact fupRound_y u o hu ho tol ht i hi h
  · rw [decide_eq_false h]; exact fupRound_n u o hu ho tol ht i hi h
set_option maxRecDepth 4000 in
set_option maxHeartbeats 1000000 in
theorem ptolds_d (u o : C4) (hu : u.rng) (ho : o.rng) (tol : Int) (ht : 0 ≤ tol) : DFun Tryz.prog 92 [.yld 0, .loc 4 0] [.lp 48 [(5, .loc 1 0), (8, .loc 2 0), (9, .loc 3 0)] #[22, 23] fupA fupB .ready none, .flat 3 [.int .i64 tol], .flat 3 [.int .i64 0], .flat 134 (c4 o), .flat 134 (c4 u)] (.tup []) [.lp 48 [(5, .loc 1 0), (8, .loc 2 0), (9, .loc 3 0)] #[22, 23] fupA fupB (rst (nearC tol u o)) (rpe (.exit 0) (nearC tol u o)), .flat 3 [.int .i64 tol], .flat 3 [.int .i64 (fupS u o tol)], .flat 134 (c4 o), .flat 134 (c4 u)] := by
  refine zan (N := 16) 5 (by kernel_rfl) Tryz.func92 rfl rfl rfl (by simp only [fr0, Nat.zero_add, Nat.reduceAdd]; exact rfl) rfl fun s0 hs0 => ?_
  refine zaf ?_
  refine zac ?_
  refine zab rfl rfl rfl ((op_ldw rfl tb134 (ev1 rfl) rfl rfl).wk (Wk.vagg _)) ?_
  refine zab rfl rfl rfl (zad (.inl rfl) (ev1 rfl)) ?_
  refine zae ?_
  refine zak ?_
  refine dwp_loopS ⟨hs0, rfl⟩ (α := Nat) (fun i => [(6, .val (.int .i64 (i : Int)))]) [(0, _), (5, _)] (fun i => [(2, .flat 3 [.int .i64 (psum u o i)])]) [_, _, .hole, _, _] (fun i => i ≤ 4 ∧ psum u o i ≤ tol) (fun i => 4 - i) 0 [0, 1, 2, 3, 4] (⟨by omega, ht⟩) rfl ⟨rfl, rfl, trivial⟩ ⟨rfl, trivial⟩ ⟨rfl, rfl, rfl, rfl, rfl, trivial⟩ ?_
  intro i hx
  simp only [upd, zaa, za, List.cons_append, List.nil_append]
  obtain ⟨hi0, hle⟩ := hx
  refine zaf ?_
  refine zac ?_
  refine zab rfl rfl rfl (op_lss rfl (ev1 rfl) (ev1 rfl)) ?_
  refine zae ?_
  refine zaf ?_
  refine dwp_cond rfl (fun c1 => ?_) (fun c1 => ?_)
  · try simp only [decide_eq_true_eq, decide_eq_false_iff_not, beq_iff_eq, bne_iff_ne, beq_eq_false_iff_ne, bne_eq_false_iff_eq, Bool.not_eq_true', Bool.not_eq_false', Bool.and_eq_true, Bool.or_eq_true, Bool.or_eq_false_iff, ne_eq, Decidable.not_not, Int.not_lt, Int.not_le] at c1
    refine zal ?_
    refine zaf ?_
    refine zak ?_
    refine zaf ?_
    have hi : i < 4 := by omega
    refine zac ?_
    refine zab rfl rfl rfl (zad (.inl rfl) (ev1 rfl)) ?_
    refine zab rfl rfl rfl (op_ixw (i) rfl aw134 (ev1 rfl) (ev1 rfl) (fun _ => by omega) ((by omega)) ((c4_prtD u hi))) ?_
    refine zab rfl rfl rfl (zad (.inr rfl) (ev1 rfl)) ?_
    refine zab rfl rfl rfl (zad (.inr rfl) (ev1 rfl)) ?_
    refine zae ?_
    refine zaf ?_
    refine zac ?_
    refine zab rfl rfl rfl (zad (.inl rfl) (ev1 rfl)) ?_
    refine zab rfl rfl rfl (zad (.inl rfl) (ev1 rfl)) ?_
    refine zab rfl rfl rfl (zad (.inl rfl) (ev1 rfl)) ?_
    refine zaj rfl rfl rfl (op_y (i := 0) [0, 1, 2, 3] [] [] rfl (ev1 rfl) (ec (ev1 rfl) (ec (ev1 rfl) en)) rfl rfl rfl (fupRound u o hu ho tol ht i hi) rfl rfl rfl rfl rfl) (by simp only [upd, zaa, za]; exact rfl) ?_
    refine zab rfl rfl rfl (op_not rfl (ev1 rfl)) ?_
    refine zae ?_
    refine dwp_cond rfl (fun c3 => ?_) (fun c3 => ?_)
    · have e1 : decide (psum u o (i + 1) ≤ tol) = false := by simpa using c3
      refine dwp_ret ?_
      have e3 : tol < psum u o (i + 1) := by simpa using e1
      have e4 := fup_at hi hle e3
      have e2 : nearC tol u o = false := by rw [← fup_near, e4]; exact e1
      rw [e2, e1, e4]
      refine kend [0, 1, 2, 3, 4] (res_none rfl) rfl rfl ?_ ⟨rfl, rfl, rfl, rfl, rfl, trivial⟩
      rfl
    · have e1 : decide (psum u o (i + 1) ≤ tol) = true := by simpa using c3
      refine zal ?_
      refine zac ?_
      refine zab rfl rfl rfl (op_add' rfl (ev1 rfl) (ev1 rfl) (fun _ => IntWalk.i64_in _ (by omega))) ?_
      refine zab rfl rfl rfl (zad (.inl rfl) (ev1 rfl)) ?_
      refine zae ?_
      rw [e1]
      refine ⟨i + 1, [0, 1, 2, 3, 4], ⟨by omega, by simpa using e1⟩, by simp only []; omega, rfl, ⟨rfl, rfl, rfl, trivial⟩, ⟨rfl, rfl, rfl, rfl, rfl, trivial⟩⟩
  · try simp only [decide_eq_true_eq, decide_eq_false_iff_not, beq_iff_eq, bne_iff_ne, beq_eq_false_iff_ne, bne_eq_false_iff_eq, Bool.not_eq_true', Bool.not_eq_false', Bool.and_eq_true, Bool.or_eq_true, Bool.or_eq_false_iff, ne_eq, Decidable.not_not, Int.not_lt, Int.not_le] at c1
    refine dwp_exit ?_
    obtain rfl : i = 4 := by omega
    have e4 := fup_end hle
    have e2 : nearC tol u o = true := by rw [← fup_near, e4]; simpa using hle
    rw [e2, e4]
    refine kend [0, 1, 2, 3, 4] (res_none rfl) rfl rfl ?_ ⟨rfl, rfl, rfl, rfl, rfl, trivial⟩
    rfl
set_option maxRecDepth 4000 in
set_option maxHeartbeats 1000000 in
theorem fup_d (u o : C4) (hu : u.rng) (ho : o.rng) (tol : Int) (ht : 0 ≤ tol) : DFun Tryz.prog 43 [.val (.agg (c4 u).toArray), .val (.agg (c4 o).toArray), .val (.int .i64 tol)] [] (.tup [.val (.int .i64 (if u = o then 0 else fupS u o tol)), .val (.bool (nearC tol u o))]) [] := by
  refine zan (N := 48) 0 (by kernel_rfl) Tryz.func43 rfl rfl rfl (by simp only [fr0, Nat.zero_add, Nat.reduceAdd]; exact rfl) rfl fun s0 hs0 => ?_
  refine zaf ?_
  refine zah 3 (by simp only [holes, List.cons_append, List.nil_append]; exact rfl) ?_
  refine zac ?_
  refine zaj rfl rfl rfl (op_boxa 0 rfl (ev1 rfl) rfl) (by simp only [upd, zaa, za]; exact rfl) ?_
  refine zaj rfl rfl rfl (op_boxa 1 rfl (ev1 rfl) rfl) (by simp only [upd, zaa, za]; exact rfl) ?_
  refine zaj rfl rfl rfl (op_boxi 2 rfl (ev1 rfl) rfl) (by simp only [upd, zaa, za]; exact rfl) ?_
  refine zab rfl rfl rfl (zad (.inr rfl) (ev1 rfl)) ?_
  refine zab rfl rfl rfl (zad (.inr rfl) (ev1 rfl)) ?_
  refine zae ?_
  refine dwp_scope ?_
  refine zaf ?_
  refine zaf ?_
  refine zac ?_
  refine zab rfl rfl rfl (op_ldw rfl tb44 (ev1 rfl) rfl rfl) ?_
  refine zab rfl rfl rfl (op_ldw rfl tb44 (ev1 rfl) rfl rfl) ?_
  refine zab rfl rfl rfl (op_eqr eq44 rfl gd44 tb44 (ev1 rfl) (ev1 rfl)) ?_
  refine zae ?_
  refine dwp_cond rfl (fun c1 => ?_) (fun c1 => ?_)
  · have e0 : u = o := by simpa using c1
    refine zaf ?_
    refine dwp_draw [([2], []), ([], []), ([], []), ([], [])] mixed (by kernel_rfl) ?_
    refine zag rfl rfl (op_ldo rfl tb3 (ev1 rfl) rfl rfl) ?_
    refine zag rfl rfl (op_geq rfl (ev1 rfl) (ev1 rfl)) ?_
    refine zag rfl rfl (zad (.inr rfl) (ev1 rfl)) ?_
    refine zag rfl rfl (zad (.inr rfl) (ev1 rfl)) ?_
    refine lex_nil ?_
    refine dwp_ret ?_
    refine kend0 (rs2 rfl (rv_t rfl) (rv_t rfl)) rfl ?_
    subst e0
    rw [if_pos rfl, near_self ht]
    simp [ht]
  · have e0 : ¬ u = o := by simpa using c1
    refine zal ?_
    refine zaf ?_
    refine zah 1 (by simp only [holes, List.cons_append, List.nil_append]; exact rfl) ?_
    refine zac ?_
    refine zaj rfl rfl rfl (op_alloc 3 rfl zr3 rfl) (by simp only [upd, zaa, za]; exact rfl) ?_
    refine walk_s rfl rfl (op_stwi rfl tb3 (ev1 rfl) (ev1 rfl) rfl) (by simp only [upd, zaa, za]; exact rfl) ?_
    refine zae ?_
    refine zaf ?_
    refine zah 1 (by simp only [holes, List.cons_append, List.nil_append]; exact rfl) ?_
    refine zac ?_
    refine zab rfl rfl rfl (op_ldw rfl tb44 (ev1 rfl) rfl rfl) ?_
    refine zab rfl rfl rfl (zai [] [] [] rfl (ev1 rfl) (ec (ev1 rfl) en) rfl rfl (partsOf_d o) rfl rfl rfl rfl rfl rfl) ?_
    refine zaj rfl rfl rfl (op_alloc 4 rfl zr134 rfl) (by simp only [upd, zaa, za]; exact rfl) ?_
    refine walk_s rfl rfl (op_stwa rfl tb134 (ev1 rfl) (ev1 rfl) rfl rfl rfl rfl) (by simp only [upd, zaa, za]; exact rfl) ?_
    refine zae ?_
    refine zaf ?_
    refine dwp_label ?_
    refine zaf ?_
    refine zaf ?_
    refine zah 1 (by simp only [holes, List.cons_append, List.nil_append]; exact rfl) ?_
    refine zac ?_
    refine zab rfl rfl rfl (op_ldw rfl tb44 (ev1 rfl) rfl rfl) ?_
    refine zab rfl rfl rfl (zai [] [] [] rfl (ev1 rfl) (ec (ev1 rfl) en) rfl rfl (partsOf_d u) rfl rfl rfl rfl rfl rfl) ?_
    refine zaj rfl rfl rfl (zai [] [] [5] rfl (ev1 rfl) (ec (ev1 rfl) en) rfl rfl (ptold_d u) rfl rfl rfl rfl rfl rfl) (by simp only [upd, zaa, za]; exact rfl) ?_
    refine zae ?_
    refine zak ?_
    refine dwp_hole ?_
    simp only [List.cons_append, List.nil_append]
    refine dwp_rf (FL := [(5, _), (8, _), (9, _)]) (st := (rst (nearC tol u o))) (pe := (rpe (.exit 0) (nearC tol u o))) [6, 2, 3, 4, 5] [] [] 6 rfl rfl (ev1 rfl) rfl (subF_lk ⟨rfl, rfl, rfl, trivial⟩) rfl rfl rfl (ptolds_d u o hu ho tol ht) rfl rfl rfl rfl rfl rfl rfl (rst_busy _) (fun e => ?_) (fun c e => ?_)
    · simp only [upd, zaa, za]
      refine zaf ?_
      refine dwp_draw [([3], []), ([3], []), ([2], []), ([], []), ([], []), ([], [])] mixed (by kernel_rfl) ?_
      refine zag rfl rfl (op_ldo rfl tb3 (ev1 rfl) rfl rfl) ?_
      refine zag rfl rfl (op_ldo rfl tb3 (ev1 rfl) rfl rfl) ?_
      refine zag rfl rfl (op_ldo rfl tb3 (ev1 rfl) rfl rfl) ?_
      refine zag rfl rfl (op_leq rfl (ev1 rfl) (ev1 rfl)) ?_
      refine zag rfl rfl (zad (.inr rfl) (ev1 rfl)) ?_
      refine zag rfl rfl (zad (.inr rfl) (ev1 rfl)) ?_
      refine lex_nil ?_
      refine dwp_ret ?_
      refine kend0 (rs2 rfl (rv_t rfl) (rv_t rfl)) rfl ?_
      rw [if_neg e0, fup_near]
    · obtain ⟨e1, rfl⟩ : nearC tol u o = false ∧ c = .exit 0 := by
        cases h : nearC tol u o <;> simp_all [rpe]
      simp only [upd, zaa, za]
      refine dwp_exit ?_
      refine zaf ?_
      refine dwp_draw [([3], []), ([3], []), ([2], []), ([], []), ([], []), ([], [])] mixed (by kernel_rfl) ?_
      refine zag rfl rfl (op_ldo rfl tb3 (ev1 rfl) rfl rfl) ?_
      refine zag rfl rfl (op_ldo rfl tb3 (ev1 rfl) rfl rfl) ?_
      refine zag rfl rfl (op_ldo rfl tb3 (ev1 rfl) rfl rfl) ?_
      refine zag rfl rfl (op_leq rfl (ev1 rfl) (ev1 rfl)) ?_
      refine zag rfl rfl (zad (.inr rfl) (ev1 rfl)) ?_
      refine zag rfl rfl (zad (.inr rfl) (ev1 rfl)) ?_
      refine lex_nil ?_
      refine dwp_ret ?_
      refine kend0 (rs2 rfl (rv_t rfl) (rv_t rfl)) rfl ?_
      rw [if_neg e0, fup_near]
set_option maxRecDepth 4000 in
set_option maxHeartbeats 1000000 in
theorem near_d (u o : C4) (hu : u.rng) (ho : o.rng) (tol : Int) (ht : 0 ≤ tol) : DFun Tryz.prog 17 [.val (.agg (c4 u).toArray), .val (.agg (c4 o).toArray), .val (.int .i64 tol)] [] (.val (.bool (nearC tol u o))) [] := by
  refine zan (N := 17) 0 (by kernel_rfl) Tryz.func17 rfl rfl rfl (by simp only [fr0, Nat.zero_add, Nat.reduceAdd]; exact rfl) rfl fun s0 hs0 => ?_
  refine zaf ?_
  refine zah 2 (by simp only [holes, List.cons_append, List.nil_append]; exact rfl) ?_
  refine zac ?_
  refine zaj rfl rfl rfl (op_boxa 0 rfl (ev1 rfl) rfl) (by simp only [upd, zaa, za]; exact rfl) ?_
  refine zaj rfl rfl rfl (op_boxa 1 rfl (ev1 rfl) rfl) (by simp only [upd, zaa, za]; exact rfl) ?_
  refine zab rfl rfl rfl (zad (.inr rfl) (ev1 rfl)) ?_
  refine zae ?_
  refine zaf ?_
  refine zac ?_
  refine zab rfl rfl rfl (op_ldw rfl tb44 (ev1 rfl) rfl rfl) ?_
  refine zab rfl rfl rfl (op_ldw rfl tb44 (ev1 rfl) rfl rfl) ?_
  refine zab rfl rfl rfl (zad (.inl rfl) (ev1 rfl)) ?_
  refine zab rfl rfl rfl (zai [] [] [] rfl (ev1 rfl) (ec (ev1 rfl) (ec (ev1 rfl) (ec (ev1 rfl) en))) rfl rfl (fup_d u o hu ho tol ht) rfl rfl rfl rfl rfl rfl) ?_
  refine zab rfl rfl rfl (zad (.inl rfl) (ev1 rfl)) ?_
  refine zab rfl rfl rfl (op_ext rfl (ev1 rfl) rfl) ?_
  refine zab rfl rfl rfl (op_ext rfl (ev1 rfl) rfl) ?_
  refine zab rfl rfl rfl (zad (.inr rfl) (ev1 rfl)) ?_
  refine zab rfl rfl rfl (zad (.inr rfl) (ev1 rfl)) ?_
  refine zae ?_
  refine zaf ?_
  refine zac ?_
  refine zab rfl rfl rfl (zad (.inl rfl) (ev1 rfl)) ?_
  refine zab rfl rfl rfl (zad (.inr rfl) (ev1 rfl)) ?_
  refine zae ?_
  refine dwp_ret ?_
  refine kend0 (rs1 rfl (rv_t rfl)) rfl ?_
  rfl
end Go.Proofs.YtfnhckildfbikaaGreat
namespace Go.Proofs.YtfnhckildfbikaaGreat
set_option linter.unusedVariables false
set_option linter.unusedSimpArgs false
open Go.RowKit
section
variable {P : Program} {pc : Bool} {o : Oper} {F : Fr} {M : List Blk}
/-- a row of a family whose front may have been cut off, appended to: what comes is a new member -/
theorem op_appFu {T e : TypeId} {sz by' n m f j1 j2 k t t2 : Nat} {Bs : List Mem} {L L2 Z : List Value} (ho : o.op = .call { callee := .builtin .append, args := #[.tmp t, .tmp t2], argTypes := #[T, T] }) (ht : (t == t2) = false) (hT : slE P T = some (e, sz, by')) (hZ : zrC P e = some Z) (hZl : Z.length = sz)
    (hx : Ev pc F (.tmp t) (.farr f k)) (hy : Ev pc F (.tmp t2) (.slf sz m L2)) (hM : M[f]? = some (.fam Bs)) (hB : Bs[k]? = some (.que e sz n L)) (hj1 : M[j1]? = some .hole) (hj2 : M[j2]? = some .hole) (hne : (j1 == j2) = false) (hm0 : 0 < m) (h1 : pc = true → L2.all (·.oneCell') = true) (hbd : pc = true → (n + m) * by' ≤ 140737488355328 ∧ n + m ≤ 140737488355328) :
    DOp P pc o F M [f, j1, j2] (.farr f Bs.length) [(f, .fam (Bs.set k .gone ++ [.que e sz (n + m) (L ++ L2)])), (j1, .gone), (j2, .gone)] := by
  intro hp a s hok hops hfp
  have ht : t ≠ t2 := by simpa using ht
  have hne : j1 ≠ j2 := by simpa using hne
  have hmem : o.op.operands = #[.tmp t, .tmp t2] := by rw [ho]; rfl
  have rx := ev_at hp hx (by rw [hmem]; simp) hops
  have ry := ev_at hp hy (by rw [hmem]; simp) hops
  have hM' : s.M[f]? = some (.fam Bs) := by rw [hfp f (by simp)]; exact hM
  have g1 : s.M[j1]? = some .hole := by rw [hfp j1 (by simp)]; exact hj1
  have g2 : s.M[j2]? = some .hole := by rw [hfp j2 (by simp)]; exact hj2
  have hf1 : f ≠ j1 := fun e => by subst e; rw [hM'] at g1; cases g1
  have hf2 : f ≠ j2 := fun e => by subst e; rw [hM'] at g2; cases g2
  have hfl := (List.getElem?_eq_some_iff.1 hM').1
  have hl1 := (List.getElem?_eq_some_iff.1 g1).1
  have hl2 := (List.getElem?_eq_some_iff.1 g2).1
  generalize hvx : a.eval (.tmp t) = vx at rx
  cases rx with
  | @farr _ _ ad n' c hs q1 q2 =>
    have tt := tr_rel (B := .que e sz n L) hok hM' g1 hB rfl q1 q2
    obtain ⟨s1, e1⟩ : ∃ s1 : St, s1 = ⟨s.β.set j1 (.slice ad n' c), s.I, (s.M.set f (.fam (Bs.set k .gone))).set j1 (.que e sz n L), s.w⟩ := ⟨_, rfl⟩
    have tt : Tr s s1 := by rw [e1]; exact tt
    have hM1 : s1.M = (s.M.set f (.fam (Bs.set k .gone))).set j1 (.que e sz n L) := by rw [e1]
    have hw1 : s1.w = s.w := by rw [e1]
    have hβ1 : s1.β[j1]? = some (.slice ad n' c) := by rw [e1]; show (s.β.set j1 _)[j1]? = _; rw [List.getElem?_set_self (by rw [hok.len]; exact hl1)]
    have m1 : s1.M[j1]? = some (.que e sz n L) := by rw [hM1, List.getElem?_set_self (by simpa using hl1)]
    have m2 : s1.M[j2]? = some .hole := by rw [hM1, List.getElem?_set_ne hne, List.getElem?_set_ne hf2]; exact g2
    have m3 : s1.M[f]? = some (.fam (Bs.set k .gone)) := by rw [hM1, List.getElem?_set_ne (Ne.symm hf1), List.getElem?_set_self hfl]
    have ra : Rep s1 (.arr j1) (a.eval (.tmp t)) := by rw [hvx]; exact .arr hβ1
    have hl : ∀ x ∈ o.op.operands, ∀ d, ev [(t, D.arr j1), (t2, .slf sz m L2)] x = some d → Rep s1 d (a.eval x) := by
      intro x hx' d hd
      rw [hmem] at hx'
      simp at hx'
      rcases hx' with rfl | rfl
      · simp only [ev, lk, Nat.beq_refl, cond_true] at hd
        cases hd
        exact ra
      · have hb : Nat.beq t t2 = false := by
          cases hbb : Nat.beq t t2
          · rfl
          · exact absurd (Nat.eq_of_beq_eq_true hbb) ht
        simp only [ev, lk, hb, Nat.beq_refl, cond_true, cond_false] at hd
        cases hd
        exact ry.mono hok tt
    have hb : Nat.beq t t2 = false := by
      cases hbb : Nat.beq t t2
      · rfl
      · exact absurd (Nat.eq_of_beq_eq_true hbb) ht
    have hD := op_appu (P := P) (pc := true) (F := [(t, D.arr j1), (t2, .slf sz m L2)]) (M := s1.M) (i := j1) (j := j2) (d := .slf sz m L2) (fp := []) ho hT hZ hZl (ev1 (by simp only [ev, lk, Nat.beq_refl, cond_true])) (ev1 (by simp only [ev, lk, hb, Nat.beq_refl, cond_true, cond_false])) src_slf m1 m2 (fun _ => h1 hp) (fun _ => hbd hp) hm0 rfl a s1 tt.ok hl (fun _ _ => rfl)
    rw [hw1] at hD
    refine (DGives.of_tr tt hw1 hD).map fun s' v ho' ⟨u1, u2⟩ => ?_
    have hs'M : s'.M = (s1.M.set j1 .gone).set j2 (.que e sz (n + m) (L ++ L2)) := u1
    have k2 : s'.M[j2]? = some (.que e sz (n + m) (L ++ L2)) := by rw [hs'M, List.getElem?_set_self (by rw [List.length_set, hM1]; simpa using hl2)]
    have k3 : s'.M[f]? = some (.fam (Bs.set k .gone)) := by rw [hs'M, List.getElem?_set_ne (Ne.symm hf2), List.getElem?_set_ne (Ne.symm hf1)]; exact m3
    have hlen' := ho'.len
    have kf := (List.getElem?_eq_some_iff.1 k3).1
    have kj := (List.getElem?_eq_some_iff.1 k2).1
    obtain ⟨x, hx2⟩ : ∃ x, s'.β[f]? = some x := ⟨_, List.getElem?_eq_getElem (by omega)⟩
    obtain ⟨y, hy2⟩ : ∃ y, s'.β[j2]? = some y := ⟨_, List.getElem?_eq_getElem (by omega)⟩
    obtain ⟨hs2, rfl, hfo⟩ := ho'.blk f _ x k3 hx2
    have t3 := tr_abs (B := .que e sz (n + m) (L ++ L2)) ho' k3 k2 rfl hx2 hy2
    refine ⟨⟨s'.β.set f (.tuple (hs2 ++ [y]).toArray), s'.I, (s'.M.set j2 .gone).set f (.fam (Bs.set k .gone ++ [.que e sz (n + m) (L ++ L2)])), s'.w⟩, rfl, t3, ?_, ?_⟩
    · show (s'.M.set j2 .gone).set f _ = ((s.M.set f _).set j1 .gone).set j2 .gone
      rw [hs'M, hM1]
      apply List.ext_getElem?
      intro i
      simp only [List.getElem?_set, List.length_set]
      by_cases a1 : f = i
      · subst a1
        simp [hf1.symm, hf2.symm, hfl]
      · by_cases a2 : j1 = i
        · subst a2
          simp [a1, hne.symm, hl1]
        · by_cases a3 : j2 = i
          · subst a3
            simp [a1, a2, hl2]
          · simp [a1, a2, a3]
    · cases u2 with
      | @arr _ ad' n'' c' hβ =>
        rw [hy2] at hβ
        obtain rfl := Option.some.inj hβ
        refine .farr (hs := hs2 ++ [.slice ad' n'' c']) (by show (s'.β.set f _)[f]? = _; rw [List.getElem?_set_self (by omega)]) ?_
        have : hs2.length = Bs.length := by rw [hfo.len]; simp
        rw [List.getElem?_append_right (by omega), show Bs.length - hs2.length = 0 by omega]
        rfl
theorem op_lenFu {T T' : TypeId} {x : Operand} {q : TypeId × Nat × Nat} {i k sz n : Nat} {Bs : List Mem} {L : List Value} (ho : o.op = .call { callee := .builtin .len, args := #[x], argTypes := #[T] }) (hT : slE P T = some q) (hx : Ev pc F x (.farr i k)) (hM : M[i]? = some (.fam Bs)) (hB : Bs[k]? = some (.que T' sz n L)) : DOp P pc o F M [i] (.val (.int .i64 n)) [] := by
  intro hp a s hok hops hfp
  obtain ⟨e1, _⟩ := slE_spec hT
  have hr := ev_at hp hx (by simp [ho, Op.operands, Call.operands]) hops
  generalize hv : a.eval x = vx at hr
  cases hr with
  | farr h hkk =>
    have hM' : s.M[i]? = some (.fam Bs) := by rw [hfp i (by simp)]; exact hM
    have hk : queRow s.w T' sz _ n L := (fam_at (k := k) hok hM' h).ok k _ _ hB hkk
    refine dg_val hok (run_builtin ho (fun cs => rfl) ?_) (.val (.int .i64 n))
    rcases hk.2 with ⟨e2, e3⟩ | ⟨g, q, c, p, cap, cur, e2, _⟩
    · cases e2; simp [Builtin.len_, hv, run_underlying e1, goInt, e3]
    · cases e2; simp [Builtin.len_, hv, run_underlying e1, goInt]
end
def nv (n : Nat) : D := .val (.int .i64 (n : Int))
def srL (c : D) (ns : List Nat) (q : D) : List D := c :: (ns.map nv ++ [q])
theorem srL_len (c : D) (ns : List Nat) (q : D) : (srL c ns q).length = ns.length + 2 := by simp [srL]
theorem srL_0 {c q : D} {ns : List Nat} {p : Nat} (hp : p = 0) : (srL c ns q)[p]? = some c := by subst hp; rfl
theorem srL_at {c q : D} {ns : List Nat} {k p : Nat} (hp : p = k + 1) (h : k < ns.length) : (srL c ns q)[p]? = some (.val (.int .i64 ((ns.getD k 0 : Nat) : Int))) := by
  subst hp
  rw [srL, List.getElem?_cons_succ, List.getElem?_append_left (by simpa using h), List.getElem?_map, List.getElem?_eq_getElem h, List.getD_eq_getElem?_getD, List.getElem?_eq_getElem h]
  rfl
theorem srL_q {c q : D} {ns : List Nat} {p : Nat} (hp : p = ns.length + 1) : (srL c ns q)[p]? = some q := by
  subst hp
  rw [srL, List.getElem?_cons_succ, List.getElem?_append_right (by simp)]
  simp
theorem srL_set {c q : D} {ns : List Nat} {k p n : Nat} (hp : p = k + 1) (h : k < ns.length) : (srL c ns q).set p (.val (.int .i64 (n : Int))) = srL c (ns.set k n) q := by
  subst hp
  rw [srL, srL, za, List.set_append_left _ _ (by simpa using h), List.map_set]
  rfl
theorem srL_setq {c q q' : D} {ns : List Nat} {p : Nat} (hp : p = ns.length + 1) : (srL c ns q).set p q' = srL c ns q' := by
  subst hp
  rw [srL, srL, za, List.set_append_right _ _ (by simp)]
  simp
theorem vwL_nv {σ : List Nat} {V : Nat → Bool} {M : List Blk} {q q' : D} (hq : vw σ V M q = some q') : ∀ ns : List Nat, vwL σ V M (ns.map nv ++ [q]) = some (ns.map nv ++ [q'])
  | [] => by show vwL σ V M [q] = _; unfold vwL; rw [hq]; rfl
  | n :: ns => by
    rw [List.map_cons, List.cons_append]
    unfold vwL
    rw [vwL_nv hq ns]
    show (match vw σ V M (.val _), some _ with | some d', some l' => some (d' :: l') | _, _ => none) = _
    unfold vw
    rfl
theorem sbL_nv {τ : List Nat} {q q' : D} (hq : sb τ q = some q') : ∀ ns : List Nat, sbL τ (ns.map nv ++ [q]) = some (ns.map nv ++ [q'])
  | [] => by show sbL τ [q] = _; unfold sbL; rw [hq]; rfl
  | n :: ns => by
    rw [List.map_cons, List.cons_append]
    unfold sbL
    rw [sbL_nv hq ns]
    show (match sb τ (.val _), some _ with | some d', some l' => some (d' :: l') | _, _ => none) = _
    unfold sb
    rfl
theorem zam {σ : List Nat} {V : Nat → Bool} {M : List Blk} {T : TypeId} {c c' q q' : D} {ns ns' : List Nat} (hn : ns = ns') (hc : vw σ V M c = some c') (hq : vw σ V M q = some q') : (vwL σ V M (srL c ns q)).map (Blk.mix T) = some (Blk.mix T (srL c' ns' q')) := by
  subst hn
  rw [srL, vwL, hc, vwL_nv hq]
  rfl
theorem sb_srx {τ : List Nat} {T : TypeId} {c c' q q' : D} {ns : List Nat} (hc : sb τ c = some c') (hq : sb τ q = some q') : sbB τ (.mix T (srL c ns q)) = some (.mix T (srL c' ns q')) := by
  show (sbL τ _).map _ = _
  rw [srL, sbL, hc, sbL_nv hq]
  rfl
section
variable {P : Program} {s0 : St} {n : Cx}
/-- a member of a family that a cell names: a row of one's own again -/
theorem inv_relS {F : Fr} {M : List Blk} {a : Act} {w : World} {i f k sz m : Nat} {T e : TypeId} {c : D} {ns : List Nat} {L : List Value} {Bs : List Mem} (h : Inv s0 n F M a w) (hi : M[i]? = some (.mix T (srL c ns (.farr f k)))) (hf : M[f]? = some (.fam Bs)) (hB : Bs[k]? = some (.que e sz m L)) :
    Inv s0 n F (((M ++ [Blk.hole]).set f (.fam (Bs.set k .gone))).set M.length (.que e sz m L) |>.set i (.mix T (srL c ns (.arr M.length)))) a w := by
  obtain ⟨h0, s, rfl, rfl, h3, h4, h5, h6⟩ := h
  have t1 := step_hole h3.ok
  have hlen := h3.ok.len
  have hil := (List.getElem?_eq_some_iff.1 hi).1
  have hfl := (List.getElem?_eq_some_iff.1 hf).1
  have hif : f ≠ i := fun e => by subst e; rw [hi] at hf; cases hf
  obtain ⟨x, hx⟩ : ∃ x, s.β[i]? = some x := ⟨_, List.getElem?_eq_getElem (by omega)⟩
  obtain ⟨y, hy⟩ : ∃ y, s.β[f]? = some y := ⟨_, List.getElem?_eq_getElem (by omega)⟩
  obtain ⟨b, vs, rfl, hb, hl, hr⟩ := h3.ok.blk i _ _ hi hx
  obtain ⟨hs, rfl, hfo⟩ := h3.ok.blk f _ _ hf hy
  obtain ⟨u, hu⟩ : ∃ u, hs[k]? = some u := ⟨_, List.getElem?_eq_getElem (by rw [hfo.len]; exact (List.getElem?_eq_some_iff.1 hB).1)⟩
  have hql : ns.length + 1 < (srL c ns (.farr f k)).length := by rw [srL_len]; omega
  obtain ⟨v, hv⟩ : ∃ v, vs[ns.length + 1]? = some v := ⟨_, List.getElem?_eq_getElem (by rw [hl]; exact hql)⟩
  have hvu : v = u := by
    have := hr _ _ v (srL_q rfl) hv
    cases this with
    | farr q1 q2 =>
      rw [hy] at q1
      simp at q1
      subst q1
      rw [hu] at q2
      exact (Option.some.inj q2).symm
  have hβf1 : (s.β ++ [Value.nilFunc])[f]? = some (.tuple hs.toArray) := by rw [List.getElem?_append_left (by omega)]; exact hy
  have hβi1 : (s.β ++ [Value.nilFunc])[i]? = some (.pointer (some ⟨b, 0, none⟩)) := by rw [List.getElem?_append_left (by omega)]; exact hx
  have hMf1 : (s.M ++ [Blk.hole])[f]? = some (.fam Bs) := by rw [List.getElem?_append_left hfl]; exact hf
  have t2 := tr_rel (s := ⟨s.β ++ [Value.nilFunc], s.I, s.M ++ [Blk.hole], s.w⟩) t1.ok (j := s.M.length) (B := .que e sz m L) hMf1 (by simp) hB rfl hβf1 hu
  have tt := t1.trans t2
  have hMi : (((s.M ++ [Blk.hole]).set f (.fam (Bs.set k .gone))).set s.M.length (Mem.que e sz m L).blk)[i]? = some (.mix T (srL c ns (.farr f k))) := by
    rw [List.getElem?_set_ne (by omega), List.getElem?_set_ne hif, List.getElem?_append_left hil]; exact hi
  have t3 := tr_cell (s := ⟨(s.β ++ [Value.nilFunc]).set s.M.length u, s.I, ((s.M ++ [Blk.hole]).set f (.fam (Bs.set k .gone))).set s.M.length (Mem.que e sz m L).blk, s.w⟩) tt.ok (d' := .arr s.M.length) hMi hql fun b2 vs2 v2 e1 e2 e3 => by
    have e1 : ((s.β ++ [Value.nilFunc]).set s.M.length u)[i]? = some (.pointer (some ⟨b2, 0, none⟩)) := e1
    rw [List.getElem?_set_ne (by omega), hβi1] at e1
    cases e1
    have e4 : some (Obj.cells vs.toArray T (0, 0)) = some (Obj.cells vs2.toArray T (0, 0)) := hb.symm.trans e2
    simp at e4
    subst e4
    rw [hv] at e3
    obtain rfl := Option.some.inj e3
    subst hvu
    have hk : queRow s.w e sz v m L := hfo.ok k _ _ hB hu
    have hβn : ((s.β ++ [Value.nilFunc]).set s.M.length v)[s.M.length]? = some v := by rw [List.getElem?_set_self (by simp [hlen])]
    rcases hk.2 with ⟨q, _⟩ | ⟨_, _, _, _, _, _, q, _⟩
    · subst q; exact .arr hβn
    · subst q; exact .arr hβn
  rw [srL_setq rfl] at t3
  have ttt := tt.trans t3
  exact ⟨h0, ⟨_, _, _, _⟩, rfl, rfl, h3.trans ttt, fun x d hd => (h4 x d hd).mono h3.ok ttt, h5, h6.mono h3.ok ttt⟩
theorem dwp_relS {co : Code} {F : Fr} {M M' : List Blk} {K : Cont} {f k sz m j : Nat} {T e : TypeId} {c : D} {ns : List Nat} {L : List Value} {Bs Bs' : List Mem} (i : Nat) (hi : M[i]? = some (.mix T (srL c ns (.farr f k)))) (hf : M[f]? = some (.fam Bs)) (hB : Bs[k]? = some (.que e sz m L)) (hj : M.length = j) (hBs : Bs.set k .gone = Bs')
    (hM : (((M ++ [Blk.hole]).set f (.fam Bs')).set j (.que e sz m L) |>.set i (.mix T (srL c ns (.arr j)))) = M') (h : dwp P s0 n co F M' K) : dwp P s0 n co F M K := by
  subst hj hBs hM
  exact fun a w hv => h a w (inv_relS hv hi hf hB)
/-- a row of one's own that a cell names joins a family -/
theorem inv_absS {F : Fr} {M : List Blk} {a : Act} {w : World} {i f j sz m : Nat} {T e : TypeId} {c : D} {ns : List Nat} {L : List Value} {Bs : List Mem} (h : Inv s0 n F M a w) (hi : M[i]? = some (.mix T (srL c ns (.arr j)))) (hf : M[f]? = some (.fam Bs)) (hj : M[j]? = some (.que e sz m L)) :
    Inv s0 n F (((M.set j .gone).set f (.fam (Bs ++ [.que e sz m L]))).set i (.mix T (srL c ns (.farr f Bs.length)))) a w := by
  obtain ⟨h0, s, rfl, rfl, h3, h4, h5, h6⟩ := h
  have hlen := h3.ok.len
  have hil := (List.getElem?_eq_some_iff.1 hi).1
  have hfl := (List.getElem?_eq_some_iff.1 hf).1
  have hjl := (List.getElem?_eq_some_iff.1 hj).1
  have hif : f ≠ i := fun e => by subst e; rw [hi] at hf; cases hf
  have hij : j ≠ i := fun e => by subst e; rw [hi] at hj; cases hj
  obtain ⟨x, hx⟩ : ∃ x, s.β[i]? = some x := ⟨_, List.getElem?_eq_getElem (by omega)⟩
  obtain ⟨y, hy⟩ : ∃ y, s.β[f]? = some y := ⟨_, List.getElem?_eq_getElem (by omega)⟩
  obtain ⟨u, hu⟩ : ∃ u, s.β[j]? = some u := ⟨_, List.getElem?_eq_getElem (by omega)⟩
  obtain ⟨b, vs, rfl, hb, hl, hr⟩ := h3.ok.blk i _ _ hi hx
  obtain ⟨hs, rfl, hfo⟩ := h3.ok.blk f _ _ hf hy
  have hql : ns.length + 1 < (srL c ns (.arr j)).length := by rw [srL_len]; omega
  obtain ⟨v, hv⟩ : ∃ v, vs[ns.length + 1]? = some v := ⟨_, List.getElem?_eq_getElem (by rw [hl]; exact hql)⟩
  have hvu : v = u ∧ ∃ a n c, v = .slice a n c := by
    have := hr _ _ v (srL_q rfl) hv
    cases this with
    | arr q1 =>
      rw [hu] at q1
      exact ⟨(Option.some.inj q1).symm, _, _, _, rfl⟩
  have t2 := tr_abs (B := .que e sz m L) h3.ok hf hj rfl hy hu
  have hMi : ((s.M.set j .gone).set f (.fam (Bs ++ [.que e sz m L])))[i]? = some (.mix T (srL c ns (.arr j))) := by
    rw [List.getElem?_set_ne hif, List.getElem?_set_ne hij]; exact hi
  have t3 := tr_cell (s := ⟨s.β.set f (.tuple (hs ++ [u]).toArray), s.I, (s.M.set j .gone).set f (.fam (Bs ++ [.que e sz m L])), s.w⟩) t2.ok (d' := .farr f Bs.length) hMi hql fun b2 vs2 v2 e1 e2 e3 => by
    have e1 : (s.β.set f (.tuple (hs ++ [u]).toArray))[i]? = some (.pointer (some ⟨b2, 0, none⟩)) := e1
    rw [List.getElem?_set_ne hif, hx] at e1
    cases e1
    have e4 : some (Obj.cells vs.toArray T (0, 0)) = some (Obj.cells vs2.toArray T (0, 0)) := hb.symm.trans e2
    simp at e4
    subst e4
    rw [hv] at e3
    obtain rfl := Option.some.inj e3
    obtain ⟨rfl, a0, n0, c0, rfl⟩ := hvu
    exact .farr (hs := hs ++ [.slice a0 n0 c0]) (by show (s.β.set f _)[f]? = _; rw [List.getElem?_set_self (by omega)]) (by rw [← hfo.len, List.getElem?_append_right (Nat.le_refl _)]; simp)
  rw [srL_setq rfl] at t3
  have ttt := t2.trans t3
  exact ⟨h0, ⟨_, _, _, _⟩, rfl, rfl, h3.trans ttt, fun x d hd => (h4 x d hd).mono h3.ok ttt, h5, h6.mono h3.ok ttt⟩
theorem dwp_absS {co : Code} {F : Fr} {M M' : List Blk} {K : Cont} {f j sz m q : Nat} {T e : TypeId} {c : D} {ns : List Nat} {L : List Value} {Bs Bs' : List Mem} (i : Nat) (hi : M[i]? = some (.mix T (srL c ns (.arr j)))) (hj : M[j]? = some (.que e sz m L)) (hf : M[f]? = some (.fam Bs)) (hq : Bs.length = q) (hBs : Bs ++ [.que e sz m L] = Bs')
    (hM : (((M.set j .gone).set f (.fam Bs')).set i (.mix T (srL c ns (.farr f q)))) = M') (h : dwp P s0 n co F M' K) : dwp P s0 n co F M K := by
  subst hq hBs hM
  exact fun a w hv => h a w (inv_absS hv hi hf hj)
theorem dwp_eqB {co : Code} {F : Fr} {M M' : List Blk} {K : Cont} {k k' : Blk} (i : Nat) (h : k = k') (hi : M[i]? = some k) (hM : M.set i k' = M') (hw : dwp P s0 n co F M' K) : dwp P s0 n co F M K := by
  subst h hM
  obtain ⟨hl, he⟩ := List.getElem?_eq_some_iff.1 hi
  rw [← he, List.set_getElem_self] at hw
  exact hw
theorem dwp_openS {co : Code} {F : Fr} {M : List Blk} {K : Cont} {T e : TypeId} {c : D} {ns : List Nat} {sz m k j : Nat} {L : List Value} (i : Nat) (hi : M[i]? = some (.mix T (srL c ns (.arr k)))) (hk : M[k]? = some (.que e sz m L)) (hj : M.length = j)
    (h : ∀ (p r : Nat) (G : List Value), G.length = p * sz → dwp P s0 n co F (((M.set k .gone) ++ [Blk.arr e sz (p + m) (G ++ L)]).set i (.mix T (srL c ns (.part j sz p m r)))) K) : dwp P s0 n co F M K := by
  subst hj
  refine dwp_openu i (ns.length + 1) hi (srL_q rfl) hk fun p r G hG => ?_
  rw [srL_setq rfl]
  exact h p r G hG
theorem dwp_closeS {co : Code} {F : Fr} {M M' : List Blk} {K : Cont} {T e : TypeId} {c : D} {ns : List Nat} {sz m k p r N j : Nat} {L L' : List Value} (i : Nat) (hi : M[i]? = some (.mix T (srL c ns (.part k sz p m r)))) (hk : M[k]? = some (.arr e sz N L)) (hL : L.drop (p * sz) = L') (hj : M.length = j) (hM : ((M.set k .gone) ++ [Blk.que e sz m L']).set i (.mix T (srL c ns (.arr j))) = M')
    (h : dwp P s0 n co F M' K) : dwp P s0 n co F M K :=
  dwp_closeu i (ns.length + 1) hi (srL_q rfl) hk hL hj (srL_setq rfl) hM h
theorem dwp_adoptS {co : Code} {F : Fr} {M M' : List Blk} {K : Cont} {T : TypeId} {c : D} {ns : List Nat} (i : Nat) (e : TypeId) (sz : Nat) {m : Nat} (hi : M[i]? = some (.mix T (srL c ns (.val (.slice none 0 0))))) (hm : M.length = m) (hM : (M ++ [Blk.que e sz 0 []]).set i (.mix T (srL c ns (.arr m))) = M') (h : dwp P s0 n co F M' K) : dwp P s0 n co F M K :=
  dwp_adoptu i (ns.length + 1) e sz hi (srL_q rfl) hm (srL_setq rfl) hM h
end
end Go.Proofs.YtfnhckildfbikaaGreat
namespace Go.Proofs.YtfnhckildfbikaaGreat
set_option maxRecDepth 4000
set_option linter.unusedVariables false
set_option linter.unusedSimpArgs false
open Go.RowKit
structure FD where
  l : List Nat
  h : l.length = 1024
theorem FD.ext {f g : FD} (h : f.l = g.l) : f = g := by cases f; cases g; cases h; rfl
def zFD : FD := ⟨List.replicate 1024 0, List.length_replicate⟩
def ixF (p : P2) : Nat := (p.y * 32 + p.x).toNat
def FD.at (f : FD) (p : P2) : Nat := f.l.getD (ixF p) 0
def FD.put (f : FD) (p : P2) (v : Nat) : FD := ⟨f.l.set (ixF p) v, by rw [List.length_set, f.h]⟩
def inF32 (p : P2) : Prop := (0 ≤ p.x ∧ p.x < 32) ∧ 0 ≤ p.y ∧ p.y < 32
theorem ixF_lt {p : P2} (h : inF32 p) : ixF p < 1024 := by unfold inF32 at h; unfold ixF; omega
theorem ixF_inj {p q : P2} (hp : inF32 p) (hq : inF32 q) (h : ixF p = ixF q) : p = q := by
  unfold inF32 at hp hq
  unfold ixF at h
  obtain ⟨x, y⟩ := p
  obtain ⟨x', y'⟩ := q
  simp only [P2.mk.injEq] at *
  omega
theorem FD.put_at {f : FD} {p q : P2} {v : Nat} (hp : inF32 p) (hq : inF32 q) : (f.put p v).at q = if q = p then v else f.at q := by
  unfold FD.at FD.put
  have hl := ixF_lt hp
  simp only [List.getD_eq_getElem?_getD]
  by_cases e : q = p
  · subst e
    rw [if_pos rfl, List.getElem?_set_self (by rw [f.h]; exact hl)]; rfl
  · rw [if_neg e, List.getElem?_set_ne fun h => e (ixF_inj hp hq h).symm]
theorem zFD_at (p : P2) : zFD.at p = 0 := by
  unfold FD.at zFD
  simp only [List.getD_eq_getElem?_getD, List.getElem?_replicate]
  split <;> rfl
def adjL (p : P2) : List P2 := [⟨p.x - 1, p.y⟩, ⟨p.x + 1, p.y⟩, ⟨p.x, p.y - 1⟩, ⟨p.x, p.y + 1⟩]
theorem adj_iff {p q : P2} : q ∈ adjL p ↔ (q.y = p.y ∧ (q.x = p.x - 1 ∨ q.x = p.x + 1)) ∨ q.x = p.x ∧ (q.y = p.y - 1 ∨ q.y = p.y + 1) := by
  obtain ⟨x, y⟩ := q
  simp only [adjL, List.mem_cons, List.not_mem_nil, or_false, P2.mk.injEq]
  omega
theorem adj_nodup (p : P2) : (adjL p).Nodup := by
  simp only [adjL, List.nodup_cons, List.mem_cons, List.not_mem_nil, or_false, P2.mk.injEq, not_or, List.nodup_nil, and_true, not_false_eq_true]
  omega
def nbL (On : P2 → Bool) (p : P2) : List P2 := (adjL p).filter On
theorem nb_iff {On : P2 → Bool} {p q : P2} : q ∈ nbL On p ↔ q ∈ adjL p ∧ On q = true := List.mem_filter
theorem nb_nodup (On : P2 → Bool) (p : P2) : (nbL On p).Nodup := (adj_nodup p).sublist List.filter_sublist
def visF (near : P2 → Bool) (v : Nat) (s : FD × List P2) (q : P2) : FD × List P2 := if s.1.at q = 0 ∧ near q = true then (s.1.put q v, s.2 ++ [q]) else s
def goF (On near : P2 → Bool) (f : FD) (p : P2) : FD × List P2 := (nbL On p).foldl (visF near (f.at p + 1)) (f, [])
def bfsF (On near : P2 → Bool) : Nat → FD → List P2 → FD
  | 0, f, _ => f
  | _ + 1, f, [] => f
  | k + 1, f, p :: r => bfsF On near k (goF On near f p).1 (r ++ (goF On near f p).2)
def zrF (f : FD) : Nat := f.l.countP (· == 0)
theorem zrF_le (f : FD) : zrF f ≤ 1024 := by have := List.countP_le_length (p := (· == 0)) (l := f.l); rw [f.h] at this; exact this
theorem countP_set {l : List Nat} {i v : Nat} (hi : i < l.length) (h0 : l[i] = 0) (hv : 0 < v) : (l.set i v).countP (· == 0) + 1 = l.countP (· == 0) := by
  have e1 : l = l.take i ++ l[i] :: l.drop (i + 1) := by rw [← List.drop_eq_getElem_cons hi, List.take_append_drop]
  have e2 : l.set i v = l.take i ++ v :: l.drop (i + 1) := by rw [List.set_eq_take_append_cons_drop, if_pos hi]
  rw [e2]
  conv => rhs; rw [e1]
  rw [List.countP_append, List.countP_append, List.countP_cons, List.countP_cons, h0]
  have : ¬ (v == 0) = true := by simp; omega
  simp [this]
  omega
theorem zrF_put {f : FD} {p : P2} {v : Nat} (hp : inF32 p) (h : f.at p = 0) (hv : 0 < v) : zrF (f.put p v) + 1 = zrF f := by
  have hl := ixF_lt hp
  have hi : ixF p < f.l.length := by rw [f.h]; exact hl
  refine countP_set hi ?_ hv
  unfold FD.at at h
  rw [List.getD_eq_getElem?_getD, List.getElem?_eq_getElem hi] at h
  exact h
section
variable {On near : P2 → Bool} (hOn : ∀ p, On p = true → inF32 p)
include hOn
theorem vis_all : ∀ (L : List P2) (v : Nat) (f : FD) (o : List P2), L.Nodup → (∀ q ∈ L, On q = true) → 0 < v →
    (∀ n, On n = true → (L.foldl (visF near v) (f, o)).1.at n = if n ∈ L ∧ f.at n = 0 ∧ near n = true then v else f.at n) ∧
    (L.foldl (visF near v) (f, o)).2 = o ++ L.filter (fun n => decide (f.at n = 0) && near n) ∧ zrF (L.foldl (visF near v) (f, o)).1 + (L.filter (fun n => decide (f.at n = 0) && near n)).length = zrF f
  | [], v, f, o, _, _, _ => ⟨fun n _ => by simp, by simp, by simp⟩
  | q :: L, v, f, o, hn, ho, hv => by
    obtain ⟨hq, hn⟩ := List.nodup_cons.1 hn
    have hoq := ho q (List.mem_cons_self ..)
    rw [List.foldl_cons]
    by_cases hc : f.at q = 0 ∧ near q = true
    · have e : visF near v (f, o) q = (f.put q v, o ++ [q]) := if_pos hc
      rw [e]
      obtain ⟨h1, h2, h3⟩ := vis_all L v (f.put q v) (o ++ [q]) hn (fun x hx => ho x (List.mem_cons_of_mem _ hx)) hv
      have hsame : ∀ x ∈ L, (f.put q v).at x = f.at x := fun x hx => by
        rw [FD.put_at (hOn _ hoq) (hOn _ (ho x (List.mem_cons_of_mem _ hx))), if_neg (fun e : x = q => hq (e ▸ hx))]
      have hf : L.filter (fun n => decide ((f.put q v).at n = 0) && near n) = L.filter (fun n => decide (f.at n = 0) && near n) := List.filter_congr fun x hx => by rw [hsame x hx]
      rw [hf] at h2 h3
      have hfq : (q :: L).filter (fun n => decide (f.at n = 0) && near n) = q :: L.filter (fun n => decide (f.at n = 0) && near n) := by rw [List.filter_cons_of_pos]; simp [hc]
      have hz := zrF_put (hOn _ hoq) hc.1 hv
      refine ⟨fun n hon => ?_, ?_, ?_⟩
      · rw [h1 n hon]
        by_cases hnq : n = q
        · subst hnq
          have e1 : (f.put n v).at n = v := by rw [FD.put_at (hOn _ hon) (hOn _ hon), if_pos rfl]
          rw [if_neg (by rw [e1]; omega), e1, if_pos ⟨List.mem_cons_self .., hc⟩]
        · rw [FD.put_at (hOn _ hoq) (hOn _ hon), if_neg hnq]
          simp [hnq]
      · rw [h2, hfq]; simp
      · rw [hfq, List.length_cons]; omega
    · have e : visF near v (f, o) q = (f, o) := if_neg hc
      rw [e]
      obtain ⟨h1, h2, h3⟩ := vis_all L v f o hn (fun x hx => ho x (List.mem_cons_of_mem _ hx)) hv
      have hfq : (q :: L).filter (fun n => decide (f.at n = 0) && near n) = L.filter (fun n => decide (f.at n = 0) && near n) := by rw [List.filter_cons_of_neg]; simpa using hc
      refine ⟨fun n hon => ?_, by rw [h2, hfq], by rw [hfq]; exact h3⟩
      rw [h1 n hon]
      by_cases hnq : n = q
      · subst hnq
        rw [if_neg fun h => hq h.1, if_neg fun h => hc h.2]
      · simp [hnq]
theorem goF_at {f : FD} {p n : P2} (hn : On n = true) : (goF On near f p).1.at n = if n ∈ nbL On p ∧ f.at n = 0 ∧ near n = true then f.at p + 1 else f.at n :=
  (vis_all hOn (nbL On p) (f.at p + 1) f [] (nb_nodup On p) (fun q hq => (nb_iff.1 hq).2) (by omega)).1 n hn
theorem goF_new (f : FD) (p : P2) : (goF On near f p).2 = (nbL On p).filter (fun n => decide (f.at n = 0) && near n) := by
  have := (vis_all (near := near) hOn (nbL On p) (f.at p + 1) f [] (nb_nodup On p) (fun q hq => (nb_iff.1 hq).2) (by omega)).2.1
  rw [List.nil_append] at this
  exact this
theorem goF_zr (f : FD) (p : P2) : zrF (goF On near f p).1 + (goF On near f p).2.length = zrF f := by
  rw [goF_new hOn]
  exact (vis_all hOn (nbL On p) (f.at p + 1) f [] (nb_nodup On p) (fun q hq => (nb_iff.1 hq).2) (by omega)).2.2
theorem bfs_step {f : FD} {p : P2} {r : List P2} : bfsF On near (zrF f + (p :: r).length) f (p :: r) = bfsF On near (zrF (goF On near f p).1 + (r ++ (goF On near f p).2).length) (goF On near f p).1 (r ++ (goF On near f p).2) := by
  have := goF_zr (near := near) hOn f p
  rw [List.length_cons, List.length_append, ← Nat.add_assoc, bfsF]
  congr 1
  omega
end
theorem bfs_nil (On near : P2 → Bool) (k : Nat) (f : FD) : bfsF On near k f [] = f := by cases k <;> rfl
structure BI (On near : P2 → Bool) (p0 : P2) (f : FD) (q : List P2) : Prop where
  one : f.at p0 = 1
  qm : ∀ x ∈ q, On x = true ∧ 0 < f.at x
  up : ∀ n, On n = true → 0 < f.at n → n ≠ p0 → near n = true ∧ ∃ m, On m = true ∧ n ∈ adjL m ∧ 0 < f.at m ∧ f.at m + 1 = f.at n
  dn : ∀ m, On m = true → 0 < f.at m → m ∉ q → ∀ n, On n = true → n ∈ adjL m → near n = true → 0 < f.at n ∧ f.at n ≤ f.at m + 1
  lv : ∃ d, (∀ n, On n = true → f.at n ≤ d + 1) ∧ ∃ q1 q2, q = q1 ++ q2 ∧ (∀ x ∈ q1, f.at x = d) ∧ ∀ x ∈ q2, f.at x = d + 1
structure FinF (On near : P2 → Bool) (p0 : P2) (f : FD) : Prop where
  one : f.at p0 = 1
  up : ∀ n, On n = true → 0 < f.at n → n ≠ p0 → near n = true ∧ ∃ m, On m = true ∧ n ∈ adjL m ∧ 0 < f.at m ∧ f.at m + 1 = f.at n
  dn : ∀ m, On m = true → 0 < f.at m → ∀ n, On n = true → n ∈ adjL m → near n = true → 0 < f.at n ∧ f.at n ≤ f.at m + 1
section
variable {On near : P2 → Bool} (hOn : ∀ p, On p = true → inF32 p) {p0 : P2}
include hOn
theorem BI.start (h0 : On p0 = true) : BI On near p0 (zFD.put p0 1) [p0] := by
  have hat : ∀ n, On n = true → (zFD.put p0 1).at n = if n = p0 then 1 else 0 := fun n hn => by rw [FD.put_at (hOn _ h0) (hOn _ hn), zFD_at]
  have h1 : (zFD.put p0 1).at p0 = 1 := by rw [hat p0 h0, if_pos rfl]
  refine ⟨h1, fun x hx => ?_, fun n hn hp hne => ?_, fun m hm hp hq => ?_, 1, fun n hn => ?_, [p0], [], rfl, fun x hx => ?_, fun x hx => by simp at hx⟩
  · obtain rfl := List.mem_singleton.1 hx; exact ⟨h0, by omega⟩
  · rw [hat n hn, if_neg hne] at hp; omega
  · rw [hat m hm] at hp
    split at hp
    · rename_i e; exact absurd (List.mem_singleton.2 e) hq
    · omega
  · rw [hat n hn]; split <;> omega
  · obtain rfl := List.mem_singleton.1 hx; exact h1
theorem BI.step {f : FD} {p : P2} {r : List P2} (h : BI On near p0 f (p :: r)) : BI On near p0 (goF On near f p).1 (r ++ (goF On near f p).2) := by
  obtain ⟨hop, hpp⟩ := h.qm p (List.mem_cons_self ..)
  have hat : ∀ {n}, On n = true → (goF On near f p).1.at n = if n ∈ nbL On p ∧ f.at n = 0 ∧ near n = true then f.at p + 1 else f.at n := fun hn => goF_at hOn hn
  have hold : ∀ {n}, On n = true → 0 < f.at n → (goF On near f p).1.at n = f.at n := fun hn h0 => by rw [hat hn, if_neg (by omega)]
  have hnew : ∀ {n}, n ∈ (goF On near f p).2 ↔ (n ∈ adjL p ∧ On n = true) ∧ f.at n = 0 ∧ near n = true := by
    intro n
    rw [goF_new hOn, List.mem_filter, nb_iff]
    simp
  have hnat : ∀ {n}, n ∈ (goF On near f p).2 → (goF On near f p).1.at n = f.at p + 1 := fun hn => by
    obtain ⟨h1, h2⟩ := hnew.1 hn
    rw [hat h1.2, if_pos ⟨nb_iff.2 h1, h2⟩]
  have hp0 : On p0 = true → (goF On near f p).1.at p0 = 1 := fun h0 => by rw [hold h0 (by rw [h.one]; omega), h.one]
  have hon0 : (goF On near f p).1.at p0 = 1 := by
    by_cases h0 : On p0 = true
    · exact hp0 h0
    · -- no place that is not on is touched
      have key : ∀ (L : List P2) (v : Nat) (g : FD) (o : List P2), (∀ q ∈ L, q ≠ p0 ∧ ixF q ≠ ixF p0) → (L.foldl (visF near v) (g, o)).1.at p0 = g.at p0 := by
        intro L
        induction L with
        | nil => intro v g o _; rfl
        | cons q L ih =>
          intro v g o hL
          rw [List.foldl_cons]
          have hq := hL q (List.mem_cons_self ..)
          by_cases hc : g.at q = 0 ∧ near q = true
          · rw [show visF near v (g, o) q = (g.put q v, o ++ [q]) from if_pos hc, ih v _ _ fun x hx => hL x (List.mem_cons_of_mem _ hx)]
            unfold FD.at FD.put
            simp only [List.getD_eq_getElem?_getD]
            rw [List.getElem?_set_ne hq.2]
          · rw [show visF near v (g, o) q = (g, o) from if_neg hc]
            exact ih v _ _ fun x hx => hL x (List.mem_cons_of_mem _ hx)
      by_cases hx : ∃ q, On q = true ∧ ixF q = ixF p0
      · obtain ⟨q, hq, he⟩ := hx
        have e2 : ∀ g : FD, g.at q = g.at p0 := fun g => by unfold FD.at; rw [he]
        rw [← e2, hold hq (by rw [e2, h.one]; omega), e2, h.one]
      · unfold goF
        rw [key _ _ _ _ fun q hq => ⟨fun e => h0 (e ▸ (nb_iff.1 hq).2), fun e => hx ⟨q, (nb_iff.1 hq).2, e⟩⟩, h.one]
  refine ⟨hon0, fun x hx => ?_, fun n hn h0 hne => ?_, fun m hm h0 hq n hn ha hnr => ?_, ?_⟩
  · rcases List.mem_append.1 hx with hx | hx
    · obtain ⟨h1, h2⟩ := h.qm x (List.mem_cons_of_mem _ hx)
      exact ⟨h1, by rw [hold h1 h2]; exact h2⟩
    · exact ⟨(hnew.1 hx).1.2, by rw [hnat hx]; omega⟩
  · by_cases hz : f.at n = 0
    · rw [hat hn] at h0 ⊢
      split at h0
      · rename_i hc
        rw [if_pos hc]
        exact ⟨hc.2.2, p, hop, (nb_iff.1 hc.1).1, by rw [hold hop hpp]; exact hpp, by rw [hold hop hpp]⟩
      · omega
    · obtain ⟨h1, m, h2, h3, h4, h5⟩ := h.up n hn (by omega) hne
      exact ⟨h1, m, h2, h3, by rw [hold h2 h4]; exact h4, by rw [hold h2 h4, hold hn (by omega)]; exact h5⟩
  · obtain ⟨d, hd, q1, q2, hq12, hl1, hl2⟩ := h.lv
    have hpd : ∀ n, On n = true → f.at n ≤ f.at p + 1 := by
      cases q1 with
      | nil =>
        have : p ∈ q2 := by rw [List.nil_append] at hq12; rw [← hq12]; exact List.mem_cons_self ..
        intro n hn; have := hd n hn; have := hl2 p ‹_›; omega
      | cons a q1 =>
        rw [List.cons_append] at hq12
        have e := (List.cons.inj hq12).1
        intro n hn; have := hd n hn; have := hl1 a (List.mem_cons_self ..); rw [← e] at this; omega
    have hzm : f.at m ≠ 0 := fun hz => by
      rw [hat hm] at h0
      split at h0
      · rename_i hc
        exact hq (List.mem_append_right _ (hnew.2 ⟨nb_iff.1 hc.1, hc.2⟩))
      · omega
    rw [hold hm (by omega)]
    by_cases hmp : m = p
    · subst hmp
      by_cases hz : f.at n = 0
      · rw [hat hn, if_pos ⟨nb_iff.2 ⟨ha, hn⟩, hz, hnr⟩]; omega
      · rw [hold hn (by omega)]; exact ⟨by omega, hpd n hn⟩
    · obtain ⟨h1, h2⟩ := h.dn m hm (by omega) (fun hm' => by
        rcases List.mem_cons.1 hm' with e | e
        · exact hmp e
        · exact hq (List.mem_append_left _ e)) n hn ha hnr
      rw [hold hn h1]; exact ⟨h1, h2⟩
  · obtain ⟨d, hd, q1, q2, hq12, hl1, hl2⟩ := h.lv
    have main : ∀ (d : Nat) (q1 q2 : List P2), (∀ n, On n = true → f.at n ≤ d + 1) → p :: r = p :: q1 ++ q2 → f.at p = d → (∀ x ∈ q1, f.at x = d) → (∀ x ∈ q2, f.at x = d + 1) → ∃ d, (∀ n, On n = true → (goF On near f p).1.at n ≤ d + 1) ∧ ∃ q1 q2, r ++ (goF On near f p).2 = q1 ++ q2 ∧ (∀ x ∈ q1, (goF On near f p).1.at x = d) ∧ ∀ x ∈ q2, (goF On near f p).1.at x = d + 1 := by
      intro d q1 q2 hd hq12 hp hl1 hl2
      have hr : r = q1 ++ q2 := by simpa using hq12
      have hmem : ∀ x ∈ r, (goF On near f p).1.at x = f.at x := fun x hx => by
        obtain ⟨h1, h2⟩ := h.qm x (List.mem_cons_of_mem _ hx)
        exact hold h1 h2
      refine ⟨d, fun n hn => ?_, q1, q2 ++ (goF On near f p).2, by rw [hr, List.append_assoc], fun x hx => ?_, fun x hx => ?_⟩
      · rw [hat hn]; split
        · omega
        · exact hd n hn
      · rw [hmem x (by rw [hr]; exact List.mem_append_left _ hx)]; exact hl1 x hx
      · rcases List.mem_append.1 hx with hx | hx
        · rw [hmem x (by rw [hr]; exact List.mem_append_right _ hx)]; exact hl2 x hx
        · rw [hnat hx, hp]
    cases q1 with
    | nil =>
      rw [List.nil_append] at hq12
      subst hq12
      exact main (d + 1) r [] (fun n hn => by have := hd n hn; omega) (by simp) (hl2 p (List.mem_cons_self ..)) (fun x hx => hl2 x (List.mem_cons_of_mem _ hx)) (fun x hx => by simp at hx)
    | cons a q1 =>
      rw [List.cons_append] at hq12
      obtain ⟨rfl, h2⟩ := List.cons.inj hq12
      exact main d q1 q2 hd (by rw [h2]; rfl) (hl1 p (List.mem_cons_self ..)) (fun x hx => hl1 x (List.mem_cons_of_mem _ hx)) hl2
theorem bfs_fin : ∀ (k : Nat) (f : FD) (q : List P2), zrF f + q.length ≤ k → BI On near p0 f q → FinF On near p0 (bfsF On near k f q)
  | k, f, [], _, h => by rw [bfs_nil]; exact ⟨h.one, h.up, fun m hm h0 => h.dn m hm h0 (by simp)⟩
  | 0, f, p :: r, hk, _ => by simp at hk
  | k + 1, f, p :: r, hk, h => by
    rw [bfsF]
    have := goF_zr (near := near) hOn f p
    exact bfs_fin k _ _ (by rw [List.length_append]; rw [List.length_cons] at hk; omega) (h.step hOn)
end
inductive Pth (On near : P2 → Bool) (p0 : P2) : Nat → P2 → Prop
  | z : Pth On near p0 0 p0
  | s {k : Nat} {m n : P2} (h : Pth On near p0 k m) (ho : On n = true) (ha : n ∈ adjL m) (hn : near n = true) : Pth On near p0 (k + 1) n
theorem Pth.on {On near : P2 → Bool} {p0 : P2} {k : Nat} {n : P2} (h : Pth On near p0 k n) (h0 : On p0 = true) : On n = true := by cases h <;> assumption
theorem FinF.le {On near : P2 → Bool} {p0 : P2} {f : FD} (h : FinF On near p0 f) (h0 : On p0 = true) {k : Nat} {n : P2} (hp : Pth On near p0 k n) : 0 < f.at n ∧ f.at n ≤ k + 1 := by
  induction hp with
  | z => rw [h.one]; omega
  | s hm ho ha hn ih =>
    obtain ⟨h1, h2⟩ := h.dn _ (hm.on h0) ih.1 _ ho ha hn
    omega
theorem FinF.way {On near : P2 → Bool} {p0 : P2} {f : FD} (h : FinF On near p0 f) : ∀ (k : Nat) (n : P2), On n = true → f.at n = k + 1 → Pth On near p0 k n
  | k, n, hn, hk => by
    by_cases e : n = p0
    · subst e
      rw [h.one] at hk
      obtain rfl : k = 0 := by omega
      exact .z
    · obtain ⟨h1, m, h2, h3, h4, h5⟩ := h.up n hn (by omega) e
      obtain ⟨j, rfl⟩ : ∃ j, k = j + 1 := ⟨k - 1, by omega⟩
      exact .s (h.way j m h2 (by omega)) hn h3 h1
theorem Pth.mono {On near near2 : P2 → Bool} {p0 : P2} {k : Nat} {n : P2} (h : Pth On near p0 k n) (hm : ∀ q, near q = true → near2 q = true) : Pth On near2 p0 k n := by
  induction h with
  | z => exact .z
  | s _ ho ha hn ih => exact .s ih ho ha (hm _ hn)
theorem Pth.trans {On near : P2 → Bool} {p q : P2} {k : Nat} (h : Pth On near p k q) {j : Nat} {n : P2} (g : Pth On near q j n) : Pth On near p (k + j) n := by
  induction g with
  | z => exact h
  | s _ ho ha hn ih => exact .s ih ho ha hn
theorem fin_way {On near : P2 → Bool} {p0 : P2} {f : FD} (h : FinF On near p0 f) {n : P2} (hn : On n = true) (h1 : 0 < f.at n) : Pth On near p0 (f.at n - 1) n := h.way _ n hn (by omega)
def onP (w h : Int) (p : P2) : Bool := onS w h p.x p.y
theorem onP_in {w h : Int} (hm : mayS w h = true) (p : P2) (ho : onP w h p = true) : inF32 p := by
  have hb := mayS_b hm
  have := onS_iff.1 ho
  unfold inF32
  omega
def FD.has (f : FD) (p : P2) : Bool := decide (0 < f.at p)
theorem has_int (f : FD) (p : P2) : decide ((0 : Int) < (f.at p : Int)) = f.has p := by
  unfold FD.has
  rw [Bool.eq_iff_iff, decide_eq_true_eq, decide_eq_true_eq]
  omega
theorem srF_at {c q : D} {f : FD} {p : P2} (hp : inF32 p) : (srL c f.l q)[0 + 1 + (p.y * 32 + p.x).toNat * 1]? = some (.val (.int .i64 ((f.at p : Nat) : Int))) :=
  srL_at (k := ixF p) (by unfold ixF; omega) (by rw [f.h]; exact ixF_lt hp)
theorem srF_set {c q : D} {f : FD} {p : P2} {n : Nat} (hp : inF32 p) : (srL c f.l q).set (0 + 1 + (p.y * 32 + p.x).toNat * 1) (.val (.int .i64 ((n : Nat) : Int))) = srL c (f.put p n).l q :=
  srL_set (k := ixF p) (by unfold ixF; omega) (by rw [f.h]; exact ixF_lt hp)
theorem srF_lt {c q : D} {f : FD} {p : P2} (hp : inF32 p) : 0 + 1 + (p.y * 32 + p.x).toNat * 1 < (srL c f.l q).length := by
  have := ixF_lt hp
  unfold ixF at this
  rw [srL_len, f.h]
  omega
theorem srF_qlt {c q : D} {f : FD} : 0 + 1025 < (srL c f.l q).length := by rw [srL_len, f.h]; omega
abbrev rowQ (q : List P2) : Mem := .que 26 2 q.length (q.flatMap p2)
def fmQ (k : Nat) (q : List P2) : List Mem := List.replicate k .gone ++ [rowQ q]
theorem fmQ_at (k : Nat) (q : List P2) : (fmQ k q)[k]? = some (rowQ q) := by
  unfold fmQ
  rw [List.getElem?_append_right (by simp)]
  simp
theorem fmQ_len (k : Nat) (q : List P2) : (fmQ k q).length = k + 1 := by simp [fmQ]
theorem fmQ_set (k : Nat) (q : List P2) : (fmQ k q).set k .gone = List.replicate (k + 1) .gone := by
  unfold fmQ
  rw [List.set_append_right _ _ (by simp), List.length_replicate, Nat.sub_self, List.replicate_succ']
  rfl
theorem fmQ_new (k : Nat) (q : List P2) : List.replicate k Mem.gone ++ [Mem.que 26 2 q.length (q.flatMap p2)] = fmQ k q := rfl
theorem fmQ_add (k : Nat) (q : List P2) (p : P2) : (fmQ k q).set k .gone ++ [Mem.que 26 2 (q.length + 1) (q.flatMap p2 ++ p2 p)] = fmQ (k + 1) (q ++ [p]) := by
  rw [fmQ_set]
  unfold fmQ rowQ
  rw [List.length_append, List.flatMap_append]
  simp
def zSV : List Value := .pointer none :: (List.replicate 1024 (.int .i64 0) ++ [.slice none 0 0])
theorem zSV_len : zSV.length = 1026 := by simp [zSV]
theorem sr_new (c : D) : fillD [(0, 1), (1, 1024), (1025, 1)] (zSV.map .val) [(0, [c])] = srL c zFD.l (.val (.slice none 0 0)) := by
  show setD (zSV.map .val) 0 [c] = _
  unfold zSV srL zFD
  rw [List.map_cons, List.map_append, List.map_replicate, List.map_replicate]
  rfl
end Go.Proofs.YtfnhckildfbikaaGreat
namespace Go.Proofs.YtfnhckildfbikaaGreat
set_option maxRecDepth 4000
set_option linter.unusedVariables false
set_option linter.unusedSimpArgs false
open Go.RowKit
attribute [local irreducible] zFD srL goF bfsF
theorem ar113 : arE Tryz.prog 113 = some (1024, 1) := by kernel_rfl
theorem fl115 : fdL Tryz.prog 115 = some [(0, 1), (1, 1024), (1025, 1)] := by kernel_rfl
theorem fo115_1 : fdO Tryz.prog 115 1 = some 1 := by kernel_rfl
theorem zr115 : zrC Tryz.prog 115 = some (zSV) := by kernel_rfl
set_option maxRecDepth 4000 in
set_option maxHeartbeats 1000000 in
theorem searchOf_d (w h : Int) (ds : List D) : DFun Tryz.prog 45 [cvD w h ds] [] (.loc 0 0) [.mix 115 (srL (cvD w h ds) (zFD).l (.farr 1 (0))), .fam (fmQ (0) (([] : List P2)))] := by
  refine zan (N := 6) 0 (by kernel_rfl) Tryz.func45 rfl rfl rfl (by simp only [fr0, Nat.zero_add, Nat.reduceAdd]; exact rfl) rfl fun s0 hs0 => ?_
  refine zaf ?_
  refine zac ?_
  refine zab rfl rfl rfl (zad (.inr rfl) (ev1 rfl)) ?_
  refine zae ?_
  refine zaf ?_
  refine zah 1 (by simp only [holes, List.cons_append, List.nil_append]; exact rfl) ?_
  refine zac ?_
  refine zab rfl rfl rfl (zad (.inl rfl) (ev1 rfl)) ?_
  refine zab rfl rfl rfl (op_bldD (ps := [(0, .tmp 3)]) rfl fl115 zr115 (ec (ev1 rfl) en) rfl (by rw [zSV_len]; rfl) (sr_new _)) ?_
  refine zaj rfl rfl rfl (op_boxam 0 rfl (ev1 rfl) rfl) (by simp only [upd, zaa, za]; exact rfl) ?_
  refine zab rfl rfl rfl (zad (.inr rfl) (ev1 rfl)) ?_
  refine zae ?_
  refine dwp_adoptS (m := 1) 0 26 2 rfl rfl (by simp only [List.cons_append, List.nil_append, zaa, za, List.length_cons, List.length_nil, Nat.zero_add, Nat.reduceAdd]; exact rfl) ?_
  refine dwp_hole ?_
  refine dwp_fam 2 rfl (by simp only [List.cons_append, List.nil_append, zaa, za, List.length_cons, List.length_nil, Nat.zero_add, Nat.reduceAdd]; exact rfl) ?_
  refine dwp_absS (f := 2) 0 rfl rfl rfl rfl rfl (by simp only [List.cons_append, List.nil_append, zaa, za, List.length_cons, List.length_nil, Nat.zero_add, Nat.reduceAdd]; exact rfl) ?_
  refine dwp_ret ?_
  refine kend [0, 2] (rs1 rfl (rv_t rfl)) rfl rfl ?_ ⟨zam rfl rfl rfl, rfl, trivial⟩
  rfl
set_option maxRecDepth 4000 in
set_option maxHeartbeats 1000000 in
theorem meet_d (w h : Int) (ds : List D) (f : FD) (k : Nat) (q : List P2) (p : P2) (n : Nat) (hp : inF32 p) (hn : n ≤ 5000) : DFun Tryz.prog 50 [.loc 0 0, .val (.agg #[.int .i64 p.x, .int .i64 p.y]), .val (.int .i64 (n : Int))] [.mix 115 (srL (cvD w h ds) (f).l (.farr 1 (k))), .fam (fmQ (k) (q))] (.tup []) [.mix 115 (srL (cvD w h ds) ((f.put p (n + 1))).l (.farr 1 (k))), .fam (fmQ (k) (q))] := by
  have hp2 := hp
  unfold inF32 at hp2
  refine zan (N := 18) 2 (by kernel_rfl) Tryz.func50 rfl rfl rfl (by simp only [fr0, Nat.zero_add, Nat.reduceAdd]; exact rfl) rfl fun s0 hs0 => ?_
  refine zaf ?_
  refine zah 1 (by simp only [holes, List.cons_append, List.nil_append]; exact rfl) ?_
  refine zac ?_
  refine zaj rfl rfl rfl (op_boxa 2 rfl (ev1 rfl) rfl) (by simp only [upd, zaa, za]; exact rfl) ?_
  refine zae ?_
  refine dwp_draw [([], []), ([], []), ([2], []), ([], []), ([], []), ([2], []), ([], []), ([], []), ([], []), ([], []), ([], []), ([], []), ([0], [0])] mixed (by kernel_rfl) ?_
  refine zag rfl rfl (zad (.inl rfl) (ev1 rfl)) ?_
  refine zag rfl rfl (op_fa rfl fo26_1 (ev1 rfl)) ?_
  refine zag rfl rfl (op_ldo rfl tb3 (ev1 rfl) rfl rfl) ?_
  refine zag rfl rfl (op_mul' rfl (ev1 rfl) (ev1 rfl) (fun _ => IntWalk.i64_in _ (by omega))) ?_
  refine zag rfl rfl (op_fa rfl fo26_0 (ev1 rfl)) ?_
  refine zag rfl rfl (op_ldo rfl tb3 (ev1 rfl) rfl rfl) ?_
  refine zag rfl rfl (op_add' rfl (ev1 rfl) (ev1 rfl) (fun _ => IntWalk.i64_in _ (by omega))) ?_
  refine zag rfl rfl (zad (.inl rfl) (ev1 rfl)) ?_
  refine zag rfl rfl ((op_add' rfl (ev1 rfl) (ev1 rfl) (fun _ => IntWalk.i64_in _ (by omega))).cast (d' := .val (.int .i64 ((n + 1 : Nat) : Int))) (by rfl)) ?_
  refine zag rfl rfl (op_nc rfl (ev1 rfl) (fun s v h => by cases h; exact ⟨_, rfl⟩)) ?_
  refine zag rfl rfl (op_fa rfl fo115_1 (ev1 rfl)) ?_
  refine zag rfl rfl (op_ixl rfl ar113 (ev1 rfl) (ev1 rfl) (fun _ => by omega)) ?_
  refine lex_s rfl rfl (op_stmq rfl tb3 (ev1 rfl) (ev1 rfl) (fun s v h => by cases h <;> exact ⟨rfl, rfl⟩) rfl (srF_lt hp) (srF_set hp)) rfl (by simp only [upd, zaa, za]; exact rfl) ?_
  refine lex_nil ?_
  refine kend [0, 1] (res_none rfl) rfl rfl ?_ ⟨zam rfl rfl rfl, rfl, trivial⟩
  rfl
set_option maxRecDepth 4000 in
set_option maxHeartbeats 1000000 in
theorem has_s (w h : Int) (ds : List D) (f : FD) (k : Nat) (q : List P2) (p : P2) (hp : inF32 p) : DFun Tryz.prog 30 [.loc 0 0, .val (.agg #[.int .i64 p.x, .int .i64 p.y])] [.mix 115 (srL (cvD w h ds) (f).l (.farr 1 (k))), .fam (fmQ (k) (q))] (.val (.bool (f.has p))) [.mix 115 (srL (cvD w h ds) (f).l (.farr 1 (k))), .fam (fmQ (k) (q))] := by
  have hp2 := hp
  unfold inF32 at hp2
  refine zan (N := 17) 2 (by kernel_rfl) Tryz.func30 rfl rfl rfl (by simp only [fr0, Nat.zero_add, Nat.reduceAdd]; exact rfl) rfl fun s0 hs0 => ?_
  refine zaf ?_
  refine zah 1 (by simp only [holes, List.cons_append, List.nil_append]; exact rfl) ?_
  refine zac ?_
  refine zaj rfl rfl rfl (op_boxa 2 rfl (ev1 rfl) rfl) (by simp only [upd, zaa, za]; exact rfl) ?_
  refine zab rfl rfl rfl (zad (.inr rfl) (ev1 rfl)) ?_
  refine zae ?_
  refine zaf ?_
  refine dwp_draw [([], []), ([], []), ([2], []), ([], []), ([], []), ([2], []), ([], []), ([], []), ([], []), ([], []), ([0], []), ([], []), ([], [])] mixed (by kernel_rfl) ?_
  refine zag rfl rfl (zad (.inl rfl) (ev1 rfl)) ?_
  refine zag rfl rfl (op_fa rfl fo26_1 (ev1 rfl)) ?_
  refine zag rfl rfl (op_ldo rfl tb3 (ev1 rfl) rfl rfl) ?_
  refine zag rfl rfl (op_mul' rfl (ev1 rfl) (ev1 rfl) (fun _ => IntWalk.i64_in _ (by omega))) ?_
  refine zag rfl rfl (op_fa rfl fo26_0 (ev1 rfl)) ?_
  refine zag rfl rfl (op_ldo rfl tb3 (ev1 rfl) rfl rfl) ?_
  refine zag rfl rfl (op_add' rfl (ev1 rfl) (ev1 rfl) (fun _ => IntWalk.i64_in _ (by omega))) ?_
  refine zag rfl rfl (op_nc rfl (ev1 rfl) (fun s v h => by cases h; exact ⟨_, rfl⟩)) ?_
  refine zag rfl rfl (op_fa rfl fo115_1 (ev1 rfl)) ?_
  refine zag rfl rfl (op_ixl rfl ar113 (ev1 rfl) (ev1 rfl) (fun _ => by omega)) ?_
  refine zag rfl rfl (op_ldm rfl tb3 (ev1 rfl) rfl (srF_at hp)) ?_
  refine zag rfl rfl (op_gtr rfl (ev1 rfl) (ev1 rfl)) ?_
  refine zag rfl rfl (zad (.inr rfl) (ev1 rfl)) ?_
  refine lex_nil ?_
  refine dwp_ret ?_
  refine kend [0, 1] (rs1 rfl (rv_t rfl)) rfl rfl ?_ ⟨zam rfl rfl rfl, rfl, trivial⟩
  rw [has_int]
set_option maxRecDepth 4000 in
set_option maxHeartbeats 1000000 in
theorem steps_s (w h : Int) (ds : List D) (f : FD) (k : Nat) (q : List P2) (p : P2) (hp : inF32 p) (hb : f.at p ≤ 5000) : DFun Tryz.prog 49 [.loc 0 0, .val (.agg #[.int .i64 p.x, .int .i64 p.y])] [.mix 115 (srL (cvD w h ds) (f).l (.farr 1 (k))), .fam (fmQ (k) (q))] (.val (.int .i64 (((f.at p : Nat) : Int) - 1))) [.mix 115 (srL (cvD w h ds) (f).l (.farr 1 (k))), .fam (fmQ (k) (q))] := by
  have hp2 := hp
  unfold inF32 at hp2
  refine zan (N := 17) 2 (by kernel_rfl) Tryz.func49 rfl rfl rfl (by simp only [fr0, Nat.zero_add, Nat.reduceAdd]; exact rfl) rfl fun s0 hs0 => ?_
  refine zaf ?_
  refine zah 1 (by simp only [holes, List.cons_append, List.nil_append]; exact rfl) ?_
  refine zac ?_
  refine zaj rfl rfl rfl (op_boxa 2 rfl (ev1 rfl) rfl) (by simp only [upd, zaa, za]; exact rfl) ?_
  refine zab rfl rfl rfl (zad (.inr rfl) (ev1 rfl)) ?_
  refine zae ?_
  refine zaf ?_
  refine dwp_draw [([], []), ([], []), ([2], []), ([], []), ([], []), ([2], []), ([], []), ([], []), ([], []), ([], []), ([0], []), ([], []), ([], [])] mixed (by kernel_rfl) ?_
  refine zag rfl rfl (zad (.inl rfl) (ev1 rfl)) ?_
  refine zag rfl rfl (op_fa rfl fo26_1 (ev1 rfl)) ?_
  refine zag rfl rfl (op_ldo rfl tb3 (ev1 rfl) rfl rfl) ?_
  refine zag rfl rfl (op_mul' rfl (ev1 rfl) (ev1 rfl) (fun _ => IntWalk.i64_in _ (by omega))) ?_
  refine zag rfl rfl (op_fa rfl fo26_0 (ev1 rfl)) ?_
  refine zag rfl rfl (op_ldo rfl tb3 (ev1 rfl) rfl rfl) ?_
  refine zag rfl rfl (op_add' rfl (ev1 rfl) (ev1 rfl) (fun _ => IntWalk.i64_in _ (by omega))) ?_
  refine zag rfl rfl (op_nc rfl (ev1 rfl) (fun s v h => by cases h; exact ⟨_, rfl⟩)) ?_
  refine zag rfl rfl (op_fa rfl fo115_1 (ev1 rfl)) ?_
  refine zag rfl rfl (op_ixl rfl ar113 (ev1 rfl) (ev1 rfl) (fun _ => by omega)) ?_
  refine zag rfl rfl (op_ldm rfl tb3 (ev1 rfl) rfl (srF_at hp)) ?_
  refine zag rfl rfl (op_sub' rfl (ev1 rfl) (ev1 rfl) (fun _ => IntWalk.i64_in _ (by omega))) ?_
  refine zag rfl rfl (zad (.inr rfl) (ev1 rfl)) ?_
  refine lex_nil ?_
  refine dwp_ret ?_
  refine kend [0, 1] (rs1 rfl (rv_t rfl)) rfl rfl ?_ ⟨zam rfl rfl rfl, rfl, trivial⟩
  rfl
end Go.Proofs.YtfnhckildfbikaaGreat
namespace Go.Proofs.YtfnhckildfbikaaGreat
set_option maxRecDepth 4000
set_option linter.unusedVariables false
set_option linter.unusedSimpArgs false
open Go.RowKit
attribute [local irreducible] zFD srL goF bfsF
theorem ar57 : arE Tryz.prog 57 = some (4, 2) := by kernel_rfl
theorem tb57 : tyB Tryz.prog 57 = some (true, 8) := by kernel_rfl
theorem zr57 : zrC Tryz.prog 57 = some [.int .i64 0, .int .i64 0, .int .i64 0, .int .i64 0, .int .i64 0, .int .i64 0, .int .i64 0, .int .i64 0] := by kernel_rfl
theorem adj_len (p : P2) : (adjL p).length = 4 := rfl
theorem adj_in {p q : P2} (hp : inF32 p) (h : q ∈ adjL p) : (-1 ≤ q.x ∧ q.x ≤ 32) ∧ -1 ≤ q.y ∧ q.y ≤ 32 := by
  rw [adj_iff] at h
  unfold inF32 at hp
  omega
def goK (On near : P2 → Bool) (f : FD) (p : P2) (i : Nat) : FD × List P2 := (((adjL p).take i).filter On).foldl (visF near (f.at p + 1)) (f, [])
theorem goK_zero (On near : P2 → Bool) (f : FD) (p : P2) : goK On near f p 0 = (f, []) := rfl
theorem goK_end (On near : P2 → Bool) (f : FD) (p : P2) : goK On near f p 4 = goF On near f p := by unfold goK goF; rfl
theorem goK_yes {On near : P2 → Bool} {f : FD} {p : P2} {i : Nat} (hi : i < (adjL p).length) (ho : On (adjL p)[i] = true) : goK On near f p (i + 1) = visF near (f.at p + 1) (goK On near f p i) (adjL p)[i] := by
  unfold goK
  rw [List.take_succ_eq_append_getElem hi, List.filter_append, List.foldl_append]
  simp [ho]
theorem goK_no {On near : P2 → Bool} {f : FD} {p : P2} {i : Nat} (hi : i < (adjL p).length) (ho : On (adjL p)[i] = false) : goK On near f p (i + 1) = goK On near f p i := by
  unfold goK
  rw [List.take_succ_eq_append_getElem hi, List.filter_append, List.foldl_append]
  simp [ho]
theorem vis_yes {near : P2 → Bool} {v : Nat} {s : FD × List P2} {q : P2} (h1 : s.1.has q = false) (h2 : near q = true) : visF near v s q = (s.1.put q v, s.2 ++ [q]) := by
  unfold FD.has at h1
  exact if_pos ⟨by simpa using h1, h2⟩
theorem vis_no1 {near : P2 → Bool} {v : Nat} {s : FD × List P2} {q : P2} (h1 : s.1.has q = true) : visF near v s q = s := by
  unfold FD.has at h1
  exact if_neg fun h => by simp at h1; omega
theorem vis_no2 {near : P2 → Bool} {v : Nat} {s : FD × List P2} {q : P2} (h2 : near q = false) : visF near v s q = s := if_neg fun h => by rw [h2] at h; exact absurd h.2 (by decide)
theorem goK_old {On near : P2 → Bool} (hOn : ∀ p, On p = true → inF32 p) {f : FD} {p n : P2} {i : Nat} (hn : On n = true) (h0 : 0 < f.at n) : (goK On near f p i).1.at n = f.at n := by
  have h := (vis_all (near := near) hOn (((adjL p).take i).filter On) (f.at p + 1) f [] ((adj_nodup p).sublist (List.filter_sublist.trans (List.take_sublist ..))) (fun q hq => (List.mem_filter.1 hq).2) (by omega)).1 n hn
  unfold goK
  rw [h, if_neg (by omega)]
theorem goK_len {On near : P2 → Bool} (f : FD) (p : P2) : ∀ i, (goK On near f p i).2.length ≤ i := by
  have key : ∀ (L : List P2) (v : Nat) (s : FD × List P2), (L.foldl (visF near v) s).2.length ≤ s.2.length + L.length := by
    intro L v
    induction L with
    | nil => intro s; simp
    | cons a L ih =>
      intro s
      rw [List.foldl_cons, List.length_cons]
      refine Nat.le_trans (ih _) ?_
      unfold visF
      split
      · simp only [List.length_append, List.length_cons, List.length_nil]; omega
      · omega
  intro i
  unfold goK
  refine Nat.le_trans (key _ _ _) ?_
  have h1 := List.length_filter_le On ((adjL p).take i)
  have h2 := List.length_take_le i (adjL p)
  simp only [List.length_nil]
  omega
def nearP (w : Int) (ts : List TL) (tol : Int) (c : C4) (q : P2) : Bool := nearC tol c (getC w ts q.x q.y)
set_option maxRecDepth 4000 in
set_option maxHeartbeats 1000000 in
theorem nbs_d (w h : Int) (ds : List D) (f : FD) (k : Nat) (q : List P2) (p : P2) (hp : inF32 p) : DFun Tryz.prog 80 [.loc 0 0, .val (.agg #[.int .i64 p.x, .int .i64 p.y])] [.mix 115 (srL (cvD w h ds) (f).l (.farr 1 (k))), .fam (fmQ (k) (q))] (.fn (.func 93) [] [.loc 2 0, .loc 3 0]) [.mix 115 (srL (cvD w h ds) (f).l (.farr 1 (k))), .fam (fmQ (k) (q)), .flat 57 ((adjL p).flatMap p2), .mix 75 [.loc 0 0]] := by
  have hp2 := hp
  unfold inF32 at hp2
  refine zan (N := 32) 2 (by kernel_rfl) Tryz.func80 rfl rfl rfl (by simp only [fr0, Nat.zero_add, Nat.reduceAdd]; exact rfl) rfl fun s0 hs0 => ?_
  refine zaf ?_
  refine zah 2 (by simp only [holes, List.cons_append, List.nil_append]; exact rfl) ?_
  refine zac ?_
  refine zaj rfl rfl rfl (op_boxm 2 rfl (ev1 rfl) (fun s v h => by cases h <;> rfl) rfl) (by simp only [upd, zaa, za]; exact rfl) ?_
  refine zaj rfl rfl rfl (op_boxa 3 rfl (ev1 rfl) rfl) (by simp only [upd, zaa, za]; exact rfl) ?_
  refine zab rfl rfl rfl (zad (.inr rfl) (ev1 rfl)) ?_
  refine zae ?_
  refine zaf ?_
  refine zah 1 (by simp only [holes, List.cons_append, List.nil_append]; exact rfl) ?_
  refine zac ?_
  refine zab rfl rfl rfl (op_fa rfl fo26_0 (ev1 rfl)) ?_
  refine zab rfl rfl rfl (op_ldo rfl tb3 (ev1 rfl) rfl rfl) ?_
  refine zab rfl rfl rfl (op_sub' rfl (ev1 rfl) (ev1 rfl) (fun _ => IntWalk.i64_in _ (by omega))) ?_
  refine zab rfl rfl rfl (op_fa rfl fo26_1 (ev1 rfl)) ?_
  refine zab rfl rfl rfl (op_ldo rfl tb3 (ev1 rfl) rfl rfl) ?_
  refine zab rfl rfl rfl (op_build (ps := [(0, .tmp 8), (1, .tmp 10)]) rfl fl26 zr26 (vc (ev1 rfl) (vc (ev1 rfl) vn)) rfl rfl) ?_
  refine zab rfl rfl rfl (op_fa rfl fo26_0 (ev1 rfl)) ?_
  refine zab rfl rfl rfl (op_ldo rfl tb3 (ev1 rfl) rfl rfl) ?_
  refine zab rfl rfl rfl (op_add' rfl (ev1 rfl) (ev1 rfl) (fun _ => IntWalk.i64_in _ (by omega))) ?_
  refine zab rfl rfl rfl (op_fa rfl fo26_1 (ev1 rfl)) ?_
  refine zab rfl rfl rfl (op_ldo rfl tb3 (ev1 rfl) rfl rfl) ?_
  refine zab rfl rfl rfl (op_build (ps := [(0, .tmp 14), (1, .tmp 16)]) rfl fl26 zr26 (vc (ev1 rfl) (vc (ev1 rfl) vn)) rfl rfl) ?_
  refine zab rfl rfl rfl (op_fa rfl fo26_0 (ev1 rfl)) ?_
  refine zab rfl rfl rfl (op_ldo rfl tb3 (ev1 rfl) rfl rfl) ?_
  refine zab rfl rfl rfl (op_fa rfl fo26_1 (ev1 rfl)) ?_
  refine zab rfl rfl rfl (op_ldo rfl tb3 (ev1 rfl) rfl rfl) ?_
  refine zab rfl rfl rfl (op_sub' rfl (ev1 rfl) (ev1 rfl) (fun _ => IntWalk.i64_in _ (by omega))) ?_
  refine zab rfl rfl rfl (op_build (ps := [(0, .tmp 19), (1, .tmp 22)]) rfl fl26 zr26 (vc (ev1 rfl) (vc (ev1 rfl) vn)) rfl rfl) ?_
  refine zab rfl rfl rfl (op_fa rfl fo26_0 (ev1 rfl)) ?_
  refine zab rfl rfl rfl (op_ldo rfl tb3 (ev1 rfl) rfl rfl) ?_
  refine zab rfl rfl rfl (op_fa rfl fo26_1 (ev1 rfl)) ?_
  refine zab rfl rfl rfl (op_ldo rfl tb3 (ev1 rfl) rfl rfl) ?_
  refine zab rfl rfl rfl (op_add' rfl (ev1 rfl) (ev1 rfl) (fun _ => IntWalk.i64_in _ (by omega))) ?_
  refine zab rfl rfl rfl (op_build (ps := [(0, .tmp 25), (1, .tmp 28)]) rfl fl26 zr26 (vc (ev1 rfl) (vc (ev1 rfl) vn)) rfl rfl) ?_
  refine zab rfl rfl rfl ((op_bldaD (ps := [(0, .tmp 11), (1, .tmp 17), (2, .tmp 23), (3, .tmp 29)]) rfl ar57 zr57 (ec (ev1 rfl) (ec (ev1 rfl) (ec (ev1 rfl) (ec (ev1 rfl) en)))) rfl rfl rfl rfl).wk (by exact Wk.aggv ((adjL p).flatMap p2) : Wk _ (.val (.agg ((adjL p).flatMap p2).toArray)))) ?_
  refine zaj rfl rfl rfl (op_alloc 4 rfl zr57 rfl) (by simp only [upd, zaa, za]; exact rfl) ?_
  refine walk_s rfl rfl (op_stwa rfl tb57 (ev1 rfl) (ev1 rfl) rfl rfl rfl rfl) (by simp only [upd, zaa, za]; exact rfl) ?_
  refine zae ?_
  refine zaf ?_
  refine zac ?_
  refine zab rfl rfl rfl (op_mkf rfl en (ec (ev1 rfl) (ec (ev1 rfl) en))) ?_
  refine zab rfl rfl rfl (zad (.inr rfl) (ev1 rfl)) ?_
  refine zae ?_
  refine dwp_ret ?_
  refine kend [0, 1, 4, 2] (rs1 rfl (rv_t rfl)) rfl rfl ?_ ⟨zam rfl rfl rfl, rfl, rfl, rfl, trivial⟩
  rfl
set_option maxRecDepth 4000 in
set_option maxHeartbeats 1000000 in
theorem like1_v (w h : Int) (ds : List D) (ts : List TL) (hr : RowOk ds ts) (hc : CvOk w h ts) (hg : tsRng ts) (p : P2) (c : C4) (hcr : c.rng) (tol : Int) (ht : 0 ≤ tol) (ho : onS w h p.x p.y = true) : DFun Tryz.prog 79 [.val (.agg #[.int .i64 p.x, .int .i64 p.y]), .dpm [cvD w h ds], .dpf (c4 c), .dpf [.int .i64 tol]] [] (.val (.bool (nearP w ts tol c p))) [] := by
  refine zan (N := 21) 0 (by kernel_rfl) Tryz.func79 rfl rfl rfl (by simp only [fr0, Nat.zero_add, Nat.reduceAdd]; exact rfl) rfl fun s0 hs0 => ?_
  refine zaf ?_
  refine zah 1 (by simp only [holes, List.cons_append, List.nil_append]; exact rfl) ?_
  refine zac ?_
  refine zaj rfl rfl rfl (op_boxa 0 rfl (ev1 rfl) rfl) (by simp only [upd, zaa, za]; exact rfl) ?_
  refine zab rfl rfl rfl (zad (.inr rfl) (ev1 rfl)) ?_
  refine zae ?_
  refine zaf ?_
  refine zah 1 (by simp only [holes, List.cons_append, List.nil_append]; exact rfl) ?_
  refine zac ?_
  refine zab rfl rfl rfl (op_lddm rfl tb29 (ev1 rfl) rfl) ?_
  refine zab rfl rfl rfl (op_fa rfl fo26_0 (ev1 rfl)) ?_
  refine zab rfl rfl rfl (op_ldo rfl tb3 (ev1 rfl) rfl rfl) ?_
  refine zab rfl rfl rfl (op_fa rfl fo26_1 (ev1 rfl)) ?_
  refine zab rfl rfl rfl (op_ldo rfl tb3 (ev1 rfl) rfl rfl) ?_
  refine zab rfl rfl rfl (zai [] [] [] rfl (ev1 rfl) (ec (ev1 rfl) (ec (ev1 rfl) (ec (ev1 rfl) en))) rfl rfl (at_d w h ds ts hr hc p.x p.y) rfl rfl rfl rfl rfl rfl) ?_
  refine zab rfl rfl rfl (zad (.inl rfl) (ev1 rfl)) ?_
  refine zab rfl rfl rfl ((op_ext rfl (ev1 rfl) rfl).cast (d' := .val (.agg (c4 (getC w ts p.x p.y)).toArray)) (by rw [if_pos ho])) ?_
  refine zab rfl rfl rfl (op_ext rfl (ev1 rfl) rfl) ?_
  refine zaj rfl rfl rfl (op_alloc 1 rfl zr44 rfl) (by simp only [upd, zaa, za]; exact rfl) ?_
  refine walk_s rfl rfl (op_stwa rfl tb44 (ev1 rfl) (ev1 rfl) rfl rfl rfl rfl) (by simp only [upd, zaa, za]; exact rfl) ?_
  refine zab rfl rfl rfl (zad (.inr rfl) (ev1 rfl)) ?_
  refine zae ?_
  refine zaf ?_
  refine zac ?_
  refine zab rfl rfl rfl (op_ldwd rfl tb44 (ev1 rfl) rfl) ?_
  refine zab rfl rfl rfl (op_ldw rfl tb44 (ev1 rfl) rfl rfl) ?_
  refine zab rfl rfl rfl (op_ldod rfl tb3 (ev1 rfl) rfl) ?_
  refine zab rfl rfl rfl (zai [] [] [] rfl (ev1 rfl) (ec (ev1 rfl) (ec (ev1 rfl) (ec (ev1 rfl) en))) rfl rfl (near_d c (getC w ts p.x p.y) hcr (getC_rng hg _ _ _) tol ht) rfl rfl rfl rfl rfl rfl) ?_
  refine zab rfl rfl rfl (zad (.inr rfl) (ev1 rfl)) ?_
  refine zae ?_
  refine dwp_ret ?_
  refine kend0 (rs1 rfl (rv_t rfl)) rfl ?_
  rfl
set_option maxRecDepth 4000 in
set_option maxHeartbeats 1000000 in
theorem like_d (w h : Int) (ds : List D) (ts : List TL) (hr : RowOk ds ts) (hc : CvOk w h ts) (hg : tsRng ts) (p : P2) (tol : Int) (ho : onS w h p.x p.y = true) : DFun Tryz.prog 48 [cvD w h ds, .val (.agg #[.int .i64 p.x, .int .i64 p.y]), .val (.int .i64 tol)] [] (.fn (.func 79) [] [.loc 0 0, .loc 1 0, .loc 2 0]) [.mix 29 [cvD w h ds], .flat 44 (c4 (getC w ts p.x p.y)), .flat 3 [.int .i64 tol]] := by
  refine zan (N := 19) 0 (by kernel_rfl) Tryz.func48 rfl rfl rfl (by simp only [fr0, Nat.zero_add, Nat.reduceAdd]; exact rfl) rfl fun s0 hs0 => ?_
  refine zaf ?_
  refine zah 3 (by simp only [holes, List.cons_append, List.nil_append]; exact rfl) ?_
  refine zac ?_
  refine zaj rfl rfl rfl (op_boxm 0 rfl (ev1 rfl) (fun s v h => by cases h <;> rfl) rfl) (by simp only [upd, zaa, za]; exact rfl) ?_
  refine zaj rfl rfl rfl (op_boxa 1 rfl (ev1 rfl) rfl) (by simp only [upd, zaa, za]; exact rfl) ?_
  refine zaj rfl rfl rfl (op_boxi 2 rfl (ev1 rfl) rfl) (by simp only [upd, zaa, za]; exact rfl) ?_
  refine zab rfl rfl rfl (zad (.inr rfl) (ev1 rfl)) ?_
  refine zae ?_
  refine zaf ?_
  refine zah 1 (by simp only [holes, List.cons_append, List.nil_append]; exact rfl) ?_
  refine zac ?_
  refine zab rfl rfl rfl (op_ldm rfl tb29 (ev1 rfl) rfl rfl) ?_
  refine zab rfl rfl rfl (op_fa rfl fo26_0 (ev1 rfl)) ?_
  refine zab rfl rfl rfl (op_ldo rfl tb3 (ev1 rfl) rfl rfl) ?_
  refine zab rfl rfl rfl (op_fa rfl fo26_1 (ev1 rfl)) ?_
  refine zab rfl rfl rfl (op_ldo rfl tb3 (ev1 rfl) rfl rfl) ?_
  refine zab rfl rfl rfl (zai [] [] [] rfl (ev1 rfl) (ec (ev1 rfl) (ec (ev1 rfl) (ec (ev1 rfl) en))) rfl rfl (at_d w h ds ts hr hc p.x p.y) rfl rfl rfl rfl rfl rfl) ?_
  refine zab rfl rfl rfl (zad (.inl rfl) (ev1 rfl)) ?_
  refine zab rfl rfl rfl ((op_ext rfl (ev1 rfl) rfl).cast (d' := .val (.agg (c4 (getC w ts p.x p.y)).toArray)) (by rw [if_pos ho])) ?_
  refine zab rfl rfl rfl (op_ext rfl (ev1 rfl) rfl) ?_
  refine zaj rfl rfl rfl (op_alloc 3 rfl zr44 rfl) (by simp only [upd, zaa, za]; exact rfl) ?_
  refine walk_s rfl rfl (op_stwa rfl tb44 (ev1 rfl) (ev1 rfl) rfl rfl rfl rfl) (by simp only [upd, zaa, za]; exact rfl) ?_
  refine zab rfl rfl rfl (zad (.inr rfl) (ev1 rfl)) ?_
  refine zae ?_
  refine zaf ?_
  refine zac ?_
  refine zab rfl rfl rfl (op_mkf rfl en (ec (ev1 rfl) (ec (ev1 rfl) (ec (ev1 rfl) en)))) ?_
  refine zab rfl rfl rfl (zad (.inr rfl) (ev1 rfl)) ?_
  refine zae ?_
  refine dwp_ret ?_
  refine kend [0, 3, 2] (rs1 rfl (rv_t rfl)) rfl rfl ?_ ⟨rfl, rfl, rfl, trivial⟩
  rfl
end Go.Proofs.YtfnhckildfbikaaGreat
namespace Go.Proofs.YtfnhckildfbikaaGreat
set_option maxRecDepth 4000
set_option linter.unusedVariables false
set_option linter.unusedSimpArgs false
open Go.RowKit
attribute [local irreducible] zFD srL goF bfsF
theorem fo115_2 : fdO Tryz.prog 115 2 = some 1025 := by kernel_rfl
theorem tb75 : tyB Tryz.prog 75 = some (false, 1) := by kernel_rfl
theorem tb78 : tyB Tryz.prog 78 = some (false, 1) := by kernel_rfl
noncomputable def gonA : Code := rfA (pth [1, 1, 0] (bodyOf Tryz.f78))
noncomputable def gonB : Code := rfB (pth [1, 1, 0] (bodyOf Tryz.f78))
set_option maxRecDepth 4000 in
set_option maxHeartbeats 1000000 in
theorem goRound_y (w h : Int) (ds : List D) (ts : List TL) (hr : RowOk ds ts) (hc : CvOk w h ts) (hg : tsRng ts) (p : P2) (hp : onS w h p.x p.y = true) (c : C4) (hcr : c.rng) (tol : Int) (ht : 0 ≤ tol) (f : FD) (k : Nat) (q : List P2) (hq : q.length ≤ 5000) (hf : 0 < f.at p ∧ f.at p ≤ 4000) (n : P2) (hn : onS w h n.x n.y = true) (h1 : f.has n = false) (h2 : nearP w ts tol c n = true) : DRound Tryz.prog 0 [.val (.agg #[.int .i64 n.x, .int .i64 n.y])] [.lp 37 [(3, .loc 1 0), (4, .loc 2 0), (5, .loc 3 0)] #[10] gonA gonB .ready none, .mix 75 [.loc 4 0], .flat 26 [.int .i64 p.x, .int .i64 p.y], .mix 78 [.fn (.func 79) [] [.loc 6 0, .loc 7 0, .loc 8 0]], .mix 115 (srL (cvD w h ds) (f).l (.farr 5 (k))), .fam (fmQ (k) (q)), .mix 29 [cvD w h ds], .flat 44 (c4 c), .flat 3 [.int .i64 tol]] true [.lp 37 [(3, .loc 1 0), (4, .loc 2 0), (5, .loc 3 0)] #[10] gonA gonB .ready none, .mix 75 [.loc 4 0], .flat 26 [.int .i64 p.x, .int .i64 p.y], .mix 78 [.fn (.func 79) [] [.loc 6 0, .loc 7 0, .loc 8 0]], .mix 115 (srL (cvD w h ds) ((f.put n (f.at p + 1))).l (.farr 5 ((k + 1)))), .fam (fmQ ((k + 1)) ((q ++ [n]))), .mix 29 [cvD w h ds], .flat 44 (c4 c), .flat 3 [.int .i64 tol]] := by
  have hpi := onP_in hc.may p hp
  have hni := onP_in hc.may n hn
  refine dround_go 9 rfl rfl (by simp) rfl rfl fun s0 hs0 => ?_
  refine zah 1 (by simp only [holes, List.cons_append, List.nil_append]; exact rfl) ?_
  refine zac ?_
  refine zaj rfl rfl rfl (op_alloc 9 rfl zr26 rfl) (by simp only [upd, zaa, za]; exact rfl) ?_
  refine walk_s rfl rfl (op_stwa rfl tb26 (ev1 rfl) (ev1 rfl) rfl rfl rfl rfl) (by simp only [upd, zaa, za]; exact rfl) ?_
  refine zae ?_
  refine ⟨rfl, ?_⟩
  simp only [zaa, za]
  refine zak ?_
  refine zaf ?_
  refine zac ?_
  refine zab rfl rfl rfl (op_ldm rfl tb75 (ev1 rfl) rfl rfl) ?_
  refine zab rfl rfl rfl (op_ldw rfl tb26 (ev1 rfl) rfl rfl) ?_
  refine zaj rfl rfl rfl (zai [4, 5] [] [] rfl (ev1 rfl) (ec (ev1 rfl) (ec (ev1 rfl) en)) rfl (by exact mfits _ _ ⟨zam rfl rfl rfl, rfl, trivial⟩) (has_s w h ds f k q n hni) rfl rfl rfl (by exact (wrc (sb_srx rfl rfl) (wrc rfl rfl))) rfl rfl) (by simp only [upd, zaa, za]; exact rfl) ?_
  refine zab rfl rfl rfl (op_not rfl (ev1 rfl)) ?_
  refine zab rfl rfl rfl (zad (.inl rfl) (ev1 rfl)) ?_
  refine walk_gr (gd_t rfl rfl rfl) rfl rfl rfl (op_ldm rfl tb78 (ev1 rfl) rfl rfl) ?_
  refine walk_gr (gd_t rfl rfl rfl) rfl rfl rfl (op_ldw rfl tb26 (ev1 rfl) rfl rfl) ?_
  refine walk_gr (gd_t rfl rfl rfl) rfl rfl rfl (zai [] [6, 7, 8] [] rfl (ev2 rfl) (ec (ev2 rfl) en) rfl rfl (like1_v w h ds ts hr hc hg n c hcr tol ht hn) rfl rfl rfl rfl rfl rfl) ?_
  refine zab rfl rfl rfl (op_and rfl (ev1 rfl) (ev3 rfl id)) ?_
  refine zae ?_
  refine dwp_if_t rfl (by rw [h1, h2]; rfl) ?_
  refine zaf ?_
  refine dwp_draw [([1], []), ([9], []), ([1], []), ([2], []), ([4, 5], [4, 5]), ([], []), ([4, 5], [4, 5])] mixed (by kernel_rfl) ?_
  refine zag rfl rfl (op_ldm rfl tb75 (ev1 rfl) rfl rfl) ?_
  refine zag rfl rfl (op_ldw rfl tb26 (ev1 rfl) rfl rfl) ?_
  refine zag rfl rfl (op_ldm rfl tb75 (ev1 rfl) rfl rfl) ?_
  refine zag rfl rfl (op_ldw rfl tb26 (ev1 rfl) rfl rfl) ?_
  refine lex_w rfl rfl (zai [4, 5] [] [] rfl (ev1 rfl) (ec (ev1 rfl) (ec (ev1 rfl) en)) rfl (by exact mfits _ _ ⟨zam rfl rfl rfl, rfl, trivial⟩) (steps_s w h ds f k q p hpi (by omega)) rfl rfl rfl (by exact (wrc (sb_srx rfl rfl) (wrc rfl rfl))) rfl rfl) rfl (by simp only [upd, zaa, za]; exact rfl) ?_
  refine zag rfl rfl ((op_add' rfl (ev1 rfl) (ev1 rfl) (fun _ => IntWalk.i64_in _ (by omega))).cast (d' := .val (.int .i64 (f.at p : Int))) (by rw [D.val.injEq, Value.int.injEq]; exact ⟨rfl, by omega⟩)) ?_
  refine lex_w rfl rfl (zai [4, 5] [] [] rfl (ev1 rfl) (ec (ev1 rfl) (ec (ev1 rfl) (ec (ev1 rfl) en))) rfl (by exact mfits _ _ ⟨zam rfl rfl rfl, rfl, trivial⟩) (meet_d w h ds f k q n (f.at p) hni (by omega)) rfl rfl rfl (by exact (wrc (sb_srx rfl rfl) (wrc rfl rfl))) rfl rfl) rfl (by simp only [upd, zaa, za]; exact rfl) ?_
  refine lex_nil ?_
  refine zah 2 (by simp only [holes, List.cons_append, List.nil_append]; exact rfl) ?_
  refine dwp_draw [([1], []), ([1], []), ([], []), ([], []), ([4], []), ([9], []), ([], []), ([5, 10, 11], [5, 10, 11]), ([], []), ([], []), ([4], [4])] mixed (by kernel_rfl) ?_
  refine zag rfl rfl (op_ldm rfl tb75 (ev1 rfl) rfl rfl) ?_
  refine zag rfl rfl (op_ldm rfl tb75 (ev1 rfl) rfl rfl) ?_
  refine zag rfl rfl (op_nc rfl (ev1 rfl) (fun s v h => by cases h; exact ⟨_, rfl⟩)) ?_
  refine zag rfl rfl (op_fa rfl fo115_2 (ev1 rfl)) ?_
  refine zag rfl rfl (op_ldm rfl tb55 (ev1 rfl) rfl (srL_q (by rw [FD.h]))) ?_
  refine zag rfl rfl (op_ldw rfl tb26 (ev1 rfl) rfl rfl) ?_
  refine zag rfl rfl (op_bs (ps := [(0, .tmp 32)]) rfl sl55 zr26 rfl (vc (ev1 rfl) vn) rfl (by decide) (by decide)) ?_
  refine lex_w rfl rfl ((op_appFu (j1 := 10) (j2 := 11) rfl rfl sl55 zr26 rfl (ev1 rfl) (ev1 rfl) rfl (fmQ_at _ _) rfl rfl rfl (by decide) (fun _ => rfl) (fun _ => ⟨by omega, by omega⟩))) rfl (by simp only [upd, zaa, za]; exact rfl) ?_
  refine zag rfl rfl (op_nc rfl (ev1 rfl) (fun s v h => by cases h; exact ⟨_, rfl⟩)) ?_
  refine zag rfl rfl (op_fa rfl fo115_2 (ev1 rfl)) ?_
  refine lex_s rfl rfl (op_stmq rfl tb55 (ev1 rfl) (ev1 rfl) (fun s v h => by cases h <;> exact ⟨rfl, rfl⟩) rfl (srF_qlt) (srL_setq (by rw [FD.h]))) rfl (by simp only [upd, zaa, za]; exact rfl) ?_
  refine lex_nil ?_
  refine ⟨by first | rfl | assumption | simp_all, rfl, [0, 1, 2, 3, 4, 5, 6, 7, 8], rfl, ⟨rfl, rfl, rfl, rfl, zam rfl rfl (by rw [fmQ_len]; rfl), congrArg (fun B => some (Blk.fam B)) (fmQ_add k q n), rfl, rfl, rfl, trivial⟩⟩
set_option maxRecDepth 4000 in
set_option maxHeartbeats 1000000 in
theorem goRound_n (w h : Int) (ds : List D) (ts : List TL) (hr : RowOk ds ts) (hc : CvOk w h ts) (hg : tsRng ts) (p : P2) (hp : onS w h p.x p.y = true) (c : C4) (hcr : c.rng) (tol : Int) (ht : 0 ≤ tol) (f : FD) (k : Nat) (q : List P2) (hq : q.length ≤ 5000) (hf : 0 < f.at p ∧ f.at p ≤ 4000) (n : P2) (hn : onS w h n.x n.y = true) (h1 : f.has n = true ∨ nearP w ts tol c n = false) : DRound Tryz.prog 0 [.val (.agg #[.int .i64 n.x, .int .i64 n.y])] [.lp 37 [(3, .loc 1 0), (4, .loc 2 0), (5, .loc 3 0)] #[10] gonA gonB .ready none, .mix 75 [.loc 4 0], .flat 26 [.int .i64 p.x, .int .i64 p.y], .mix 78 [.fn (.func 79) [] [.loc 6 0, .loc 7 0, .loc 8 0]], .mix 115 (srL (cvD w h ds) (f).l (.farr 5 (k))), .fam (fmQ (k) (q)), .mix 29 [cvD w h ds], .flat 44 (c4 c), .flat 3 [.int .i64 tol]] true [.lp 37 [(3, .loc 1 0), (4, .loc 2 0), (5, .loc 3 0)] #[10] gonA gonB .ready none, .mix 75 [.loc 4 0], .flat 26 [.int .i64 p.x, .int .i64 p.y], .mix 78 [.fn (.func 79) [] [.loc 6 0, .loc 7 0, .loc 8 0]], .mix 115 (srL (cvD w h ds) (f).l (.farr 5 (k))), .fam (fmQ (k) (q)), .mix 29 [cvD w h ds], .flat 44 (c4 c), .flat 3 [.int .i64 tol]] := by
  have hpi := onP_in hc.may p hp
  have hni := onP_in hc.may n hn
  refine dround_go 9 rfl rfl (by simp) rfl rfl fun s0 hs0 => ?_
  refine zah 1 (by simp only [holes, List.cons_append, List.nil_append]; exact rfl) ?_
  refine zac ?_
  refine zaj rfl rfl rfl (op_alloc 9 rfl zr26 rfl) (by simp only [upd, zaa, za]; exact rfl) ?_
  refine walk_s rfl rfl (op_stwa rfl tb26 (ev1 rfl) (ev1 rfl) rfl rfl rfl rfl) (by simp only [upd, zaa, za]; exact rfl) ?_
  refine zae ?_
  refine ⟨rfl, ?_⟩
  simp only [zaa, za]
  refine zak ?_
  refine zaf ?_
  refine zac ?_
  refine zab rfl rfl rfl (op_ldm rfl tb75 (ev1 rfl) rfl rfl) ?_
  refine zab rfl rfl rfl (op_ldw rfl tb26 (ev1 rfl) rfl rfl) ?_
  refine zaj rfl rfl rfl (zai [4, 5] [] [] rfl (ev1 rfl) (ec (ev1 rfl) (ec (ev1 rfl) en)) rfl (by exact mfits _ _ ⟨zam rfl rfl rfl, rfl, trivial⟩) (has_s w h ds f k q n hni) rfl rfl rfl (by exact (wrc (sb_srx rfl rfl) (wrc rfl rfl))) rfl rfl) (by simp only [upd, zaa, za]; exact rfl) ?_
  refine zab rfl rfl rfl (op_not rfl (ev1 rfl)) ?_
  refine zab rfl rfl rfl (zad (.inl rfl) (ev1 rfl)) ?_
  refine walk_gr (gd_t rfl rfl rfl) rfl rfl rfl (op_ldm rfl tb78 (ev1 rfl) rfl rfl) ?_
  refine walk_gr (gd_t rfl rfl rfl) rfl rfl rfl (op_ldw rfl tb26 (ev1 rfl) rfl rfl) ?_
  refine walk_gr (gd_t rfl rfl rfl) rfl rfl rfl (zai [] [6, 7, 8] [] rfl (ev2 rfl) (ec (ev2 rfl) en) rfl rfl (like1_v w h ds ts hr hc hg n c hcr tol ht hn) rfl rfl rfl rfl rfl rfl) ?_
  refine zab rfl rfl rfl (op_and rfl (ev1 rfl) (ev3 rfl id)) ?_
  refine zae ?_
  refine dwp_if_f rfl (by rcases h1 with h1 | h1 <;> rw [h1] <;> simp) ?_
  refine zal ?_
  refine ⟨by first | rfl | assumption | simp_all, rfl, [0, 1, 2, 3, 4, 5, 6, 7, 8], rfl, ⟨rfl, rfl, rfl, rfl, zam rfl rfl rfl, rfl, rfl, rfl, rfl, trivial⟩⟩
theorem goRound (w h : Int) (ds : List D) (ts : List TL) (hr : RowOk ds ts) (hc : CvOk w h ts) (hg : tsRng ts) (p : P2) (hp : onS w h p.x p.y = true) (c : C4) (hcr : c.rng) (tol : Int) (ht : 0 ≤ tol) (f : FD) (k : Nat) (q : List P2) (hq : q.length ≤ 5000) (hf : 0 < f.at p ∧ f.at p ≤ 4000) (n : P2) (hn : onS w h n.x n.y = true) : DRound Tryz.prog 0 [.val (.agg #[.int .i64 n.x, .int .i64 n.y])] [.lp 37 [(3, .loc 1 0), (4, .loc 2 0), (5, .loc 3 0)] #[10] gonA gonB .ready none, .mix 75 [.loc 4 0], .flat 26 [.int .i64 p.x, .int .i64 p.y], .mix 78 [.fn (.func 79) [] [.loc 6 0, .loc 7 0, .loc 8 0]], .mix 115 (srL (cvD w h ds) (f).l (.farr 5 (k))), .fam (fmQ (k) (q)), .mix 29 [cvD w h ds], .flat 44 (c4 c), .flat 3 [.int .i64 tol]] true [.lp 37 [(3, .loc 1 0), (4, .loc 2 0), (5, .loc 3 0)] #[10] gonA gonB .ready none, .mix 75 [.loc 4 0], .flat 26 [.int .i64 p.x, .int .i64 p.y], .mix 78 [.fn (.func 79) [] [.loc 6 0, .loc 7 0, .loc 8 0]], .mix 115 (srL (cvD w h ds) ((visF (nearP w ts tol c) (f.at p + 1) (f, q) n).1).l (.farr 5 (k + (visF (nearP w ts tol c) (f.at p + 1) (f, q) n).2.length - q.length))), .fam (fmQ (k + (visF (nearP w ts tol c) (f.at p + 1) (f, q) n).2.length - q.length) ((visF (nearP w ts tol c) (f.at p + 1) (f, q) n).2)), .mix 29 [cvD w h ds], .flat 44 (c4 c), .flat 3 [.int .i64 tol]] := by
  by_cases h1 : f.has n = true
  · rw [vis_no1 (s := (f, q)) h1, show k + q.length - q.length = k by omega]; exact goRound_n w h ds ts hr hc hg p hp c hcr tol ht f k q hq hf n hn (.inl h1)
  · by_cases h2 : nearP w ts tol c n = true
    · rw [vis_yes (s := (f, q)) (by simpa using h1) h2, show k + (q ++ [n]).length - q.length = k + 1 by rw [List.length_append]; simp; omega]; exact goRound_y w h ds ts hr hc hg p hp c hcr tol ht f k q hq hf n hn (by simpa using h1) h2
    · rw [vis_no2 (s := (f, q)) (by simpa using h2), show k + q.length - q.length = k by omega]; exact goRound_n w h ds ts hr hc hg p hp c hcr tol ht f k q hq hf n hn (.inr (by simpa using h2))
end Go.Proofs.YtfnhckildfbikaaGreat
namespace Go.Proofs.YtfnhckildfbikaaGreat
set_option maxRecDepth 4000
set_option linter.unusedVariables false
set_option linter.unusedSimpArgs false
open Go.RowKit
attribute [local irreducible] zFD srL goF bfsF
theorem av57 : arV Tryz.prog 57 = some (4, 2) := by kernel_rfl
theorem fo115_0 : fdO Tryz.prog 115 0 = some 0 := by kernel_rfl
theorem vis_fst {near : P2 → Bool} {v : Nat} (f : FD) (q q' : List P2) (n : P2) : (visF near v (f, q ++ q') n).1 = (visF near v (f, q') n).1 := by
  unfold visF
  split <;> rfl
theorem vis_app {near : P2 → Bool} {v : Nat} (f : FD) (q q' : List P2) (n : P2) : (visF near v (f, q ++ q') n).2 = q ++ (visF near v (f, q') n).2 := by
  unfold visF
  split
  · exact List.append_assoc ..
  · rfl
theorem vis_cnt {near : P2 → Bool} {v : Nat} (f : FD) (k : Nat) (q q' : List P2) (n : P2) : k + q'.length + (visF near v (f, q ++ q') n).2.length - (q ++ q').length = k + (visF near v (f, q') n).2.length := by
  rw [vis_app, List.length_append, List.length_append]
  omega
def spK (On near : P2 → Bool) : Nat → Nat → FD → List P2 → Nat
  | 0, K, _, _ => K
  | _ + 1, K, _, [] => K
  | n + 1, K, f, p :: r => spK On near n (K + 1 + (goF On near f p).2.length) (goF On near f p).1 (r ++ (goF On near f p).2)
theorem spK_nil (On near : P2 → Bool) (n K : Nat) (f : FD) : spK On near n K f [] = K := by cases n <;> rfl
structure SpI (On near : P2 → Bool) (T : FD) (KT : Nat) (x : FD × List P2 × Nat) : Prop where
  res : bfsF On near (zrF x.1 + x.2.1.length) x.1 x.2.1 = T
  cnt : spK On near (zrF x.1 + x.2.1.length) x.2.2 x.1 x.2.1 = KT
  mem : ∀ q ∈ x.2.1, On q = true ∧ 0 < x.1.at q ∧ x.1.at q + (zrF x.1 + x.2.1.length) ≤ 1026
def spF (On near : P2 → Bool) (f : FD) (p : P2) : FD := bfsF On near (zrF (f.put p 1) + 1) (f.put p 1) [p]
def spN (On near : P2 → Bool) (K : Nat) (f : FD) (p : P2) : Nat := spK On near (zrF (f.put p 1) + 1) (K + 1) (f.put p 1) [p]
theorem SpI.start {On near : P2 → Bool} (hOn : ∀ p, On p = true → inF32 p) (K : Nat) {f : FD} {p : P2} (hp : On p = true) (h0 : f.at p = 0) : SpI On near (spF On near f p) (spN On near K f p) (f.put p 1, [p], K + 1) := by
  refine ⟨rfl, rfl, fun q hq => ?_⟩
  obtain rfl := List.mem_singleton.1 hq
  have h1 : (f.put q 1).at q = 1 := by rw [FD.put_at (hOn _ hp) (hOn _ hp), if_pos rfl]
  have h2 := zrF_put (v := 1) (hOn _ hp) h0 (by omega)
  have h3 := zrF_le f
  refine ⟨hp, by show 0 < (f.put q 1).at q; omega, ?_⟩
  show (f.put q 1).at q + (zrF (f.put q 1) + 1) ≤ 1026
  omega
theorem SpI.step {On near : P2 → Bool} (hOn : ∀ p, On p = true → inF32 p) {T : FD} {KT K : Nat} {f : FD} {p : P2} {r : List P2} (h : SpI On near T KT (f, p :: r, K)) :
    SpI On near T KT ((goF On near f p).1, r ++ (goF On near f p).2, K + 1 + (goF On near f p).2.length) ∧ zrF (goF On near f p).1 + (r ++ (goF On near f p).2).length < zrF f + (p :: r).length := by
  have hz := goF_zr (near := near) hOn f p
  have hm : zrF (goF On near f p).1 + (r ++ (goF On near f p).2).length + 1 = zrF f + (p :: r).length := by rw [List.length_append, List.length_cons]; omega
  obtain ⟨hop, hpp, hpb⟩ := h.mem p (List.mem_cons_self ..)
  have hpb : f.at p + (zrF f + (p :: r).length) ≤ 1026 := hpb
  refine ⟨⟨?_, ?_, fun q hq => ?_⟩, by omega⟩
  · have := h.res
    rw [← bfs_step hOn]
    exact this
  · have := h.cnt
    show spK On near (zrF (goF On near f p).1 + (r ++ (goF On near f p).2).length) _ _ _ = KT
    rw [← this]
    show _ = spK On near (zrF f + (p :: r).length) K f (p :: r)
    rw [← hm, spK]
  · show On q = true ∧ 0 < (goF On near f p).1.at q ∧ (goF On near f p).1.at q + (zrF (goF On near f p).1 + (r ++ (goF On near f p).2).length) ≤ 1026
    rcases List.mem_append.1 hq with hq | hq
    · obtain ⟨g1, g2, g3⟩ := h.mem q (List.mem_cons_of_mem _ hq)
      have g3 : f.at q + (zrF f + (p :: r).length) ≤ 1026 := g3
      have g2 : 0 < f.at q := g2
      rw [goF_at hOn g1, if_neg (by omega)]
      exact ⟨g1, g2, by omega⟩
    · rw [goF_new hOn, List.mem_filter, nb_iff] at hq
      obtain ⟨⟨g1, g2⟩, g3⟩ := hq
      simp only [Bool.and_eq_true, decide_eq_true_eq] at g3
      rw [goF_at hOn g2, if_pos ⟨nb_iff.2 ⟨g1, g2⟩, g3⟩]
      exact ⟨g2, by omega, by omega⟩
theorem SpI.done {On near : P2 → Bool} {T : FD} {KT K : Nat} {f : FD} (h : SpI On near T KT (f, [], K)) : f = T ∧ K = KT :=
  ⟨(bfs_nil ..).symm.trans h.res, (spK_nil ..).symm.trans h.cnt⟩
theorem SpI.bd {On near : P2 → Bool} {T : FD} {KT K : Nat} {f : FD} {p : P2} {r : List P2} (h : SpI On near T KT (f, p :: r, K)) : On p = true ∧ (0 < f.at p ∧ f.at p ≤ 4000) ∧ r.length ≤ 4000 := by
  obtain ⟨h1, h2, h3⟩ := h.mem p (List.mem_cons_self ..)
  have h3 : f.at p + (zrF f + (p :: r).length) ≤ 1026 := h3
  have h2 : 0 < f.at p := h2
  rw [List.length_cons] at h3
  exact ⟨h1, ⟨h2, by omega⟩, by omega⟩
theorem que_head {G : List Value} {pp : Nat} (hG : G.length = pp * 2) (p : P2) (r : List P2) : ((G ++ (p :: r).flatMap p2).drop ((pp + 0) * 2)).take 2 = p2 p := by
  rw [Nat.add_zero, ← hG, List.drop_left]
  rfl
theorem que_tail {G : List Value} {pp : Nat} (hG : G.length = pp * 2) (p : P2) (r : List P2) : (G ++ (p :: r).flatMap p2).drop ((pp + 1) * 2) = r.flatMap p2 := by
  rw [Nat.add_mul, ← hG, Nat.one_mul, ← List.drop_drop, List.drop_left]
  rfl
theorem goRoundK (w h : Int) (ds : List D) (ts : List TL) (hr : RowOk ds ts) (hc : CvOk w h ts) (hg : tsRng ts) (p : P2) (hp : onS w h p.x p.y = true) (c : C4) (hcr : c.rng) (tol : Int) (ht : 0 ≤ tol) (f : FD) (k : Nat) (q : List P2) (hq : q.length ≤ 4000) (hf : 0 < f.at p ∧ f.at p ≤ 4000) (i : Nat) (hi : i < (adjL p).length) (hoo : onP w h (adjL p)[i] = true) : DRound Tryz.prog 0 [.val (.agg (p2 (adjL p)[i]).toArray)] [.lp 37 [(3, .loc 1 0), (4, .loc 2 0), (5, .loc 3 0)] #[10] gonA gonB .ready none, .mix 75 [.loc 4 0], .flat 26 [.int .i64 p.x, .int .i64 p.y], .mix 78 [.fn (.func 79) [] [.loc 6 0, .loc 7 0, .loc 8 0]], .mix 115 (srL (cvD w h ds) ((goK (onP w h) (nearP w ts tol c) f p i).1).l (.farr 5 (k + (goK (onP w h) (nearP w ts tol c) f p i).2.length))), .fam (fmQ (k + (goK (onP w h) (nearP w ts tol c) f p i).2.length) (q ++ (goK (onP w h) (nearP w ts tol c) f p i).2)), .mix 29 [cvD w h ds], .flat 44 (c4 c), .flat 3 [.int .i64 tol]] true [.lp 37 [(3, .loc 1 0), (4, .loc 2 0), (5, .loc 3 0)] #[10] gonA gonB .ready none, .mix 75 [.loc 4 0], .flat 26 [.int .i64 p.x, .int .i64 p.y], .mix 78 [.fn (.func 79) [] [.loc 6 0, .loc 7 0, .loc 8 0]], .mix 115 (srL (cvD w h ds) ((goK (onP w h) (nearP w ts tol c) f p (i + 1)).1).l (.farr 5 (k + (goK (onP w h) (nearP w ts tol c) f p (i + 1)).2.length))), .fam (fmQ (k + (goK (onP w h) (nearP w ts tol c) f p (i + 1)).2.length) (q ++ (goK (onP w h) (nearP w ts tol c) f p (i + 1)).2)), .mix 29 [cvD w h ds], .flat 44 (c4 c), .flat 3 [.int .i64 tol]] := by
  have hal := adj_len p
  have hold := goK_old (On := onP w h) (onP_in hc.may) (near := nearP w ts tol c) (f := f) (p := p) (i := i) hp hf.1
  have hgl := goK_len (On := onP w h) (near := nearP w ts tol c) f p i
  have hh := goRound w h ds ts hr hc hg p hp c hcr tol ht (goK (onP w h) (nearP w ts tol c) f p i).1 (k + (goK (onP w h) (nearP w ts tol c) f p i).2.length) (q ++ (goK (onP w h) (nearP w ts tol c) f p i).2) (by rw [List.length_append]; omega) (by rw [hold]; exact hf) _ hoo
  rw [hold, vis_cnt, vis_app, vis_fst] at hh
  rw [goK_yes hi hoo]
  exact hh
set_option maxRecDepth 4000 in
set_option maxHeartbeats 1000000 in
theorem nbs_go (w h : Int) (ds : List D) (ts : List TL) (hr : RowOk ds ts) (hc : CvOk w h ts) (hg : tsRng ts) (p : P2) (hp : onS w h p.x p.y = true) (c : C4) (hcr : c.rng) (tol : Int) (ht : 0 ≤ tol) (f : FD) (k : Nat) (q : List P2) (hq : q.length ≤ 4000) (hf : 0 < f.at p ∧ f.at p ≤ 4000) : DFun Tryz.prog 93 [.yld 0, .loc 9 0, .loc 10 0] [.lp 37 [(3, .loc 1 0), (4, .loc 2 0), (5, .loc 3 0)] #[10] gonA gonB .ready none, .mix 75 [.loc 4 0], .flat 26 [.int .i64 p.x, .int .i64 p.y], .mix 78 [.fn (.func 79) [] [.loc 6 0, .loc 7 0, .loc 8 0]], .mix 115 (srL (cvD w h ds) (f).l (.farr 5 (k))), .fam (fmQ (k) (q)), .mix 29 [cvD w h ds], .flat 44 (c4 c), .flat 3 [.int .i64 tol], .flat 57 ((adjL p).flatMap p2), .mix 75 [.loc 4 0]] (.tup []) [.lp 37 [(3, .loc 1 0), (4, .loc 2 0), (5, .loc 3 0)] #[10] gonA gonB .ready none, .mix 75 [.loc 4 0], .flat 26 [.int .i64 p.x, .int .i64 p.y], .mix 78 [.fn (.func 79) [] [.loc 6 0, .loc 7 0, .loc 8 0]], .mix 115 (srL (cvD w h ds) ((goK (onP w h) (nearP w ts tol c) f p 4).1).l (.farr 5 (k + (goK (onP w h) (nearP w ts tol c) f p 4).2.length))), .fam (fmQ (k + (goK (onP w h) (nearP w ts tol c) f p 4).2.length) (q ++ (goK (onP w h) (nearP w ts tol c) f p 4).2)), .mix 29 [cvD w h ds], .flat 44 (c4 c), .flat 3 [.int .i64 tol], .flat 57 ((adjL p).flatMap p2), .mix 75 [.loc 4 0]] := by
  have hpi := onP_in hc.may p hp
  have hal := adj_len p
  refine zan (N := 32) 11 (by kernel_rfl) Tryz.func93 rfl rfl rfl (by simp only [fr0, Nat.zero_add, Nat.reduceAdd]; exact rfl) rfl fun s0 hs0 => ?_
  refine zaf ?_
  refine zac ?_
  refine zab rfl rfl rfl (op_ldw rfl tb57 (ev1 rfl) rfl rfl) ?_
  refine zab rfl rfl rfl (zad (.inl rfl) (ev1 rfl)) ?_
  refine zae ?_
  refine zak ?_
  refine dwp_loopS ⟨hs0, rfl⟩ (α := Nat) (fun i => [(9, .val (.int .i64 (i : Int)))]) [(0, _), (2, _), (8, _)] (fun i => [(4, .mix 115 (srL (cvD w h ds) ((goK (onP w h) (nearP w ts tol c) f p i).1).l (.farr 5 (k + (goK (onP w h) (nearP w ts tol c) f p i).2.length)))), (5, .fam (fmQ (k + (goK (onP w h) (nearP w ts tol c) f p i).2.length) (q ++ (goK (onP w h) (nearP w ts tol c) f p i).2)))]) [_, _, _, _, .hole, .hole, _, _, _, _, _] (fun i => i ≤ 4) (fun i => 4 - i) 0 [0, 1, 2, 3, 4, 5, 6, 7, 8, 9, 10] (Nat.zero_le _) rfl ⟨rfl, rfl, rfl, trivial⟩ ⟨rfl, trivial⟩ ⟨rfl, rfl, rfl, rfl, zam rfl rfl rfl, by rw [goK_zero, List.append_nil]; rfl, rfl, rfl, rfl, rfl, rfl, trivial⟩ ?_
  intro i hx
  simp only [upd, zaa, za, List.cons_append, List.nil_append]
  have hi0 := hx
  refine zaf ?_
  refine zac ?_
  refine zab rfl rfl rfl (op_lss rfl (ev1 rfl) (ev1 rfl)) ?_
  refine zae ?_
  refine zaf ?_
  refine dwp_cond rfl (fun c1 => ?_) (fun c1 => ?_)
  · try simp only [decide_eq_true_eq, decide_eq_false_iff_not, beq_iff_eq, bne_iff_ne, beq_eq_false_iff_ne, bne_eq_false_iff_eq, Bool.not_eq_true', Bool.not_eq_false', Bool.and_eq_true, Bool.or_eq_true, Bool.or_eq_false_iff, ne_eq, Decidable.not_not, Int.not_lt, Int.not_le] at c1
    refine zal ?_
    refine zaf ?_
    refine zak ?_
    refine zaf ?_
    have hi : i < (adjL p).length := by omega
    have had := adj_in hpi (List.getElem_mem hi)
    refine zah 1 (by simp only [holes, List.cons_append, List.nil_append]; exact rfl) ?_
    refine zac ?_
    refine zab rfl rfl rfl ((op_ixv (j := i) (zP2) rfl av57 (ev1 rfl) (ev1 rfl) (fun _ => rfl) (fun _ => by omega) (adj_len _) (fun _ => rfl)).wk (Wk.of_eq (d' := .val (.agg (p2 (adjL p)[i]).toArray)) (by rw [gD_at hi]))) ?_
    refine zaj rfl rfl rfl (op_alloc 11 rfl zr26 rfl) (by simp only [upd, zaa, za]; exact rfl) ?_
    refine walk_s rfl rfl (op_stwa rfl tb26 (ev1 rfl) (ev1 rfl) rfl rfl rfl rfl) (by simp only [upd, zaa, za]; exact rfl) ?_
    refine zae ?_
    refine zaf ?_
    refine zah 1 (by simp only [holes, List.cons_append, List.nil_append]; exact rfl) ?_
    refine dwp_draw [([10], []), ([], []), ([], []), ([4], []), ([], []), ([11], []), ([], []), ([11], []), ([], []), ([], []), ([], []), ([], []), ([12], [12]), ([12], [12]), ([], [])] mixed (by kernel_rfl) ?_
    refine zag rfl rfl (op_ldm rfl tb75 (ev1 rfl) rfl rfl) ?_
    refine zag rfl rfl (op_nc rfl (ev1 rfl) (fun s v h => by cases h; exact ⟨_, rfl⟩)) ?_
    refine zag rfl rfl (op_fa rfl fo115_0 (ev1 rfl)) ?_
    refine zag rfl rfl (op_ldm rfl tb29 (ev1 rfl) rfl (srL_0 rfl)) ?_
    refine zag rfl rfl (op_fa rfl fo26_0 (ev1 rfl)) ?_
    refine zag rfl rfl (op_ldo rfl tb3 (ev1 rfl) rfl rfl) ?_
    refine zag rfl rfl (op_fa rfl fo26_1 (ev1 rfl)) ?_
    refine zag rfl rfl (op_ldo rfl tb3 (ev1 rfl) rfl rfl) ?_
    refine zag rfl rfl (zai [] [] [] rfl (ev1 rfl) (ec (ev1 rfl) (ec (ev1 rfl) (ec (ev1 rfl) en))) rfl rfl (at_d w h ds ts hr hc (adjL p)[i].x (adjL p)[i].y) rfl rfl rfl rfl rfl rfl) ?_
    refine zag rfl rfl (zad (.inl rfl) (ev1 rfl)) ?_
    refine zag rfl rfl (op_ext rfl (ev1 rfl) rfl) ?_
    refine zag rfl rfl (op_ext rfl (ev1 rfl) rfl) ?_
    refine lex_w rfl rfl (op_alloc 12 rfl zr44 rfl) rfl (by simp only [upd, zaa, za]; exact rfl) ?_
    refine lex_s rfl rfl (op_stwa rfl tb44 (ev1 rfl) (ev1 rfl) rfl rfl rfl rfl) rfl (by simp only [upd, zaa, za]; exact rfl) ?_
    refine zag rfl rfl (zad (.inr rfl) (ev1 rfl)) ?_
    refine lex_nil ?_
    refine zaf ?_
    by_cases hoo : onP w h (adjL p)[i] = true
    · refine zac ?_
      refine zab rfl rfl rfl (zad (.inl rfl) (ev1 rfl)) ?_
      refine zab rfl rfl rfl ((zad (.inl rfl) (ev1 rfl)).cast (d' := .val (.bool true)) (by rw [show onS w h (adjL p)[i].x (adjL p)[i].y = true from hoo])) ?_
      refine walk_k (gd_t (b := true) rfl rfl rfl) rfl rfl rfl (zad (.inl rfl) (ev1 rfl)) (by simp only [upd, zaa, za]; exact rfl) ?_
      refine walk_k (gd_t (b := true) rfl rfl rfl) rfl rfl rfl (op_ldw rfl tb26 (ev1 rfl) rfl rfl) (by simp only [upd, zaa, za]; exact rfl) ?_
      refine walk_k (gd_t (b := true) rfl rfl rfl) rfl rfl rfl (op_y (i := 0) [0, 1, 2, 3, 4, 5, 6, 7, 8] [] [] rfl (ev2 rfl) (ec (ev2 rfl) en) rfl rfl (by exact mfits _ _ ⟨rfl, rfl, rfl, rfl, zam rfl rfl rfl, rfl, rfl, rfl, rfl, trivial⟩) (goRoundK w h ds ts hr hc hg p hp c hcr tol ht f k q hq hf i hi hoo) rfl rfl rfl (by exact (wrc rfl (wrc rfl (wrc rfl (wrc rfl (wrc (sb_srx rfl rfl) (wrc rfl (wrc rfl (wrc rfl (wrc rfl rfl)))))))))) rfl) (by simp only [upd, zaa, za]; exact rfl) ?_
      refine walk_k (gd_t (b := true) rfl rfl rfl) rfl rfl rfl ((op_not rfl (ev2 rfl)).cast (d' := .val (.bool false)) (by kernel_rfl)) (by simp only [upd, zaa, za]; exact rfl) ?_
      refine zab rfl rfl rfl ((op_and rfl (ev1 rfl) (ev3 rfl (fun _ => rfl))).cast (d' := .val (.bool false)) (by rfl)) ?_
      refine zae ?_
      refine dwp_if_f rfl (rfl) ?_
      refine zal ?_
      refine zac ?_
      refine zab rfl rfl rfl (op_add' rfl (ev1 rfl) (ev1 rfl) (fun _ => IntWalk.i64_in _ (by omega))) ?_
      refine zab rfl rfl rfl (zad (.inl rfl) (ev1 rfl)) ?_
      refine zae ?_
      refine ⟨i + 1, [0, 1, 2, 3, 4, 5, 6, 7, 8, 9, 10], by omega, by simp only []; omega, rfl, ⟨rfl, rfl, rfl, rfl, trivial⟩, ⟨rfl, rfl, rfl, rfl, zam rfl rfl rfl, rfl, rfl, rfl, rfl, rfl, rfl, trivial⟩⟩
    · have hoo : onP w h (adjL p)[i] = false := by simpa using hoo
      refine zac ?_
      refine zab rfl rfl rfl (zad (.inl rfl) (ev1 rfl)) ?_
      refine zab rfl rfl rfl ((zad (.inl rfl) (ev1 rfl)).cast (d' := .val (.bool false)) (by rw [show onS w h (adjL p)[i].x (adjL p)[i].y = false from hoo])) ?_
      refine walk_gr (gd_t (b := false) rfl rfl rfl) rfl rfl rfl (dop_never (d := .junk)) ?_
      refine walk_gr (gd_t (b := false) rfl rfl rfl) rfl rfl rfl (dop_never (d := .junk)) ?_
      refine walk_gr (gd_t (b := false) rfl rfl rfl) rfl rfl rfl (dop_never (d := .val (.bool false))) ?_
      refine walk_gr (gd_t (b := false) rfl rfl rfl) rfl rfl rfl (dop_never (d := .val (.bool false))) ?_
      refine zab rfl rfl rfl ((op_and rfl (ev1 rfl) (ev3 rfl id)).cast (d' := .val (.bool false)) (by rfl)) ?_
      refine zae ?_
      refine dwp_if_f rfl (rfl) ?_
      refine zal ?_
      refine zac ?_
      refine zab rfl rfl rfl (op_add' rfl (ev1 rfl) (ev1 rfl) (fun _ => IntWalk.i64_in _ (by omega))) ?_
      refine zab rfl rfl rfl (zad (.inl rfl) (ev1 rfl)) ?_
      refine zae ?_
      refine ⟨i + 1, [0, 1, 2, 3, 4, 5, 6, 7, 8, 9, 10], by omega, by simp only []; omega, rfl, ⟨rfl, rfl, rfl, rfl, trivial⟩, ⟨rfl, rfl, rfl, rfl, zam (by rw [goK_no hi hoo]) rfl (by rw [goK_no hi hoo]; rfl), by rw [goK_no hi hoo]; rfl, rfl, rfl, rfl, rfl, rfl, trivial⟩⟩
  · try simp only [decide_eq_true_eq, decide_eq_false_iff_not, beq_iff_eq, bne_iff_ne, beq_eq_false_iff_ne, bne_eq_false_iff_eq, Bool.not_eq_true', Bool.not_eq_false', Bool.and_eq_true, Bool.or_eq_true, Bool.or_eq_false_iff, ne_eq, Decidable.not_not, Int.not_lt, Int.not_le] at c1
    refine dwp_exit ?_
    obtain rfl : i = 4 := by omega
    refine kend [0, 1, 2, 3, 4, 5, 6, 7, 8, 9, 10] (res_none rfl) rfl rfl ?_ ⟨rfl, rfl, rfl, rfl, zam rfl rfl rfl, rfl, rfl, rfl, rfl, rfl, rfl, trivial⟩
    rfl
end Go.Proofs.YtfnhckildfbikaaGreat
namespace Go.Proofs.YtfnhckildfbikaaGreat
set_option maxRecDepth 4000
set_option linter.unusedVariables false
set_option linter.unusedSimpArgs false
open Go.RowKit
attribute [local irreducible] zFD srL goF bfsF
set_option maxRecDepth 4000 in
set_option maxHeartbeats 1000000 in
theorem goOn_k (w h : Int) (ds : List D) (ts : List TL) (hr : RowOk ds ts) (hc : CvOk w h ts) (hg : tsRng ts) (p : P2) (hp : onS w h p.x p.y = true) (c : C4) (hcr : c.rng) (tol : Int) (ht : 0 ≤ tol) (f : FD) (k : Nat) (q : List P2) (hq : q.length ≤ 4000) (hf : 0 < f.at p ∧ f.at p ≤ 4000) : DFun Tryz.prog 78 [.loc 0 0, .val (.agg #[.int .i64 p.x, .int .i64 p.y]), .fn (.func 79) [] [.loc 2 0, .loc 3 0, .loc 4 0]] [.mix 115 (srL (cvD w h ds) (f).l (.farr 1 (k))), .fam (fmQ (k) (q)), .mix 29 [cvD w h ds], .flat 44 (c4 c), .flat 3 [.int .i64 tol]] (.tup []) [.mix 115 (srL (cvD w h ds) ((goK (onP w h) (nearP w ts tol c) f p 4).1).l (.farr 1 (k + (goK (onP w h) (nearP w ts tol c) f p 4).2.length))), .fam (fmQ (k + (goK (onP w h) (nearP w ts tol c) f p 4).2.length) (q ++ (goK (onP w h) (nearP w ts tol c) f p 4).2)), .mix 29 [cvD w h ds], .flat 44 (c4 c), .flat 3 [.int .i64 tol]] := by
  have hpi := onP_in hc.may p hp
  refine zan (N := 37) 5 (by kernel_rfl) Tryz.func78 rfl rfl rfl (by simp only [fr0, Nat.zero_add, Nat.reduceAdd]; exact rfl) rfl fun s0 hs0 => ?_
  refine zaf ?_
  refine zah 3 (by simp only [holes, List.cons_append, List.nil_append]; exact rfl) ?_
  refine zac ?_
  refine zaj rfl rfl rfl (op_boxm 5 rfl (ev1 rfl) (fun s v h => by cases h <;> rfl) rfl) (by simp only [upd, zaa, za]; exact rfl) ?_
  refine zaj rfl rfl rfl (op_boxa 6 rfl (ev1 rfl) rfl) (by simp only [upd, zaa, za]; exact rfl) ?_
  refine zaj rfl rfl rfl (op_boxm 7 rfl (ev1 rfl) (fun s v h => by cases h <;> rfl) rfl) (by simp only [upd, zaa, za]; exact rfl) ?_
  refine zae ?_
  refine zaf ?_
  refine zah 2 (by simp only [holes, List.cons_append, List.nil_append]; exact rfl) ?_
  refine zac ?_
  refine zab rfl rfl rfl (op_ldm rfl tb75 (ev1 rfl) rfl rfl) ?_
  refine zab rfl rfl rfl (op_ldw rfl tb26 (ev1 rfl) rfl rfl) ?_
  refine zaj rfl rfl rfl (zai [0, 1] [] [8, 9] rfl (ev1 rfl) (ec (ev1 rfl) (ec (ev1 rfl) en)) rfl (by exact mfits _ _ ⟨zam rfl rfl rfl, rfl, trivial⟩) (nbs_d w h ds f k q p hpi) rfl rfl rfl (by exact (wrc (sb_srx rfl rfl) (wrc rfl (wrc rfl (wrc rfl rfl))))) rfl rfl) (by simp only [upd, zaa, za]; exact rfl) ?_
  refine zae ?_
  refine zak ?_
  refine dwp_hole ?_
  simp only [List.cons_append, List.nil_append]
  refine dwp_rf (FL := [(3, _), (4, _), (5, _)]) (st := .ready) (pe := none) [10, 5, 6, 7, 0, 1, 2, 3, 4, 8, 9] [] [] 10 rfl rfl (ev1 rfl) rfl (subF_lk ⟨rfl, rfl, rfl, trivial⟩) rfl rfl (by exact mfits _ _ ⟨rfl, rfl, rfl, rfl, zam rfl rfl rfl, rfl, rfl, rfl, rfl, rfl, rfl, trivial⟩) (nbs_go w h ds ts hr hc hg p hp c hcr tol ht f k q hq hf) rfl rfl rfl (by exact (wrc rfl (wrc rfl (wrc rfl (wrc rfl (wrc (sb_srx rfl rfl) (wrc rfl (wrc rfl (wrc rfl (wrc rfl (wrc rfl (wrc rfl rfl)))))))))))) rfl rfl rfl (by simp) (fun e => ?_) (fun c e => ?_)
  · simp only [upd, zaa, za]
    refine kend [0, 1, 2, 3, 4] (res_none rfl) rfl rfl ?_ ⟨zam rfl rfl rfl, rfl, rfl, rfl, rfl, trivial⟩
    rfl
  · cases e
theorem goOn_d (w h : Int) (ds : List D) (ts : List TL) (hr : RowOk ds ts) (hc : CvOk w h ts) (hg : tsRng ts) (p : P2) (hp : onS w h p.x p.y = true) (c : C4) (hcr : c.rng) (tol : Int) (ht : 0 ≤ tol) (f : FD) (k : Nat) (q : List P2) (hq : q.length ≤ 4000) (hf : 0 < f.at p ∧ f.at p ≤ 4000) : DFun Tryz.prog 78 [.loc 0 0, .val (.agg #[.int .i64 p.x, .int .i64 p.y]), .fn (.func 79) [] [.loc 2 0, .loc 3 0, .loc 4 0]] [.mix 115 (srL (cvD w h ds) (f).l (.farr 1 (k))), .fam (fmQ (k) (q)), .mix 29 [cvD w h ds], .flat 44 (c4 c), .flat 3 [.int .i64 tol]] (.tup []) [.mix 115 (srL (cvD w h ds) ((goF (onP w h) (nearP w ts tol c) f p).1).l (.farr 1 (k + (goF (onP w h) (nearP w ts tol c) f p).2.length))), .fam (fmQ (k + (goF (onP w h) (nearP w ts tol c) f p).2.length) (q ++ (goF (onP w h) (nearP w ts tol c) f p).2)), .mix 29 [cvD w h ds], .flat 44 (c4 c), .flat 3 [.int .i64 tol]] := by
  have hh := goOn_k w h ds ts hr hc hg p hp c hcr tol ht f k q hq hf
  rw [goK_end] at hh
  exact hh
set_option maxRecDepth 4000 in
set_option maxHeartbeats 1000000 in
theorem spread_d (w h : Int) (ds : List D) (ts : List TL) (hr : RowOk ds ts) (hc : CvOk w h ts) (hg : tsRng ts) (p : P2) (hp : onS w h p.x p.y = true) (c : C4) (hcr : c.rng) (tol : Int) (ht : 0 ≤ tol) (f : FD) (k : Nat) (h0 : f.at p = 0) : DFun Tryz.prog 47 [.loc 0 0, .val (.agg #[.int .i64 p.x, .int .i64 p.y]), .fn (.func 79) [] [.loc 2 0, .loc 3 0, .loc 4 0]] [.mix 115 (srL (cvD w h ds) (f).l (.farr 1 (k))), .fam (fmQ (k) (([] : List P2))), .mix 29 [cvD w h ds], .flat 44 (c4 c), .flat 3 [.int .i64 tol]] (.tup []) [.mix 115 (srL (cvD w h ds) ((spF (onP w h) (nearP w ts tol c) f p)).l (.farr 1 ((spN (onP w h) (nearP w ts tol c) k f p)))), .fam (fmQ ((spN (onP w h) (nearP w ts tol c) k f p)) (([] : List P2))), .mix 29 [cvD w h ds], .flat 44 (c4 c), .flat 3 [.int .i64 tol]] := by
  have hpi := onP_in hc.may p hp
  have hS := SpI.start (near := nearP w ts tol c) (onP_in hc.may) k hp h0
  refine zan (N := 57) 5 (by kernel_rfl) Tryz.func47 rfl rfl rfl (by simp only [fr0, Nat.zero_add, Nat.reduceAdd]; exact rfl) rfl fun s0 hs0 => ?_
  refine zaf ?_
  refine zah 1 (by simp only [holes, List.cons_append, List.nil_append]; exact rfl) ?_
  refine zac ?_
  refine zaj rfl rfl rfl (op_boxa 5 rfl (ev1 rfl) rfl) (by simp only [upd, zaa, za]; exact rfl) ?_
  refine zae ?_
  refine dwp_jumps (α := FD × List P2 × Nat) 0 rfl (fun x => [] ++ [(0, .loc 0 0), (2, .fn (.func 79) [] [.loc 2 0, .loc 3 0, .loc 4 0]), (6, .fn (.func 78) [.loc 0 0] [])]) (fun x => upd [.hole, .hole, .mix 29 [cvD w h ds], .flat 44 (c4 c), .flat 3 [.int .i64 tol]] [(0, .mix 115 (srL (cvD w h ds) (x.1).l (.farr 1 (x.2.2)))), (1, .fam (fmQ (x.2.2) (x.2.1)))]) (fun x => SpI (onP w h) (nearP w ts tol c) (spF (onP w h) (nearP w ts tol c) f p) (spN (onP w h) (nearP w ts tol c) k f p) x) (fun x => zrF x.1 + x.2.1.length) ?_ (fun x hx => ?_)
  · refine zaf ?_
    refine zac ?_
    refine zab rfl rfl rfl (zad (.inl rfl) (ev1 rfl)) ?_
    refine zab rfl rfl rfl (op_mkf rfl (ec (ev1 rfl) en) en) ?_
    refine zab rfl rfl rfl (zad (.inr rfl) (ev1 rfl)) ?_
    refine zae ?_
    refine zaf ?_
    refine zac ?_
    refine zab rfl rfl rfl (zad (.inl rfl) (ev1 rfl)) ?_
    refine zab rfl rfl rfl (op_ldw rfl tb26 (ev1 rfl) rfl rfl) ?_
    refine zaj rfl rfl rfl (zai [0, 1] [] [] rfl (ev1 rfl) (ec (ev1 rfl) (ec (ev1 rfl) (ec (ev1 rfl) en))) rfl (by exact mfits _ _ ⟨zam rfl rfl rfl, rfl, trivial⟩) (meet_d w h ds f k [] p 0 hpi (by omega)) rfl rfl rfl (by exact (wrc (sb_srx rfl rfl) (wrc rfl rfl))) rfl rfl) (by simp only [upd, zaa, za]; exact rfl) ?_
    refine zae ?_
    refine zaf ?_
    refine zah 2 (by simp only [holes, List.cons_append, List.nil_append]; exact rfl) ?_
    refine dwp_draw [([], []), ([], []), ([], []), ([], []), ([0], []), ([5], []), ([], []), ([1, 6, 7], [1, 6, 7]), ([], []), ([], []), ([0], [0])] mixed (by kernel_rfl) ?_
    refine zag rfl rfl (zad (.inl rfl) (ev1 rfl)) ?_
    refine zag rfl rfl (zad (.inl rfl) (ev1 rfl)) ?_
    refine zag rfl rfl (op_nc rfl (ev1 rfl) (fun s v h => by cases h; exact ⟨_, rfl⟩)) ?_
    refine zag rfl rfl (op_fa rfl fo115_2 (ev1 rfl)) ?_
    refine zag rfl rfl (op_ldm rfl tb55 (ev1 rfl) rfl (srL_q (by rw [FD.h]))) ?_
    refine zag rfl rfl (op_ldw rfl tb26 (ev1 rfl) rfl rfl) ?_
    refine zag rfl rfl (op_bs (ps := [(0, .tmp 18)]) rfl sl55 zr26 rfl (vc (ev1 rfl) vn) rfl (by decide) (by decide)) ?_
    refine lex_w rfl rfl ((op_appFu (j1 := 6) (j2 := 7) rfl rfl sl55 zr26 rfl (ev1 rfl) (ev1 rfl) rfl (fmQ_at _ _) rfl rfl rfl (by decide) (fun _ => rfl) (fun _ => ⟨by decide, by decide⟩))) rfl (by simp only [upd, zaa, za]; exact rfl) ?_
    refine zag rfl rfl (op_nc rfl (ev1 rfl) (fun s v h => by cases h; exact ⟨_, rfl⟩)) ?_
    refine zag rfl rfl (op_fa rfl fo115_2 (ev1 rfl)) ?_
    refine lex_s rfl rfl (op_stmq rfl tb55 (ev1 rfl) (ev1 rfl) (fun s v h => by cases h <;> exact ⟨rfl, rfl⟩) rfl (srF_qlt) (srL_setq (by rw [FD.h]))) rfl (by simp only [upd, zaa, za]; exact rfl) ?_
    refine lex_nil ?_
    refine zaf ?_
    refine dwp_label ?_
    refine zaf ?_
    refine dwp_eqB 1 (congrArg Blk.fam (fmQ_add k [] p)) rfl (by simp only [List.cons_append, List.nil_append, zaa, za]; exact rfl) ?_
    refine dwp_eqB 0 (congrArg (fun z => Blk.mix 115 (srL (cvD w h ds) (f.put p (0 + 1)).l (.farr 1 z))) (fmQ_len k [])) rfl (by simp only [List.cons_append, List.nil_append, zaa, za]; exact rfl) ?_
    have hb := hS.bd
    refine zac ?_
    refine zab rfl rfl rfl (zad (.inl rfl) (ev1 rfl)) ?_
    refine zab rfl rfl rfl (op_nc rfl (ev1 rfl) (fun s v h => by cases h; exact ⟨_, rfl⟩)) ?_
    refine zab rfl rfl rfl (op_fa rfl fo115_2 (ev1 rfl)) ?_
    refine zab rfl rfl rfl (op_ldm rfl tb55 (ev1 rfl) rfl (srL_q (by rw [FD.h]))) ?_
    refine zab rfl rfl rfl (op_lenFu rfl sl55 (ev1 rfl) rfl (fmQ_at _ _)) ?_
    refine zab rfl rfl rfl (op_gtr rfl (ev1 rfl) (ev1 rfl)) ?_
    refine zae ?_
    refine dwp_if_t rfl (rfl) ?_
    refine zaf ?_
    refine dwp_relS (j := 8) 0 rfl rfl (fmQ_at _ _) rfl (fmQ_set _ _) (by simp only [List.cons_append, List.nil_append, zaa, za]; exact rfl) ?_
    refine dwp_openS (j := 9) 0 rfl rfl rfl fun pp rr G hG => ?_
    simp only [List.cons_append, List.nil_append, zaa, za]
    refine zah 1 (by simp only [holes, List.cons_append, List.nil_append]; exact rfl) ?_
    refine zac ?_
    refine zab rfl rfl rfl (zad (.inl rfl) (ev1 rfl)) ?_
    refine zab rfl rfl rfl (op_nc rfl (ev1 rfl) (fun s v h => by cases h; exact ⟨_, rfl⟩)) ?_
    refine zab rfl rfl rfl (op_fa rfl fo115_2 (ev1 rfl)) ?_
    refine zab rfl rfl rfl (op_ldm rfl tb55 (ev1 rfl) rfl (srL_q (by rw [FD.h]))) ?_
    refine zab rfl rfl rfl (op_ixp (0) rfl sl55 (ev1 rfl) (ev1 rfl) (fun _ => rfl) (fun _ => by simp)) ?_
    refine zab rfl rfl rfl (op_ldra rfl tb26 (ev1 rfl) rfl (que_head hG p []) rfl) ?_
    refine zaj rfl rfl rfl (op_alloc 10 rfl zr26 rfl) (by simp only [upd, zaa, za]; exact rfl) ?_
    refine walk_s rfl rfl (op_stwa rfl tb26 (ev1 rfl) (ev1 rfl) rfl rfl rfl rfl) (by simp only [upd, zaa, za]; exact rfl) ?_
    refine zae ?_
    refine zaf ?_
    refine dwp_draw [([], []), ([], []), ([], []), ([], []), ([0], []), ([], []), ([], []), ([], []), ([0], []), ([], []), ([], []), ([], []), ([], []), ([0], []), ([], []), ([], []), ([], []), ([], []), ([0], [0])] mixed (by kernel_rfl) ?_
    refine zag rfl rfl (zad (.inl rfl) (ev1 rfl)) ?_
    refine zag rfl rfl (zad (.inl rfl) (ev1 rfl)) ?_
    refine zag rfl rfl (op_nc rfl (ev1 rfl) (fun s v h => by cases h; exact ⟨_, rfl⟩)) ?_
    refine zag rfl rfl (op_fa rfl fo115_2 (ev1 rfl)) ?_
    refine zag rfl rfl (op_ldm rfl tb55 (ev1 rfl) rfl (srL_q (by rw [FD.h]))) ?_
    refine zag rfl rfl (zad (.inl rfl) (ev1 rfl)) ?_
    refine zag rfl rfl (op_nc rfl (ev1 rfl) (fun s v h => by cases h; exact ⟨_, rfl⟩)) ?_
    refine zag rfl rfl (op_fa rfl fo115_2 (ev1 rfl)) ?_
    refine zag rfl rfl (op_ldm rfl tb55 (ev1 rfl) rfl (srL_q (by rw [FD.h]))) ?_
    refine zag rfl rfl (op_lenp rfl sl55 (ev1 rfl)) ?_
    refine zag rfl rfl (zad (.inl rfl) (ev1 rfl)) ?_
    refine zag rfl rfl (op_nc rfl (ev1 rfl) (fun s v h => by cases h; exact ⟨_, rfl⟩)) ?_
    refine zag rfl rfl (op_fa rfl fo115_2 (ev1 rfl)) ?_
    refine zag rfl rfl (op_ldm rfl tb55 (ev1 rfl) rfl (srL_q (by rw [FD.h]))) ?_
    refine zag rfl rfl (op_capp rfl sl55 (ev1 rfl)) ?_
    refine zag rfl rfl (op_slp3 1 rfl sl55 (ev1 rfl) (ev1 rfl) (ev1 rfl) (ev1 rfl) (fun _ => rfl) (fun _ => rfl) (fun _ => rfl) (fun _ => by simp)) ?_
    refine zag rfl rfl (op_nc rfl (ev1 rfl) (fun s v h => by cases h; exact ⟨_, rfl⟩)) ?_
    refine zag rfl rfl (op_fa rfl fo115_2 (ev1 rfl)) ?_
    refine lex_s rfl rfl (op_stmq rfl tb55 (ev1 rfl) (ev1 rfl) (fun s v h => by cases h <;> exact ⟨rfl, rfl⟩) rfl (srF_qlt) (srL_setq (by rw [FD.h]))) rfl (by simp only [upd, zaa, za]; exact rfl) ?_
    refine lex_nil ?_
    refine zaf ?_
    refine dwp_closeS (j := 11) 0 rfl rfl (que_tail hG p []) rfl (by simp only [List.cons_append, List.nil_append, zaa, za]; exact rfl) ?_
    refine dwp_absS (f := 1) (q := k + 1 + 1) 0 rfl rfl rfl (by simp) (fmQ_new (k + 1 + 1) []) (by simp only [List.cons_append, List.nil_append, zaa, za]; exact rfl) ?_
    refine zac ?_
    refine zab rfl rfl rfl (zad (.inl rfl) (ev1 rfl)) ?_
    refine zab rfl rfl rfl (op_ldw rfl tb26 (ev1 rfl) rfl rfl) ?_
    refine zab rfl rfl rfl (zad (.inl rfl) (ev1 rfl)) ?_
    refine zaj rfl rfl rfl (zai [0, 1, 2, 3, 4] [] [] rfl (ev1 rfl) (ec (ev1 rfl) (ec (ev1 rfl) en)) rfl (by exact mfits _ _ ⟨zam rfl rfl rfl, rfl, rfl, rfl, rfl, trivial⟩) (goOn_d w h ds ts hr hc hg p hb.1 c hcr tol ht (f.put p 1) (k + 1 + 1) [] hb.2.2 hb.2.1) rfl rfl rfl (by exact (wrc (sb_srx rfl rfl) (wrc rfl (wrc rfl (wrc rfl (wrc rfl rfl)))))) rfl rfl) (by simp only [upd, zaa, za]; exact rfl) ?_
    refine zae ?_
    refine dwp_goto ⟨rfl, ((goF (onP w h) (nearP w ts tol c) (f.put p 1) p).1, [] ++ (goF (onP w h) (nearP w ts tol c) (f.put p 1) p).2, k + 1 + 1 + (goF (onP w h) (nearP w ts tol c) (f.put p 1) p).2.length), (hS.step (onP_in hc.may)).1, fun a w hi => inv_ren (σ := [0, 1, 2, 3, 4]) hi ⟨hs0, rfl⟩ rfl ⟨rfl, rfl, rfl, trivial⟩ ⟨zam rfl rfl rfl, rfl, rfl, rfl, rfl, trivial⟩⟩
  · simp only [upd, zaa, za, List.cons_append, List.nil_append]
    obtain ⟨f1, q1, k1⟩ := x
    have hI := hx
    clear hx
    refine zaf ?_
    refine zal ?_
    refine zaf ?_
    refine zac ?_
    refine zab rfl rfl rfl (zad (.inl rfl) (ev1 rfl)) ?_
    refine zab rfl rfl rfl (op_nc rfl (ev1 rfl) (fun s v h => by cases h; exact ⟨_, rfl⟩)) ?_
    refine zab rfl rfl rfl (op_fa rfl fo115_2 (ev1 rfl)) ?_
    refine zab rfl rfl rfl (op_ldm rfl tb55 (ev1 rfl) rfl (srL_q (by rw [FD.h]))) ?_
    refine zab rfl rfl rfl (op_lenFu rfl sl55 (ev1 rfl) rfl (fmQ_at _ _)) ?_
    refine zab rfl rfl rfl (op_gtr rfl (ev1 rfl) (ev1 rfl)) ?_
    refine zae ?_
    refine dwp_cond rfl (fun c1 => ?_) (fun c1 => ?_)
    · have c2 : (0 : Int) < (q1.length : Int) := of_decide_eq_true c1
      obtain ⟨p1, r, rfl⟩ : ∃ p1 r, q1 = p1 :: r := by
        cases q1 with
        | nil => simp at c2
        | cons a b => exact ⟨a, b, rfl⟩
      have hst := hI.step (onP_in hc.may)
      have hb := hI.bd
      refine zaf ?_
      refine dwp_relS (j := 5) 0 rfl rfl (fmQ_at _ _) rfl (fmQ_set _ _) (by simp only [List.cons_append, List.nil_append, zaa, za]; exact rfl) ?_
      refine dwp_openS (j := 6) 0 rfl rfl rfl fun pp rr G hG => ?_
      simp only [List.cons_append, List.nil_append, zaa, za]
      refine zah 1 (by simp only [holes, List.cons_append, List.nil_append]; exact rfl) ?_
      refine zac ?_
      refine zab rfl rfl rfl (zad (.inl rfl) (ev1 rfl)) ?_
      refine zab rfl rfl rfl (op_nc rfl (ev1 rfl) (fun s v h => by cases h; exact ⟨_, rfl⟩)) ?_
      refine zab rfl rfl rfl (op_fa rfl fo115_2 (ev1 rfl)) ?_
      refine zab rfl rfl rfl (op_ldm rfl tb55 (ev1 rfl) rfl (srL_q (by rw [FD.h]))) ?_
      refine zab rfl rfl rfl (op_ixp (0) rfl sl55 (ev1 rfl) (ev1 rfl) (fun _ => rfl) (fun _ => by simp)) ?_
      refine zab rfl rfl rfl (op_ldra rfl tb26 (ev1 rfl) rfl (que_head hG p1 r) rfl) ?_
      refine zaj rfl rfl rfl (op_alloc 7 rfl zr26 rfl) (by simp only [upd, zaa, za]; exact rfl) ?_
      refine walk_s rfl rfl (op_stwa rfl tb26 (ev1 rfl) (ev1 rfl) rfl rfl rfl rfl) (by simp only [upd, zaa, za]; exact rfl) ?_
      refine zae ?_
      refine zaf ?_
      refine dwp_draw [([], []), ([], []), ([], []), ([], []), ([0], []), ([], []), ([], []), ([], []), ([0], []), ([], []), ([], []), ([], []), ([], []), ([0], []), ([], []), ([], []), ([], []), ([], []), ([0], [0])] mixed (by kernel_rfl) ?_
      refine zag rfl rfl (zad (.inl rfl) (ev1 rfl)) ?_
      refine zag rfl rfl (zad (.inl rfl) (ev1 rfl)) ?_
      refine zag rfl rfl (op_nc rfl (ev1 rfl) (fun s v h => by cases h; exact ⟨_, rfl⟩)) ?_
      refine zag rfl rfl (op_fa rfl fo115_2 (ev1 rfl)) ?_
      refine zag rfl rfl (op_ldm rfl tb55 (ev1 rfl) rfl (srL_q (by rw [FD.h]))) ?_
      refine zag rfl rfl (zad (.inl rfl) (ev1 rfl)) ?_
      refine zag rfl rfl (op_nc rfl (ev1 rfl) (fun s v h => by cases h; exact ⟨_, rfl⟩)) ?_
      refine zag rfl rfl (op_fa rfl fo115_2 (ev1 rfl)) ?_
      refine zag rfl rfl (op_ldm rfl tb55 (ev1 rfl) rfl (srL_q (by rw [FD.h]))) ?_
      refine zag rfl rfl (op_lenp rfl sl55 (ev1 rfl)) ?_
      refine zag rfl rfl (zad (.inl rfl) (ev1 rfl)) ?_
      refine zag rfl rfl (op_nc rfl (ev1 rfl) (fun s v h => by cases h; exact ⟨_, rfl⟩)) ?_
      refine zag rfl rfl (op_fa rfl fo115_2 (ev1 rfl)) ?_
      refine zag rfl rfl (op_ldm rfl tb55 (ev1 rfl) rfl (srL_q (by rw [FD.h]))) ?_
      refine zag rfl rfl (op_capp rfl sl55 (ev1 rfl)) ?_
      refine zag rfl rfl (op_slp3 1 rfl sl55 (ev1 rfl) (ev1 rfl) (ev1 rfl) (ev1 rfl) (fun _ => rfl) (fun _ => rfl) (fun _ => rfl) (fun _ => by simp)) ?_
      refine zag rfl rfl (op_nc rfl (ev1 rfl) (fun s v h => by cases h; exact ⟨_, rfl⟩)) ?_
      refine zag rfl rfl (op_fa rfl fo115_2 (ev1 rfl)) ?_
      refine lex_s rfl rfl (op_stmq rfl tb55 (ev1 rfl) (ev1 rfl) (fun s v h => by cases h <;> exact ⟨rfl, rfl⟩) rfl (srF_qlt) (srL_setq (by rw [FD.h]))) rfl (by simp only [upd, zaa, za]; exact rfl) ?_
      refine lex_nil ?_
      refine zaf ?_
      refine dwp_closeS (j := 8) 0 rfl rfl (que_tail hG p1 r) rfl (by simp only [List.cons_append, List.nil_append, zaa, za]; exact rfl) ?_
      refine dwp_absS (f := 1) (q := k1 + 1) 0 rfl rfl rfl (by simp) (fmQ_new (k1 + 1) r) (by simp only [List.cons_append, List.nil_append, zaa, za]; exact rfl) ?_
      refine zac ?_
      refine zab rfl rfl rfl (zad (.inl rfl) (ev1 rfl)) ?_
      refine zab rfl rfl rfl (op_ldw rfl tb26 (ev1 rfl) rfl rfl) ?_
      refine zab rfl rfl rfl (zad (.inl rfl) (ev1 rfl)) ?_
      refine zaj rfl rfl rfl (zai [0, 1, 2, 3, 4] [] [] rfl (ev1 rfl) (ec (ev1 rfl) (ec (ev1 rfl) en)) rfl (by exact mfits _ _ ⟨zam rfl rfl rfl, rfl, rfl, rfl, rfl, trivial⟩) (goOn_d w h ds ts hr hc hg p1 hb.1 c hcr tol ht f1 (k1 + 1) r hb.2.2 hb.2.1) rfl rfl rfl (by exact (wrc (sb_srx rfl rfl) (wrc rfl (wrc rfl (wrc rfl (wrc rfl rfl)))))) rfl rfl) (by simp only [upd, zaa, za]; exact rfl) ?_
      refine zae ?_
      refine dwp_goto ⟨rfl, ((goF (onP w h) (nearP w ts tol c) f1 p1).1, r ++ (goF (onP w h) (nearP w ts tol c) f1 p1).2, k1 + 1 + (goF (onP w h) (nearP w ts tol c) f1 p1).2.length), hst.1, hst.2, fun a w hi => inv_ren (σ := [0, 1, 2, 3, 4]) hi ⟨hs0, rfl⟩ rfl ⟨rfl, rfl, rfl, trivial⟩ ⟨zam rfl rfl rfl, rfl, rfl, rfl, rfl, trivial⟩⟩
    · have c2 : ¬ (0 : Int) < (q1.length : Int) := of_decide_eq_false c1
      obtain rfl : q1 = [] := by
        cases q1 with
        | nil => rfl
        | cons a b => rw [List.length_cons] at c2; omega
      obtain ⟨e1, e2⟩ := hI.done
      subst e1 e2
      refine zal ?_
      refine kend [0, 1, 2, 3, 4] (res_none rfl) rfl rfl ?_ ⟨zam rfl rfl rfl, rfl, rfl, rfl, rfl, trivial⟩
      rfl
end Go.Proofs.YtfnhckildfbikaaGreat
namespace Go.Proofs.YtfnhckildfbikaaGreat
set_option maxRecDepth 4000
set_option linter.unusedVariables false
set_option linter.unusedSimpArgs false
open Go.RowKit
attribute [local irreducible] zFD srL goF bfsF
theorem fl41 : fdL Tryz.prog 41 = some [(0, 1), (1, 1), (2, 1)] := by kernel_rfl
def gtP (B : P2 → Bool) (W n : Nat) : List P2 := (fieldN W n 0 0).filter B
def gtS (B : P2 → Bool) (W n : Nat) : List Sp := runS (gtP B W n)
def atN (x y : Nat) : P2 := ⟨(x : Int), (y : Int)⟩
theorem gt_field {W x y : Nat} (hx : x < W) : fieldN W (y * W + (x + 1)) 0 0 = fieldN W (y * W + x) 0 0 ++ [atN x y] := by
  rw [field_at hx]
  simp [atN]
theorem gtP_no {B : P2 → Bool} {W x y : Nat} (hx : x < W) (h : B (atN x y) = false) : gtP B W (y * W + (x + 1)) = gtP B W (y * W + x) := by
  unfold gtP
  rw [gt_field hx, List.filter_append]
  simp [h]
theorem gtP_yes {B : P2 → Bool} {W x y : Nat} (hx : x < W) (h : B (atN x y) = true) : gtP B W (y * W + (x + 1)) = gtP B W (y * W + x) ++ [atN x y] := by
  unfold gtP
  rw [gt_field hx, List.filter_append]
  simp [h]
theorem gtP_len (B : P2 → Bool) (W n : Nat) : (gtP B W n).length ≤ n := by
  unfold gtP
  refine Nat.le_trans (List.length_filter_le ..) ?_
  rw [fieldN_len]
  exact Nat.le_refl _
theorem gtP_beh {B : P2 → Bool} {W : Nat} (hW : 0 < W) (n : Nat) : (gtP B W n).Pairwise beh := (field_beh hW n 0 0).sublist List.filter_sublist
theorem gtP_mem {B : P2 → Bool} {W H : Nat} (hW : 0 < W) {p : P2} : p ∈ gtP B W (H * W) ↔ ((0 ≤ p.x ∧ p.x < W) ∧ 0 ≤ p.y ∧ p.y < H) ∧ B p = true := by
  unfold gtP
  rw [List.mem_filter, field_mem hW]
  simp
theorem gtS_no {B : P2 → Bool} {W x y : Nat} (hx : x < W) (h : B (atN x y) = false) : gtS B W (y * W + (x + 1)) = gtS B W (y * W + x) := by unfold gtS; rw [gtP_no hx h]
theorem gtS_yes {B : P2 → Bool} {W x y : Nat} (hx : x < W) (h : B (atN x y) = true) : gtS B W (y * W + (x + 1)) = mergeS (gtS B W (y * W + x)) (pt1 (atN x y)) := by unfold gtS; rw [gtP_yes hx h, runS_add]
theorem gtS_len (B : P2 → Bool) (W n : Nat) : (gtS B W n).length ≤ n := by
  unfold gtS runS
  have h1 := merges_len ((gtP B W n).map pt1) []
  have h2 := gtP_len B W n
  simp only [List.length_map, List.length_nil, Nat.zero_add] at h1
  omega
theorem gtS_end {B : P2 → Bool} {W x y : Nat} (hx : x < W) : endS (gtS B W (y * W + x)) (atN x y) := by
  refine endS_run (gtP_beh (by omega) _) fun q hq => ?_
  have := field_before (w := W) (n := y * W + x) (by omega) (X := 0) (Y := 0) q (List.mem_filter.1 hq).1
  rw [ix_mod hx, ix_div hx] at this
  simpa [atN] using this
theorem gtS_ok {B : P2 → Bool} {W H : Nat} (hW : 0 < W) : okS (gtS B W (H * W)) ∧ ∀ x y, hasS (gtS B W (H * W)) x y ↔ ((0 ≤ x ∧ x < W) ∧ 0 ≤ y ∧ y < H) ∧ B ⟨x, y⟩ = true := by
  have h := run_ok (gtP_beh (B := B) hW (H * W))
  refine ⟨h.1, fun x y => ?_⟩
  unfold gtS
  rw [h.2, gtP_mem hW]
theorem opn_lastS {l : List Sp} (h : 0 < l.length) (p : P2) : opnS l p = decide ((lastS l).y = p.y ∧ (lastS l).t + 1 = p.x) := by
  rcases list_last l with rfl | ⟨m, a, rfl⟩
  · simp at h
  · rw [opnS_app, lastS_app]
theorem opn_nil (p : P2) : opnS [] p = false := rfl
def fmL (k : Nat) (l : List Sp) : List Mem := List.replicate k .gone ++ [.arr 41 3 l.length (l.flatMap s3)]
theorem fmL_at (k : Nat) (l : List Sp) : (fmL k l)[k]? = some (.arr 41 3 l.length (l.flatMap s3)) := by
  unfold fmL
  rw [List.getElem?_append_right (by simp)]
  simp
theorem fmL_set (k : Nat) (l : List Sp) : (fmL k l).set k .gone = List.replicate (k + 1) .gone := by
  unfold fmL
  rw [List.set_append_right _ _ (by simp), List.length_replicate, Nat.sub_self, List.replicate_succ']
  rfl
theorem fmL_new {k : Nat} {l l2 : List Sp} {n : Nat} {L : List Value} (hn : n = l2.length) (hL : L = l2.flatMap s3) : (fmL k l).set k .gone ++ [.arr 41 3 n L] = fmL (k + 1) l2 := by
  rw [fmL_set, hn, hL]
  rfl
theorem fmL_cnt (k : Nat) (l : List Sp) : ((fmL k l).set k .gone).length = k + 1 := by rw [fmL_set]; simp
set_option maxRecDepth 4000 in
set_option maxHeartbeats 1000000 in
theorem region_o (w h : Int) (ds : List D) (ts : List TL) (hr : RowOk ds ts) (hc : CvOk w h ts) (hg : tsRng ts) (p : P2) (hp : onS w h p.x p.y = true) (tol : Int) (ht : 0 ≤ tol) : DFun Tryz.prog 27 [cvD w h ds, .val (.agg #[.int .i64 p.x, .int .i64 p.y]), .val (.int .i64 tol)] [] (.loc 0 0) [.mix 115 (srL (cvD w h ds) ((spF (onP w h) (nearP w ts tol (getC w ts p.x p.y)) zFD p)).l (.farr 1 ((spN (onP w h) (nearP w ts tol (getC w ts p.x p.y)) 0 zFD p)))), .fam (fmQ ((spN (onP w h) (nearP w ts tol (getC w ts p.x p.y)) 0 zFD p)) (([] : List P2)))] := by
  refine zan (N := 18) 0 (by kernel_rfl) Tryz.func27 rfl rfl rfl (by simp only [fr0, Nat.zero_add, Nat.reduceAdd]; exact rfl) rfl fun s0 hs0 => ?_
  refine zaf ?_
  refine zah 1 (by simp only [holes, List.cons_append, List.nil_append]; exact rfl) ?_
  refine zac ?_
  refine zaj rfl rfl rfl (op_boxa 0 rfl (ev1 rfl) rfl) (by simp only [upd, zaa, za]; exact rfl) ?_
  refine zab rfl rfl rfl (zad (.inr rfl) (ev1 rfl)) ?_
  refine zae ?_
  refine zaf ?_
  refine zah 2 (by simp only [holes, List.cons_append, List.nil_append]; exact rfl) ?_
  refine zac ?_
  refine zab rfl rfl rfl (zad (.inl rfl) (ev1 rfl)) ?_
  refine zaj rfl rfl rfl (zai [] [] [1, 2] rfl (ev1 rfl) (ec (ev1 rfl) en) rfl rfl (searchOf_d w h ds) rfl rfl rfl (by exact (wrc (sb_srx rfl rfl) (wrc rfl rfl))) rfl rfl) (by simp only [upd, zaa, za]; exact rfl) ?_
  refine zab rfl rfl rfl (zad (.inr rfl) (ev1 rfl)) ?_
  refine zae ?_
  refine zaf ?_
  refine zah 3 (by simp only [holes, List.cons_append, List.nil_append]; exact rfl) ?_
  refine dwp_draw [([], []), ([0], []), ([], []), ([0], []), ([], []), ([3, 4, 5], [3, 4, 5]), ([1, 2, 3, 4, 5], [1, 2, 3, 4, 5])] mixed (by kernel_rfl) ?_
  refine zag rfl rfl (zad (.inl rfl) (ev1 rfl)) ?_
  refine zag rfl rfl (op_ldw rfl tb26 (ev1 rfl) rfl rfl) ?_
  refine zag rfl rfl (zad (.inl rfl) (ev1 rfl)) ?_
  refine zag rfl rfl (op_ldw rfl tb26 (ev1 rfl) rfl rfl) ?_
  refine zag rfl rfl (zad (.inl rfl) (ev1 rfl)) ?_
  refine lex_w rfl rfl (zai [] [] [3, 4, 5] rfl (ev1 rfl) (ec (ev1 rfl) (ec (ev1 rfl) (ec (ev1 rfl) en))) rfl rfl (like_d w h ds ts hr hc hg p tol hp) rfl rfl rfl rfl rfl rfl) rfl (by simp only [upd, zaa, za]; exact rfl) ?_
  refine lex_w rfl rfl (zai [1, 2, 3, 4, 5] [] [] rfl (ev1 rfl) (ec (ev1 rfl) (ec (ev1 rfl) (ec (ev1 rfl) en))) rfl (by exact mfits _ _ ⟨zam rfl rfl rfl, rfl, rfl, rfl, rfl, trivial⟩) (spread_d w h ds ts hr hc hg p hp (getC w ts p.x p.y) (getC_rng hg _ _ _) tol ht zFD 0 (zFD_at p)) rfl rfl rfl (by exact (wrc (sb_srx rfl rfl) (wrc rfl (wrc rfl (wrc rfl (wrc rfl rfl)))))) rfl rfl) rfl (by simp only [upd, zaa, za]; exact rfl) ?_
  refine lex_nil ?_
  refine zaf ?_
  refine zac ?_
  refine zab rfl rfl rfl (zad (.inl rfl) (ev1 rfl)) ?_
  refine zab rfl rfl rfl (zad (.inr rfl) (ev1 rfl)) ?_
  refine zae ?_
  refine dwp_ret ?_
  refine kend [1, 2] (rs1 rfl (rv_t rfl)) rfl rfl ?_ ⟨zam rfl rfl rfl, rfl, trivial⟩
  rfl
set_option maxRecDepth 4000 in
set_option maxHeartbeats 1000000 in
theorem reg1_n (w h : Int) (ds : List D) (f : FD) (k : Nat) (q : List P2) (j : Nat) (l : List Sp) (hl : l.length ≤ 5000) (p : P2) (hp : inF32 p) (hh : f.has p = false) : DFun Tryz.prog 29 [.farr 3 j, .val (.agg #[.int .i64 p.x, .int .i64 p.y]), .loc 2 0] [.mix 115 (srL (cvD w h ds) (f).l (.farr 1 (k))), .fam (fmQ (k) (q)), .mix 75 [.loc 0 0], .fam (fmL (j) (l))] (.farr 3 j) [.mix 115 (srL (cvD w h ds) (f).l (.farr 1 (k))), .fam (fmQ (k) (q)), .mix 75 [.loc 0 0], .fam (fmL (j) (l))] := by
  have hp2 := hp
  unfold inF32 at hp2
  refine zan (N := 55) 4 (by kernel_rfl) Tryz.func29 rfl rfl rfl (by simp only [fr0, Nat.zero_add, Nat.reduceAdd]; exact rfl) rfl fun s0 hs0 => ?_
  refine zaf ?_
  refine zah 1 (by simp only [holes, List.cons_append, List.nil_append]; exact rfl) ?_
  refine zac ?_
  refine zaj rfl rfl rfl (op_boxa 4 rfl (ev1 rfl) rfl) (by simp only [upd, zaa, za]; exact rfl) ?_
  refine zab rfl rfl rfl (zad (.inr rfl) (ev1 rfl)) ?_
  refine zae ?_
  refine zaf ?_
  refine zaf ?_
  refine zac ?_
  refine zab rfl rfl rfl (op_ldm rfl tb75 (ev1 rfl) rfl rfl) ?_
  refine zab rfl rfl rfl (op_ldw rfl tb26 (ev1 rfl) rfl rfl) ?_
  refine zaj rfl rfl rfl (zai [0, 1] [] [] rfl (ev1 rfl) (ec (ev1 rfl) (ec (ev1 rfl) en)) rfl (by exact mfits _ _ ⟨zam rfl rfl rfl, rfl, trivial⟩) (has_s w h ds f k q p hp) rfl rfl rfl (by exact (wrc (sb_srx rfl rfl) (wrc rfl rfl))) rfl rfl) (by simp only [upd, zaa, za]; exact rfl) ?_
  refine zab rfl rfl rfl (op_not rfl (ev1 rfl)) ?_
  refine zae ?_
  refine dwp_if_t rfl (by rw [hh]; rfl) ?_
  refine zaf ?_
  refine zac ?_
  refine zab rfl rfl rfl (zad (.inl rfl) (ev1 rfl)) ?_
  refine zab rfl rfl rfl (zad (.inr rfl) (ev1 rfl)) ?_
  refine zae ?_
  refine dwp_ret ?_
  refine kend [0, 1, 2, 3] (rs1 rfl (rv_t rfl)) rfl rfl ?_ ⟨zam rfl rfl rfl, rfl, rfl, rfl, trivial⟩
  rfl
set_option maxRecDepth 4000 in
set_option maxHeartbeats 1000000 in
theorem reg1_y (w h : Int) (ds : List D) (f : FD) (k : Nat) (q : List P2) (j : Nat) (l : List Sp) (hl : l.length ≤ 5000) (p : P2) (hp : inF32 p) (he : endS l p) (hh : f.has p = true) : DFun Tryz.prog 29 [.farr 3 j, .val (.agg #[.int .i64 p.x, .int .i64 p.y]), .loc 2 0] [.mix 115 (srL (cvD w h ds) (f).l (.farr 1 (k))), .fam (fmQ (k) (q)), .mix 75 [.loc 0 0], .fam (fmL (j) (l))] (.farr 3 (j + 1)) [.mix 115 (srL (cvD w h ds) (f).l (.farr 1 (k))), .fam (fmQ (k) (q)), .mix 75 [.loc 0 0], .fam (fmL (j + 1) (mergeS l (pt1 p)))] := by
  have hp2 := hp
  unfold inF32 at hp2
  refine zan (N := 55) 4 (by kernel_rfl) Tryz.func29 rfl rfl rfl (by simp only [fr0, Nat.zero_add, Nat.reduceAdd]; exact rfl) rfl fun s0 hs0 => ?_
  refine zaf ?_
  refine zah 1 (by simp only [holes, List.cons_append, List.nil_append]; exact rfl) ?_
  refine zac ?_
  refine zaj rfl rfl rfl (op_boxa 4 rfl (ev1 rfl) rfl) (by simp only [upd, zaa, za]; exact rfl) ?_
  refine zab rfl rfl rfl (zad (.inr rfl) (ev1 rfl)) ?_
  refine zae ?_
  refine zaf ?_
  refine zaf ?_
  refine zac ?_
  refine zab rfl rfl rfl (op_ldm rfl tb75 (ev1 rfl) rfl rfl) ?_
  refine zab rfl rfl rfl (op_ldw rfl tb26 (ev1 rfl) rfl rfl) ?_
  refine zaj rfl rfl rfl (zai [0, 1] [] [] rfl (ev1 rfl) (ec (ev1 rfl) (ec (ev1 rfl) en)) rfl (by exact mfits _ _ ⟨zam rfl rfl rfl, rfl, trivial⟩) (has_s w h ds f k q p hp) rfl rfl rfl (by exact (wrc (sb_srx rfl rfl) (wrc rfl rfl))) rfl rfl) (by simp only [upd, zaa, za]; exact rfl) ?_
  refine zab rfl rfl rfl (op_not rfl (ev1 rfl)) ?_
  refine zae ?_
  refine dwp_if_f rfl (by rw [hh]; rfl) ?_
  refine zal ?_
  refine zaf ?_
  refine zaf ?_
  refine dwp_hole ?_
  refine dwp_rel 0 3 (j := 5) rfl rfl (fmL_at _ _) rfl (by simp only [List.cons_append, List.nil_append, zaa, za]; exact rfl) ?_
  refine zac ?_
  refine zab rfl rfl rfl (zad (.inl rfl) (ev1 rfl)) ?_
  refine zab rfl rfl rfl (op_lena rfl sl32 (ev1 rfl) rfl) ?_
  refine zab rfl rfl rfl (op_sub' rfl (ev1 rfl) (ev1 rfl) (fun _ => IntWalk.i64_in _ (by omega))) ?_
  refine zab rfl rfl rfl (zad (.inr rfl) (ev1 rfl)) ?_
  refine zae ?_
  refine zaf ?_
  by_cases h0 : 0 < l.length
  · have hop := opn_lastS h0 p
    refine dwp_draw [([], []), ([], []), ([], []), ([], []), ([], []), ([5], []), ([], []), ([5], []), ([], []), ([4], []), ([], []), ([], []), ([], []), ([], []), ([], []), ([5], []), ([], []), ([5], []), ([], []), ([4], []), ([], []), ([], []), ([], [])] mixed (by kernel_rfl) ?_
    refine zag rfl rfl (zad (.inl rfl) (ev1 rfl)) ?_
    refine zag rfl rfl ((op_geq rfl (ev1 rfl) (ev1 rfl)).cast (d' := .val (.bool true)) (by rw [D.val.injEq, Value.bool.injEq, decide_eq_true_eq]; omega)) ?_
    refine zag rfl rfl (zad (.inl rfl) (ev1 rfl)) ?_
    refine lex_k (gd_t (b := true) rfl rfl rfl) rfl rfl (zad (.inl rfl) (ev1 rfl)) rfl (by simp only [upd, zaa, za]; exact rfl) ?_
    refine lex_k (gd_t (b := true) rfl rfl rfl) rfl rfl (zad (.inl rfl) (ev1 rfl)) rfl (by simp only [upd, zaa, za]; exact rfl) ?_
    refine lex_k (gd_t (b := true) rfl rfl rfl) rfl rfl (op_ixar (j := l.length - 1) rfl sl32 (ev2 rfl) (ev2 rfl) rfl (fun _ => by omega) (fun _ => by omega)) rfl (by simp only [upd, zaa, za]; exact rfl) ?_
    refine lex_k (gd_t (b := true) rfl rfl rfl) rfl rfl (op_faa rfl fo41_0 (ev2 rfl)) rfl (by simp only [upd, zaa, za]; exact rfl) ?_
    refine lex_k (gd_t (b := true) rfl rfl rfl) rfl rfl (op_ldaf (j := l.length - 1) (c := 0) (zSp) rfl tb3 (ev2 rfl) rfl (fun _ => rfl) (fun _ => by omega) (by decide) rfl) rfl (by simp only [upd, zaa, za]; exact rfl) ?_
    refine lex_k (gd_t (b := true) rfl rfl rfl) rfl rfl (op_fa rfl fo26_1 (ev1 rfl)) rfl (by simp only [upd, zaa, za]; exact rfl) ?_
    refine lex_k (gd_t (b := true) rfl rfl rfl) rfl rfl (op_ldo rfl tb3 (ev2 rfl) rfl rfl) rfl (by simp only [upd, zaa, za]; exact rfl) ?_
    refine lex_k (gd_t (b := true) rfl rfl rfl) rfl rfl (op_eql rfl (ev2 rfl) (ev2 rfl)) rfl (by simp only [upd, zaa, za]; exact rfl) ?_
    refine zag rfl rfl (op_and rfl (ev1 rfl) (ev3 rfl (fun _ => rfl))) ?_
    refine zag rfl rfl (zad (.inl rfl) (ev1 rfl)) ?_
    refine lex_gr (gd_t rfl rfl rfl) rfl rfl (zad (.inl rfl) (ev1 rfl)) ?_
    refine lex_gr (gd_t rfl rfl rfl) rfl rfl (zad (.inl rfl) (ev1 rfl)) ?_
    refine lex_gr (gd_t rfl rfl rfl) rfl rfl (op_ixar (j := l.length - 1) rfl sl32 (ev2 rfl) (ev2 rfl) rfl (fun _ => by omega) (fun _ => by omega)) ?_
    refine lex_gr (gd_t rfl rfl rfl) rfl rfl (op_faa rfl fo41_2 (ev2 rfl)) ?_
    refine lex_gr (gd_t rfl rfl rfl) rfl rfl (op_ldaf (j := l.length - 1) (c := 2) (zSp) rfl tb3 (ev2 rfl) rfl (fun _ => rfl) (fun _ => by omega) (by decide) rfl) ?_
    refine lex_gr (gd_t rfl rfl rfl) rfl rfl (op_fa rfl fo26_0 (ev1 rfl)) ?_
    refine lex_gr (gd_t rfl rfl rfl) rfl rfl (op_ldo rfl tb3 (ev2 rfl) rfl rfl) ?_
    refine lex_gr (gd_t rfl rfl rfl) rfl rfl (op_sub' rfl (ev2 rfl) (ev1 rfl) (fun hp => IntWalk.i64_in _ (by first | omega | (simp at hp; omega)))) ?_
    refine lex_gr (gd_t rfl rfl rfl) rfl rfl (op_eql rfl (ev2 rfl) (ev2 rfl)) ?_
    refine zag rfl rfl (op_and rfl (ev1 rfl) (ev3 rfl id)) ?_
    refine lex_nil ?_
    refine dwp_cond rfl (fun c2 => ?_) (fun c2 => ?_)
    · have c3 : opnS l p = true := by
        rw [hop]
        simp at c2 ⊢
        omega
      refine zaf ?_
      refine zac ?_
      refine zab rfl rfl rfl (zad (.inl rfl) (ev1 rfl)) ?_
      refine zab rfl rfl rfl (zad (.inl rfl) (ev1 rfl)) ?_
      refine zab rfl rfl rfl (op_fa rfl fo26_0 (ev1 rfl)) ?_
      refine zab rfl rfl rfl (op_ldo rfl tb3 (ev1 rfl) rfl rfl) ?_
      refine zab rfl rfl rfl (op_ixar (j := l.length - 1) rfl sl32 (ev1 rfl) (ev1 rfl) rfl (fun _ => by omega) (fun _ => by omega)) ?_
      refine zab rfl rfl rfl (op_faa rfl fo41_2 (ev1 rfl)) ?_
      refine walk_s rfl rfl (op_staf (j := l.length - 1) (c := 2) (zSp) (⟨(lastS l).y, (lastS l).f, p.x⟩) rfl tb3 (ev1 rfl) (ev1 rfl) rfl rfl rfl rfl (fun _ => rfl) (fun _ => by omega) (Nat.le_of_ble_eq_true rfl) rfl) (by simp only [upd, zaa, za]; exact rfl) ?_
      refine zae ?_
      refine zaf ?_
      refine zac ?_
      refine zab rfl rfl rfl (zad (.inl rfl) (ev1 rfl)) ?_
      refine zab rfl rfl rfl (zad (.inr rfl) (ev1 rfl)) ?_
      refine zae ?_
      refine dwp_abs 5 3 rfl rfl rfl (by simp only [List.cons_append, List.nil_append, zaa, za]; exact rfl) ?_
      refine dwp_ret ?_
      refine kend [0, 1, 2, 3] (rs1 rfl (rv_t rfl)) rfl rfl ?_ ⟨zam rfl rfl rfl, rfl, rfl, congrArg (fun B => some (Blk.fam B)) (fmL_new (by rw [← row_set2 c3, List.length_set]) (by rw [row_set2 c3])), trivial⟩
      rw [fmL_cnt]
    · have c3 : opnS l p = false := by
        rw [hop]
        simp at c2 ⊢
        intro h; have := c2 h; omega
      refine zal ?_
      refine zaf ?_
      refine zah 1 (by simp only [holes, List.cons_append, List.nil_append]; exact rfl) ?_
      refine zac ?_
      refine zab rfl rfl rfl (zad (.inl rfl) (ev1 rfl)) ?_
      refine zab rfl rfl rfl (op_fa rfl fo26_1 (ev1 rfl)) ?_
      refine zab rfl rfl rfl (op_ldo rfl tb3 (ev1 rfl) rfl rfl) ?_
      refine zab rfl rfl rfl (op_fa rfl fo26_0 (ev1 rfl)) ?_
      refine zab rfl rfl rfl (op_ldo rfl tb3 (ev1 rfl) rfl rfl) ?_
      refine zab rfl rfl rfl (op_fa rfl fo26_0 (ev1 rfl)) ?_
      refine zab rfl rfl rfl (op_ldo rfl tb3 (ev1 rfl) rfl rfl) ?_
      refine zab rfl rfl rfl (op_build (ps := [(0, .tmp 47), (1, .tmp 49), (2, .tmp 51)]) rfl fl41 zr41 (vc (ev1 rfl) (vc (ev1 rfl) (vc (ev1 rfl) vn))) rfl rfl) ?_
      refine zab rfl rfl rfl (op_bs (ps := [(0, .tmp 52)]) rfl sl32 zr41 rfl (vc (ev1 rfl) vn) rfl (by decide) (by decide)) ?_
      refine zaj rfl rfl rfl (op_app (j := 6) rfl sl32 zr41 rfl (ev1 rfl) (ev1 rfl) src_slf rfl rfl (fun _ => rfl) (fun _ => ⟨by omega, by omega⟩)) (by simp only [upd, zaa, za]; exact rfl) ?_
      refine zab rfl rfl rfl (zad (.inr rfl) (ev1 rfl)) ?_
      refine zae ?_
      refine dwp_abs 5 3 rfl rfl rfl (by simp only [List.cons_append, List.nil_append, zaa, za]; exact rfl) ?_
      refine dwp_ret ?_
      refine kend [0, 1, 2, 3] (rs1 rfl (rv_t rfl)) rfl rfl ?_ ⟨zam rfl rfl rfl, rfl, rfl, congrArg (fun B => some (Blk.fam B)) (fmL_new (by rw [merge_shut he c3, List.length_append]; rfl) (by rw [merge_shut he c3, List.flatMap_append]; rfl)), trivial⟩
      rw [fmL_cnt]
  · obtain rfl : l = [] := List.eq_nil_of_length_eq_zero (by omega)
    have c3 := opn_nil p
    refine dwp_draw [([], []), ([], []), ([], []), ([], []), ([], []), ([], []), ([], []), ([], []), ([], []), ([], []), ([], []), ([], []), ([], []), ([], []), ([], []), ([], []), ([], []), ([], []), ([], []), ([], []), ([], []), ([], []), ([], [])] mixed (by kernel_rfl) ?_
    refine zag rfl rfl (zad (.inl rfl) (ev1 rfl)) ?_
    refine zag rfl rfl ((op_geq rfl (ev1 rfl) (ev1 rfl)).cast (d' := .val (.bool false)) (by rfl)) ?_
    refine zag rfl rfl (zad (.inl rfl) (ev1 rfl)) ?_
    refine lex_gr (gd_t (b := false) rfl rfl rfl) rfl rfl (dop_never (d := .junk)) ?_
    refine lex_gr (gd_t (b := false) rfl rfl rfl) rfl rfl (dop_never (d := .junk)) ?_
    refine lex_gr (gd_t (b := false) rfl rfl rfl) rfl rfl (dop_never (d := .junk)) ?_
    refine lex_gr (gd_t (b := false) rfl rfl rfl) rfl rfl (dop_never (d := .junk)) ?_
    refine lex_gr (gd_t (b := false) rfl rfl rfl) rfl rfl (dop_never (d := .junk)) ?_
    refine lex_gr (gd_t (b := false) rfl rfl rfl) rfl rfl (dop_never (d := .junk)) ?_
    refine lex_gr (gd_t (b := false) rfl rfl rfl) rfl rfl (dop_never (d := .junk)) ?_
    refine lex_gr (gd_t (b := false) rfl rfl rfl) rfl rfl (dop_never (d := .val (.bool false))) ?_
    refine zag rfl rfl ((op_and rfl (ev1 rfl) (ev3 rfl id)).cast (d' := .val (.bool false)) (by rfl)) ?_
    refine zag rfl rfl (zad (.inl rfl) (ev1 rfl)) ?_
    refine lex_gr (gd_t (b := false) rfl rfl rfl) rfl rfl (dop_never (d := .junk)) ?_
    refine lex_gr (gd_t (b := false) rfl rfl rfl) rfl rfl (dop_never (d := .junk)) ?_
    refine lex_gr (gd_t (b := false) rfl rfl rfl) rfl rfl (dop_never (d := .junk)) ?_
    refine lex_gr (gd_t (b := false) rfl rfl rfl) rfl rfl (dop_never (d := .junk)) ?_
    refine lex_gr (gd_t (b := false) rfl rfl rfl) rfl rfl (dop_never (d := .junk)) ?_
    refine lex_gr (gd_t (b := false) rfl rfl rfl) rfl rfl (dop_never (d := .junk)) ?_
    refine lex_gr (gd_t (b := false) rfl rfl rfl) rfl rfl (dop_never (d := .junk)) ?_
    refine lex_gr (gd_t (b := false) rfl rfl rfl) rfl rfl (dop_never (d := .val (.bool false))) ?_
    refine lex_gr (gd_t (b := false) rfl rfl rfl) rfl rfl (dop_never (d := .val (.bool false))) ?_
    refine zag rfl rfl ((op_and rfl (ev1 rfl) (ev3 rfl id)).cast (d' := .val (.bool false)) (by rfl)) ?_
    refine lex_nil ?_
    refine dwp_if_f rfl (rfl) ?_
    refine zal ?_
    refine zaf ?_
    refine zah 1 (by simp only [holes, List.cons_append, List.nil_append]; exact rfl) ?_
    refine zac ?_
    refine zab rfl rfl rfl (zad (.inl rfl) (ev1 rfl)) ?_
    refine zab rfl rfl rfl (op_fa rfl fo26_1 (ev1 rfl)) ?_
    refine zab rfl rfl rfl (op_ldo rfl tb3 (ev1 rfl) rfl rfl) ?_
    refine zab rfl rfl rfl (op_fa rfl fo26_0 (ev1 rfl)) ?_
    refine zab rfl rfl rfl (op_ldo rfl tb3 (ev1 rfl) rfl rfl) ?_
    refine zab rfl rfl rfl (op_fa rfl fo26_0 (ev1 rfl)) ?_
    refine zab rfl rfl rfl (op_ldo rfl tb3 (ev1 rfl) rfl rfl) ?_
    refine zab rfl rfl rfl (op_build (ps := [(0, .tmp 47), (1, .tmp 49), (2, .tmp 51)]) rfl fl41 zr41 (vc (ev1 rfl) (vc (ev1 rfl) (vc (ev1 rfl) vn))) rfl rfl) ?_
    refine zab rfl rfl rfl (op_bs (ps := [(0, .tmp 52)]) rfl sl32 zr41 rfl (vc (ev1 rfl) vn) rfl (by decide) (by decide)) ?_
    refine zaj rfl rfl rfl (op_app (j := 6) rfl sl32 zr41 rfl (ev1 rfl) (ev1 rfl) src_slf rfl rfl (fun _ => rfl) (fun _ => ⟨by omega, by omega⟩)) (by simp only [upd, zaa, za]; exact rfl) ?_
    refine zab rfl rfl rfl (zad (.inr rfl) (ev1 rfl)) ?_
    refine zae ?_
    refine dwp_abs 5 3 rfl rfl rfl (by simp only [List.cons_append, List.nil_append, zaa, za]; exact rfl) ?_
    refine dwp_ret ?_
    refine kend [0, 1, 2, 3] (rs1 rfl (rv_t rfl)) rfl rfl ?_ ⟨zam rfl rfl rfl, rfl, rfl, congrArg (fun B => some (Blk.fam B)) (fmL_new (l := []) (l2 := mergeS [] (pt1 p)) rfl rfl), trivial⟩
    rw [fmL_cnt]
set_option maxRecDepth 4000 in
set_option maxHeartbeats 1000000 in
theorem gatS_d (w h : Int) (ds : List D) (ts : List TL) (hr : RowOk ds ts) (hc : CvOk w h ts) (f : FD) (k : Nat) (q : List P2) : DFun Tryz.prog 28 [.loc 0 0, .fn (.func 29) [] [.loc 2 0]] [.mix 115 (srL (cvD w h ds) (f).l (.farr 1 (k))), .fam (fmQ (k) (q)), .mix 75 [.loc 0 0]] (.slf 3 (gtS f.has (w * 8).toNat ((h * 8).toNat * (w * 8).toNat)).length ((gtS f.has (w * 8).toNat ((h * 8).toNat * (w * 8).toNat)).flatMap s3)) [.mix 115 (srL (cvD w h ds) (f).l (.farr 1 (k))), .fam (fmQ (k) (q)), .mix 75 [.loc 0 0]] := by
  have hb := mayS_b hc.may
  have hW : ((w * 8).toNat : Int) = w * 8 := by omega
  have hH : ((h * 8).toNat : Int) = h * 8 := by omega
  have hWH : (h * 8).toNat * (w * 8).toNat ≤ 32 * 32 := Nat.mul_le_mul (by omega) (by omega)
  refine zan (N := 35) 3 (by kernel_rfl) Tryz.func28 rfl rfl rfl (by simp only [fr0, Nat.zero_add, Nat.reduceAdd]; exact rfl) rfl fun s0 hs0 => ?_
  refine zaf ?_
  refine zac ?_
  refine zab rfl rfl rfl (zad (.inr rfl) (ev1 rfl)) ?_
  refine zae ?_
  refine zaf ?_
  refine zac ?_
  refine zab rfl rfl rfl (zad (.inr rfl) (ev1 rfl)) ?_
  refine zae ?_
  refine zaf ?_
  refine dwp_adopt (m := 3) 5 41 3 rfl rfl rfl ?_
  refine dwp_hole ?_
  refine dwp_fam 4 rfl (by simp only [List.cons_append, List.nil_append, zaa, za]; exact rfl) ?_
  refine zac ?_
  refine zab rfl rfl rfl (zad (.inl rfl) (ev1 rfl)) ?_
  refine zab rfl rfl rfl (op_nc rfl (ev1 rfl) (fun s v h => by cases h; exact ⟨_, rfl⟩)) ?_
  refine zab rfl rfl rfl (op_fa rfl fo115_0 (ev1 rfl)) ?_
  refine zab rfl rfl rfl (op_ldm rfl tb29 (ev1 rfl) rfl (srL_0 rfl)) ?_
  refine zab rfl rfl rfl (zai [] [] [] rfl (ev1 rfl) (ec (ev1 rfl) en) rfl rfl (size_d w h ds ts hr hc) rfl rfl rfl rfl rfl rfl) ?_
  refine zab rfl rfl rfl (zad (.inl rfl) (ev1 rfl)) ?_
  refine zab rfl rfl rfl (op_ext rfl (ev1 rfl) rfl) ?_
  refine zab rfl rfl rfl (op_ext rfl (ev1 rfl) rfl) ?_
  refine zab rfl rfl rfl (zad (.inr rfl) (ev1 rfl)) ?_
  refine zab rfl rfl rfl (zad (.inr rfl) (ev1 rfl)) ?_
  refine zae ?_
  refine zaf ?_
  refine zaf ?_
  refine dwp_abs 5 4 rfl rfl rfl (by simp only [zaa, za]; exact rfl) ?_
  refine zac ?_
  refine zab rfl rfl rfl (zad (.inl rfl) (ev1 rfl)) ?_
  refine zab rfl rfl rfl (zad (.inl rfl) (ev1 rfl)) ?_
  refine zae ?_
  refine zak ?_
  refine dwp_loopS ⟨hs0, rfl⟩ (α := Nat) (fun y => [(5, .farr 4 (gtP f.has (w * 8).toNat (y * (w * 8).toNat)).length), (19, .val (.int .i64 (y : Int)))]) [(1, _), (6, _), (18, _)] (fun y => [(4, .fam (fmL ((gtP f.has (w * 8).toNat (y * (w * 8).toNat)).length) ((gtS f.has (w * 8).toNat (y * (w * 8).toNat)))))]) [_, _, _, _, .hole] (fun y => y ≤ (h * 8).toNat) (fun y => (h * 8).toNat - y) 0 [0, 1, 2, 3, 4] (Nat.zero_le _) rfl ⟨rfl, rfl, rfl, trivial⟩ ⟨by rw [Nat.zero_mul]; rfl, rfl, trivial⟩ ⟨zam rfl rfl rfl, rfl, rfl, rfl, by rw [Nat.zero_mul]; rfl, trivial⟩ ?_
  intro y hx
  simp only [upd, zaa, za, List.cons_append, List.nil_append]
  have hy0 := hx
  have hyW : y * (w * 8).toNat ≤ (h * 8).toNat * (w * 8).toNat := Nat.mul_le_mul_right _ hy0
  refine zaf ?_
  refine zac ?_
  refine zab rfl rfl rfl (op_lss rfl (ev1 rfl) (ev1 rfl)) ?_
  refine zae ?_
  refine zaf ?_
  refine dwp_cond rfl (fun c1 => ?_) (fun c1 => ?_)
  · try simp only [decide_eq_true_eq, decide_eq_false_iff_not, beq_iff_eq, bne_iff_ne, beq_eq_false_iff_ne, bne_eq_false_iff_eq, Bool.not_eq_true', Bool.not_eq_false', Bool.and_eq_true, Bool.or_eq_true, Bool.or_eq_false_iff, ne_eq, Decidable.not_not, Int.not_lt, Int.not_le] at c1
    refine zal ?_
    refine zaf ?_
    refine zak ?_
    refine zaf ?_
    refine zac ?_
    refine zab rfl rfl rfl (zad (.inl rfl) (ev1 rfl)) ?_
    refine zab rfl rfl rfl (zad (.inr rfl) (ev1 rfl)) ?_
    refine zae ?_
    refine zaf ?_
    refine zac ?_
    refine zab rfl rfl rfl (zad (.inl rfl) (ev1 rfl)) ?_
    refine zab rfl rfl rfl (zad (.inl rfl) (ev1 rfl)) ?_
    refine zae ?_
    refine zak ?_
    refine dwp_loopS ⟨hs0, rfl⟩ (α := Nat) (fun x => [(5, .farr 4 (gtP f.has (w * 8).toNat (y * (w * 8).toNat + x)).length), (23, .val (.int .i64 (x : Int)))]) [(1, _), (6, _), (8, _), (18, _), (19, _), (22, _)] (fun x => [(4, .fam (fmL ((gtP f.has (w * 8).toNat (y * (w * 8).toNat + x)).length) ((gtS f.has (w * 8).toNat (y * (w * 8).toNat + x)))))]) [_, _, _, _, .hole] (fun x => x ≤ (w * 8).toNat) (fun x => (w * 8).toNat - x) 0 [0, 1, 2, 3, 4] (Nat.zero_le _) rfl ⟨rfl, rfl, rfl, rfl, rfl, rfl, trivial⟩ ⟨by rw [Nat.add_zero]; rfl, rfl, trivial⟩ ⟨zam rfl rfl rfl, rfl, rfl, rfl, by rw [Nat.add_zero]; rfl, trivial⟩ ?_
    intro x hx
    simp only [upd, zaa, za, List.cons_append, List.nil_append]
    have hx0 := hx
    have hgl := gtS_len f.has (w * 8).toNat (y * (w * 8).toNat + x)
    have hgp := gtP_len f.has (w * 8).toNat (y * (w * 8).toNat + x)
    refine zaf ?_
    refine zac ?_
    refine zab rfl rfl rfl (op_lss rfl (ev1 rfl) (ev1 rfl)) ?_
    refine zae ?_
    refine zaf ?_
    refine dwp_cond rfl (fun c2 => ?_) (fun c2 => ?_)
    · try simp only [decide_eq_true_eq, decide_eq_false_iff_not, beq_iff_eq, bne_iff_ne, beq_eq_false_iff_ne, bne_eq_false_iff_eq, Bool.not_eq_true', Bool.not_eq_false', Bool.and_eq_true, Bool.or_eq_true, Bool.or_eq_false_iff, ne_eq, Decidable.not_not, Int.not_lt, Int.not_le] at c2
      refine zal ?_
      refine zaf ?_
      refine zak ?_
      refine zaf ?_
      refine zac ?_
      refine zab rfl rfl rfl (zad (.inl rfl) (ev1 rfl)) ?_
      refine zab rfl rfl rfl (zad (.inr rfl) (ev1 rfl)) ?_
      refine zae ?_
      by_cases hh : f.has (atN x y) = true
      · have hxW : x < (w * 8).toNat := by omega
        have hyH : y < (h * 8).toNat := by omega
        have hyW2 : (y + 1) * (w * 8).toNat ≤ (h * 8).toNat * (w * 8).toNat := Nat.mul_le_mul_right _ hyH
        rw [Nat.succ_mul] at hyW2
        have hpi : inF32 (atN x y) := by unfold inF32 atN; simp only; omega
        have hpo : onS w h (atN x y).x (atN x y).y = true := onS_iff.2 ⟨by show (0 : Int) ≤ (x : Int) ∧ (x : Int) < w * 8; omega, by show (0 : Int) ≤ (y : Int) ∧ (y : Int) < h * 8; omega⟩
        refine zac ?_
        refine zab rfl rfl rfl (zad (.inl rfl) (ev1 rfl)) ?_
        refine zab rfl rfl rfl (zad (.inl rfl) (ev1 rfl)) ?_
        refine zab rfl rfl rfl (zad (.inl rfl) (ev1 rfl)) ?_
        refine zab rfl rfl rfl (zad (.inl rfl) (ev1 rfl)) ?_
        refine zab rfl rfl rfl (op_build (ps := [(0, .tmp 28), (1, .tmp 29)]) rfl fl26 zr26 (vc (ev1 rfl) (vc (ev1 rfl) vn)) rfl rfl) ?_
        refine zaj rfl rfl rfl (zai [0, 1, 2, 4] [] [] rfl (ev1 rfl) (ec (ev1 rfl) (ec (ev1 rfl) en)) rfl (by exact mfits _ _ ⟨zam rfl rfl rfl, rfl, rfl, rfl, trivial⟩) (reg1_y w h ds f k q _ _ (by omega) (atN x y) hpi (gtS_end hxW) hh) rfl rfl rfl (by exact (wrc (sb_srx rfl rfl) (wrc rfl (wrc rfl (wrc rfl rfl))))) rfl rfl) (by simp only [upd, zaa, za]; exact rfl) ?_
        refine zab rfl rfl rfl (zad (.inr rfl) (ev1 rfl)) ?_
        refine zae ?_
        refine zac ?_
        refine zab rfl rfl rfl (op_add' rfl (ev1 rfl) (ev1 rfl) (fun _ => IntWalk.i64_in _ (by omega))) ?_
        refine zab rfl rfl rfl (zad (.inl rfl) (ev1 rfl)) ?_
        refine zae ?_
        refine ⟨x + 1, [0, 1, 2, 3, 4], by omega, by simp only []; omega, rfl, ⟨by rw [gtP_yes hxW hh, List.length_append]; rfl, rfl, rfl, rfl, rfl, rfl, rfl, rfl, trivial⟩, ⟨zam rfl rfl rfl, rfl, rfl, rfl, by rw [gtP_yes hxW hh, gtS_yes hxW hh, List.length_append]; rfl, trivial⟩⟩
      · have hh : f.has (atN x y) = false := by simpa using hh
        have hxW : x < (w * 8).toNat := by omega
        have hyH : y < (h * 8).toNat := by omega
        have hyW2 : (y + 1) * (w * 8).toNat ≤ (h * 8).toNat * (w * 8).toNat := Nat.mul_le_mul_right _ hyH
        rw [Nat.succ_mul] at hyW2
        have hpi : inF32 (atN x y) := by unfold inF32 atN; simp only; omega
        have hpo : onS w h (atN x y).x (atN x y).y = true := onS_iff.2 ⟨by show (0 : Int) ≤ (x : Int) ∧ (x : Int) < w * 8; omega, by show (0 : Int) ≤ (y : Int) ∧ (y : Int) < h * 8; omega⟩
        refine zac ?_
        refine zab rfl rfl rfl (zad (.inl rfl) (ev1 rfl)) ?_
        refine zab rfl rfl rfl (zad (.inl rfl) (ev1 rfl)) ?_
        refine zab rfl rfl rfl (zad (.inl rfl) (ev1 rfl)) ?_
        refine zab rfl rfl rfl (zad (.inl rfl) (ev1 rfl)) ?_
        refine zab rfl rfl rfl (op_build (ps := [(0, .tmp 28), (1, .tmp 29)]) rfl fl26 zr26 (vc (ev1 rfl) (vc (ev1 rfl) vn)) rfl rfl) ?_
        refine zaj rfl rfl rfl (zai [0, 1, 2, 4] [] [] rfl (ev1 rfl) (ec (ev1 rfl) (ec (ev1 rfl) en)) rfl (by exact mfits _ _ ⟨zam rfl rfl rfl, rfl, rfl, rfl, trivial⟩) (reg1_n w h ds f k q _ _ (by omega) (atN x y) hpi hh) rfl rfl rfl (by exact (wrc (sb_srx rfl rfl) (wrc rfl (wrc rfl (wrc rfl rfl))))) rfl rfl) (by simp only [upd, zaa, za]; exact rfl) ?_
        refine zab rfl rfl rfl (zad (.inr rfl) (ev1 rfl)) ?_
        refine zae ?_
        refine zac ?_
        refine zab rfl rfl rfl (op_add' rfl (ev1 rfl) (ev1 rfl) (fun _ => IntWalk.i64_in _ (by omega))) ?_
        refine zab rfl rfl rfl (zad (.inl rfl) (ev1 rfl)) ?_
        refine zae ?_
        refine ⟨x + 1, [0, 1, 2, 3, 4], by omega, by simp only []; omega, rfl, ⟨by rw [gtP_no hxW hh]; rfl, rfl, rfl, rfl, rfl, rfl, rfl, rfl, trivial⟩, ⟨zam rfl rfl rfl, rfl, rfl, rfl, by rw [gtP_no hxW hh, gtS_no hxW hh]; rfl, trivial⟩⟩
    · try simp only [decide_eq_true_eq, decide_eq_false_iff_not, beq_iff_eq, bne_iff_ne, beq_eq_false_iff_ne, bne_eq_false_iff_eq, Bool.not_eq_true', Bool.not_eq_false', Bool.and_eq_true, Bool.or_eq_true, Bool.or_eq_false_iff, ne_eq, Decidable.not_not, Int.not_lt, Int.not_le] at c2
      refine dwp_exit ?_
      refine zac ?_
      refine zab rfl rfl rfl (op_add' rfl (ev1 rfl) (ev1 rfl) (fun _ => IntWalk.i64_in _ (by omega))) ?_
      refine zab rfl rfl rfl (zad (.inl rfl) (ev1 rfl)) ?_
      refine zae ?_
      obtain rfl : x = (w * 8).toNat := by omega
      refine ⟨y + 1, [0, 1, 2, 3, 4], by omega, by simp only []; omega, rfl, ⟨by rw [Nat.succ_mul]; rfl, rfl, rfl, rfl, rfl, trivial⟩, ⟨zam rfl rfl rfl, rfl, rfl, rfl, by rw [Nat.succ_mul]; rfl, trivial⟩⟩
  · try simp only [decide_eq_true_eq, decide_eq_false_iff_not, beq_iff_eq, bne_iff_ne, beq_eq_false_iff_ne, bne_eq_false_iff_eq, Bool.not_eq_true', Bool.not_eq_false', Bool.and_eq_true, Bool.or_eq_true, Bool.or_eq_false_iff, ne_eq, Decidable.not_not, Int.not_lt, Int.not_le] at c1
    refine dwp_exit ?_
    refine zaf ?_
    refine zac ?_
    refine zab rfl rfl rfl (zad (.inl rfl) (ev1 rfl)) ?_
    refine zab rfl rfl rfl (zad (.inr rfl) (ev1 rfl)) ?_
    refine zae ?_
    refine dwp_hole ?_
    refine dwp_rel 4 4 (j := 5) rfl rfl (fmL_at _ _) rfl (by simp only [List.cons_append, List.nil_append, zaa, za]; exact rfl) ?_
    refine dwp_giveA 4 rfl rfl (by simp only [List.cons_append, List.nil_append, zaa, za]; exact rfl) ?_
    refine dwp_ret ?_
    obtain rfl : y = (h * 8).toNat := by omega
    refine kend [0, 1, 2] (rs1 rfl (rv_t rfl)) rfl rfl ?_ ⟨zam rfl rfl rfl, rfl, rfl, trivial⟩
    rfl
end Go.Proofs.YtfnhckildfbikaaGreat
