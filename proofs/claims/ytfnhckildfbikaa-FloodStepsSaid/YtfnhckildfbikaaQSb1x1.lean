/- Operations, one behind the other; a call by its contract; Operations that make memory, and write it. Conditions: what a type is, by the kernel; Ends of calls; structs built; bools and strings compared; least and greatest; slices taken over, and given up. Conditions: what a type is, by the kernel; From a contract to the statement: a law whose call returns true whatever its arguments read as; with listed variables, too.  but the kernel's look at the program; lines, rectangles, boxes, and what rows of spans have; what a row has, and how many; colours that are near; fields of numbers; regions; regions, filled, and steps; the law: regions; arguments that are opened; the law: rims; how many steps there are; the law: steps. No condition. -/
import Derived.Test.YtfnhckildfbikaaQ6
import Derived.Test.YtfnhckildfbikaaRows
namespace Go.Proofs.Ytfnhckildfbikaa
theorem ya {p : Prop} [Decidable p] : decide p = false ↔ ¬p := _root_.decide_eq_false_iff_not
theorem yb {α : Type _} [BEq α] [LawfulBEq α] {a b : α} : (a == b) = false ↔ a ≠ b := _root_.beq_eq_false_iff_ne
theorem yc {α : Type _} [BEq α] [LawfulBEq α] {a b : α} : (a != b) = false ↔ a = b := _root_.bne_eq_false_iff_eq
theorem yd {x y : Bool} : (x || y) = false ↔ x = false ∧ y = false := _root_.Bool.or_eq_false_iff
theorem ye {b : Bool} : ((!b) = false) = (b = true) := by cases b <;> simp
theorem yf {b : Bool} : ((!b) = true) = (b = false) := by cases b <;> simp
theorem yg {p : Prop} [Decidable p] : (decide p = true) = p := _root_.decide_eq_true_eq
theorem yh {a b : Bool} : ((a && b) = true) = (a = true ∧ b = true) := _root_.Bool.and_eq_true a b
theorem yi {a b : Bool} : ((a || b) = true) = (a = true ∨ b = true) := _root_.Bool.or_eq_true a b
theorem yj {p : Prop} [Decidable p] : ¬¬p ↔ p := _root_.Decidable.not_not
set_option linter.unusedVariables false
set_option linter.unusedSimpArgs false
open Go.RowKit
section
variable {P : Program} {s0 : St} {n : Cx} {ops : Array Oper}
theorem gd_ff {o : Oper} {F : Fr} {j t : Nat} {g b : Bool} (h : o.guard = some (j, false)) (ht : (ops[j]?).bind (·.dst) = some t) (hl : lk F t = some (.opt g (.val (.bool b)))) : Gd ops o F (g && !b) := by
  unfold Gd; rw [h]; exact ⟨t, g, b, ht, .inl hl, by simp⟩
end

/-! ### names turned back -/
section
variable {P : Program} {pc : Bool} {o : Oper} {F : Fr} {M : List Blk}
theorem op_stwb {T T' : TypeId} {x y : Operand} {i : Nat} {rw' : Bool} {z : Bool} {v : Value} (ho : o.op = .store T x y) (hT : tyB P T = some (rw', 1)) (hx : Ev pc F x (.loc i 0)) (hy : Ev pc F y (.val (.bool z))) (hM : M[i]? = some (.flat T' [v])) : DOp P pc o F M [i] .junk [(i, .flat T' [.bool z])] :=
  op_stw ho hT hx hy hM rfl rfl rfl rfl
end
section
variable {P : Program} {fn : Func} {F : Fr} {M : List Blk} {t u v : Tmp} {d d' e f dr : D}
end
section
variable {P : Program} {pc : Bool} {o : Oper} {F : Fr} {M : List Blk}

/-! ### structs built -/
theorem op_neb {T T' : TypeId} {x y : Operand} {p q : Bool} (ho : o.op = .binOp .neq T x y T') (hT : P.underlying T = some .bool) (hx : Ev pc F x (.val (.bool p))) (hy : Ev pc F y (.val (.bool q))) : DOp P pc o F M [] (.val (.bool (p != q))) [] :=
  op_nev ho hx hy (fun w => by unfold eqGuard; rfl) fun w => by
    have h : ∀ d, (Op.equalIn (d + 1) T (.bool p) (.bool q)).run P w = .ok (p == q) w := fun d => by simp [Op.equalIn, run_underlying hT]
    show (do pure (Value.bool (!(← Op.equalIn (9999 + 1) T (.bool p) (.bool q)))) : Sem Value).run P w = _
    rw [Sem.run_bind, h 9999]; rfl
end
section
variable {P : Program} {s0 : St} {n : Cx}
end
open Go.ChangeShapes Go.WideShapes Go.ChangeAt Go.RowKit Go.Joins Go.Deep
set_option maxRecDepth 100000
section
variable {H : Type} {enc : TypeId × Value → H} {w : World} {base b0 : Nat} {r : Reach} {spare : Nat → Bool} {held : Bool} {v : Value} {d : DataW H} {p : List MemPlace}
theorem open_struct {α : Type} {t : TypeId} {fs : Array Field} {ps : List Prim} (f : Nat) (en : α → List Value) (ok : α → Prop) (hP : ∀ cs, fitsP ps cs → ∃ a, ok a ∧ cs = en a) (hu : Try.prog.underlying t = some (.struct fs)) (hf : flatT Try.prog f t = some ps)
    (hv : Value.okWide Try.prog w r b0 t v) (h : DataW.Trod enc Try.prog w base spare held t v d p) : ∃ a, ok a ∧ v = .agg (en a).toArray := by
  obtain ⟨cs, rfl, hsz⟩ := okWide_struct hu hv
  obtain ⟨fuel, hfu⟩ := h
  obtain ⟨a, hr, e⟩ := hP _ (flat_trod f _ _ _ _ _ hf hfu)
  refine ⟨a, hr, ?_⟩
  have e2 : cs.toList = en a := e
  rw [← e2]
theorem open_arrayT {α : Type} {t e : TypeId} {n : Nat} {ps : List Prim} (f : Nat) (en : α → List Value) (ok : α → Prop) (hP : ∀ cs, fitsP ps cs → ∃ a, ok a ∧ cs = en a) (hu : Try.prog.underlying t = some (.array n e)) (hf : flatT Try.prog f t = some ps)
    (hv : Value.okWide Try.prog w r b0 t v) (h : DataW.Trod enc Try.prog w base spare held t v d p) : ∃ a, ok a ∧ v = .agg (en a).toArray := by
  simp only [Value.okWide, hu] at hv
  obtain ⟨cs, rfl, hsz, _⟩ := hv
  obtain ⟨fuel, hfu⟩ := h
  obtain ⟨a, hr, e⟩ := hP _ (flat_trod f _ _ _ _ _ hf hfu)
  refine ⟨a, hr, ?_⟩
  have e2 : cs.toList = en a := e
  rw [← e2]
end
set_option maxRecDepth 4000
def cntS (l : List Sp) : Nat := (l.map Sp.wd).sum
theorem pts_mem {s : Sp} {p : P2} : p ∈ s.pts ↔ s.has p.x p.y := by
  unfold Sp.pts Sp.has Sp.wd
  rw [List.mem_map]
  constructor
  · rintro ⟨i, hi, rfl⟩
    rw [List.mem_range] at hi
    exact ⟨rfl, by show s.f ≤ s.f + (i : Int); omega, by show s.f + (i : Int) ≤ s.t; omega⟩
  · rintro ⟨h1, h2, h3⟩
    refine ⟨(p.x - s.f).toNat, List.mem_range.2 (by omega), ?_⟩
    cases p
    simp only at *
    congr 1
    omega
theorem ptsS_mem {l : List Sp} {p : P2} : p ∈ ptsS l ↔ hasS l p.x p.y := by
  unfold ptsS hasS
  rw [List.mem_flatMap]
  exact ⟨fun ⟨s, h, g⟩ => ⟨s, h, pts_mem.1 g⟩, fun ⟨s, h, g⟩ => ⟨s, h, pts_mem.2 g⟩⟩
theorem ptsS_len (l : List Sp) : (ptsS l).length = cntS l := by
  unfold ptsS cntS
  rw [List.length_flatMap]
  congr 1
  exact List.map_congr_left fun s _ => by simp [Sp.pts]
set_option maxRecDepth 4000
theorem tb4 : tyB Try.prog 4 = some (false, 1) := by kernel_rfl
theorem zr4 : zrC Try.prog 4 = some [.bool false] := by kernel_rfl
noncomputable def hsrA : Code := rfA (pth [1, 0, 1, 1, 0, 1, 0] (bodyOf Try.f29))
noncomputable def hsrB : Code := rfB (pth [1, 0, 1, 1, 0, 1, 0] (bodyOf Try.f29))
def hitB (s : Sp) (p : P2) : Bool := decide (s.y = p.y) && (decide (s.f ≤ p.x) && decide (p.x ≤ s.t))
theorem hitB_iff {s : Sp} {p : P2} : hitB s p = true ↔ s.has p.x p.y := by
  unfold hitB Sp.has
  simp only [Bool.and_eq_true, decide_eq_true_eq]
def goB (s : Sp) (p : P2) : Bool := !decide (p.y < s.y) && !hitB s p
def hasB (l : List Sp) (p : P2) : Bool := decide (hasS l p.x p.y)
theorem hasB_stop {l : List Sp} (hc : chkS l) {p : P2} {i : Nat} (hi : i < l.length) (ha : (l.take i).all (fun s => goB s p) = true) (hg : goB l[i] p = false) : hasB l p = hitB l[i] p := by
  unfold hasB
  rw [Bool.eq_iff_iff, decide_eq_true_eq, hitB_iff]
  constructor
  · rintro ⟨s, hs, h⟩
    obtain ⟨j, hj, rfl⟩ := List.getElem_of_mem hs
    rcases Nat.lt_trichotomy j i with e | e | e
    · have := List.all_eq_true.1 ha l[j] (List.mem_take_iff_getElem.2 ⟨j, by omega, rfl⟩)
      unfold goB at this
      rw [hitB_iff.2 h] at this
      simp at this
    · subst e; exact h
    · unfold goB at hg
      cases hh : hitB l[i] p with
      | true => exact hitB_iff.1 hh
      | false =>
        rw [hh] at hg
        have h1 : p.y < l[i].y := by simpa using hg
        have h2 := List.pairwise_iff_getElem.1 hc.2 i j hi hj e
        have h3 := h.1
        unfold apS at h2
        omega
  · exact fun h => ⟨_, List.getElem_mem hi, h⟩
theorem hasB_end {l : List Sp} {p : P2} (ha : l.all (fun s => goB s p) = true) : hasB l p = false := by
  unfold hasB
  rw [decide_eq_false_iff_not]
  rintro ⟨s, hs, h⟩
  have := List.all_eq_true.1 ha s hs
  unfold goB at this
  rw [hitB_iff.2 h] at this
  simp at this
theorem all_add {α : Type} {q : α → Bool} {l : List α} {i : Nat} (hi : i < l.length) (h : (l.take i).all q = true) (hq : q l[i] = true) : (l.take (i + 1)).all q = true := by
  rw [List.take_succ_eq_append_getElem hi, List.all_append, h]
  simp [hq]
theorem all_no {α : Type} {q : α → Bool} {l : List α} {i : Nat} (hi : i < l.length) (hq : q l[i] = false) : l.all q = false := List.all_eq_false.2 ⟨_, List.getElem_mem hi, by simp [hq]⟩
set_option maxRecDepth 4000 in
set_option maxHeartbeats 1000000 in
theorem hasRound_y (s : Sp) (p : P2) (b : Bool) (h : p.y < s.y) : DRound Try.prog 0 [.val (.agg (s3 s).toArray)] [.lp 35 [(3, .loc 1 0), (5, .loc 2 0)] #[9] hsrA hsrB .ready none, .flat 34 [.int .i64 p.x, .int .i64 p.y], .flat 4 [.bool b]] false [.lp 35 [(3, .loc 1 0), (5, .loc 2 0)] #[9] hsrA hsrB .done (some (.exit 0)), .flat 34 [.int .i64 p.x, .int .i64 p.y], .flat 4 [.bool b]] := by
  refine dround_go 3 rfl rfl (by simp) rfl rfl fun s0 hs0 => ?_
  refine zai 1 (by simp only [holes, List.cons_append, List.nil_append]; exact rfl) ?_
  refine zad ?_
  refine zaj rfl rfl rfl (op_alloc 3 rfl zr53 rfl) (by simp only [upd, zaa, za]; exact rfl) ?_
  refine walk_s rfl rfl (op_stwa rfl tb53 (ev1 rfl) (ev1 rfl) rfl rfl rfl rfl) (by simp only [upd, zaa, za]; exact rfl) ?_
  refine zae ?_
  refine ⟨rfl, ?_⟩
  simp only [zaa, za]
  refine zal ?_
  refine zaf ?_
  refine zaf ?_
  refine zad ?_
  refine zab rfl rfl rfl (op_fa rfl fo53_0 (ev1 rfl)) ?_
  refine zab rfl rfl rfl (zam rfl tb3 (ev1 rfl) rfl rfl) ?_
  refine zab rfl rfl rfl (op_fa rfl fo34_1 (ev1 rfl)) ?_
  refine zab rfl rfl rfl (zam rfl tb3 (ev1 rfl) rfl rfl) ?_
  refine zab rfl rfl rfl (op_gtr rfl (ev1 rfl) (ev1 rfl)) ?_
  refine zae ?_
  refine dwp_if_t rfl (by simpa using h) ?_
  refine dwp_exit ?_
  refine ⟨by first | rfl | assumption | simp_all, rfl, [0, 1, 2], rfl, ⟨rfl, rfl, rfl, trivial⟩⟩
set_option maxRecDepth 4000 in
set_option maxHeartbeats 1000000 in
theorem hasRound_t (s : Sp) (p : P2) (b : Bool) (h : ¬ p.y < s.y ∧ hitB s p = true) : DRound Try.prog 0 [.val (.agg (s3 s).toArray)] [.lp 35 [(3, .loc 1 0), (5, .loc 2 0)] #[9] hsrA hsrB .ready none, .flat 34 [.int .i64 p.x, .int .i64 p.y], .flat 4 [.bool b]] false [.lp 35 [(3, .loc 1 0), (5, .loc 2 0)] #[9] hsrA hsrB .done (some (.exit 0)), .flat 34 [.int .i64 p.x, .int .i64 p.y], .flat 4 [.bool true]] := by
  refine dround_go 3 rfl rfl (by simp) rfl rfl fun s0 hs0 => ?_
  refine zai 1 (by simp only [holes, List.cons_append, List.nil_append]; exact rfl) ?_
  refine zad ?_
  refine zaj rfl rfl rfl (op_alloc 3 rfl zr53 rfl) (by simp only [upd, zaa, za]; exact rfl) ?_
  refine walk_s rfl rfl (op_stwa rfl tb53 (ev1 rfl) (ev1 rfl) rfl rfl rfl rfl) (by simp only [upd, zaa, za]; exact rfl) ?_
  refine zae ?_
  refine ⟨rfl, ?_⟩
  simp only [zaa, za]
  refine zal ?_
  refine zaf ?_
  refine zaf ?_
  refine zad ?_
  refine zab rfl rfl rfl (op_fa rfl fo53_0 (ev1 rfl)) ?_
  refine zab rfl rfl rfl (zam rfl tb3 (ev1 rfl) rfl rfl) ?_
  refine zab rfl rfl rfl (op_fa rfl fo34_1 (ev1 rfl)) ?_
  refine zab rfl rfl rfl (zam rfl tb3 (ev1 rfl) rfl rfl) ?_
  refine zab rfl rfl rfl (op_gtr rfl (ev1 rfl) (ev1 rfl)) ?_
  refine zae ?_
  refine dwp_if_f rfl (by simpa using h.1) ?_
  refine zak ?_
  refine zaf ?_
  refine zad ?_
  refine zab rfl rfl rfl (op_fa rfl fo53_0 (ev1 rfl)) ?_
  refine zab rfl rfl rfl (zam rfl tb3 (ev1 rfl) rfl rfl) ?_
  refine zab rfl rfl rfl (op_fa rfl fo34_1 (ev1 rfl)) ?_
  refine zab rfl rfl rfl (zam rfl tb3 (ev1 rfl) rfl rfl) ?_
  refine zab rfl rfl rfl (op_eql rfl (ev1 rfl) (ev1 rfl)) ?_
  refine zab rfl rfl rfl (zac (.inl rfl) (ev1 rfl)) ?_
  refine walk_gr (gd_t rfl rfl rfl) rfl rfl rfl (op_fa rfl fo53_1 (ev1 rfl)) ?_
  refine walk_gr (gd_t rfl rfl rfl) rfl rfl rfl (zam rfl tb3 (ev2 rfl) rfl rfl) ?_
  refine walk_gr (gd_t rfl rfl rfl) rfl rfl rfl (op_fa rfl fo34_0 (ev1 rfl)) ?_
  refine walk_gr (gd_t rfl rfl rfl) rfl rfl rfl (zam rfl tb3 (ev2 rfl) rfl rfl) ?_
  refine walk_gr (gd_t rfl rfl rfl) rfl rfl rfl (op_leq rfl (ev2 rfl) (ev2 rfl)) ?_
  refine zab rfl rfl rfl (op_and rfl (ev1 rfl) (ev3 rfl id)) ?_
  refine zab rfl rfl rfl (zac (.inl rfl) (ev1 rfl)) ?_
  refine walk_gr (gd_t rfl rfl rfl) rfl rfl rfl (op_fa rfl fo34_0 (ev1 rfl)) ?_
  refine walk_gr (gd_t rfl rfl rfl) rfl rfl rfl (zam rfl tb3 (ev2 rfl) rfl rfl) ?_
  refine walk_gr (gd_t rfl rfl rfl) rfl rfl rfl (op_fa rfl fo53_2 (ev1 rfl)) ?_
  refine walk_gr (gd_t rfl rfl rfl) rfl rfl rfl (zam rfl tb3 (ev2 rfl) rfl rfl) ?_
  refine walk_gr (gd_t rfl rfl rfl) rfl rfl rfl (op_leq rfl (ev2 rfl) (ev2 rfl)) ?_
  refine zab rfl rfl rfl (op_and rfl (ev1 rfl) (ev3 rfl id)) ?_
  refine zae ?_
  refine dwp_if_t rfl (by have := h.2; unfold hitB at this; simp at this; simp [this]) ?_
  refine zaf ?_
  refine zad ?_
  refine walk_s rfl rfl (op_stwb rfl tb4 (ev1 rfl) (ev1 rfl) rfl) (by simp only [upd, zaa, za]; exact rfl) ?_
  refine zae ?_
  refine dwp_exit ?_
  refine ⟨by first | rfl | assumption | simp_all, rfl, [0, 1, 2], rfl, ⟨rfl, rfl, rfl, trivial⟩⟩
set_option maxRecDepth 4000 in
set_option maxHeartbeats 1000000 in
theorem hasRound_g (s : Sp) (p : P2) (b : Bool) (h : ¬ p.y < s.y ∧ hitB s p = false) : DRound Try.prog 0 [.val (.agg (s3 s).toArray)] [.lp 35 [(3, .loc 1 0), (5, .loc 2 0)] #[9] hsrA hsrB .ready none, .flat 34 [.int .i64 p.x, .int .i64 p.y], .flat 4 [.bool b]] true [.lp 35 [(3, .loc 1 0), (5, .loc 2 0)] #[9] hsrA hsrB .ready none, .flat 34 [.int .i64 p.x, .int .i64 p.y], .flat 4 [.bool b]] := by
  refine dround_go 3 rfl rfl (by simp) rfl rfl fun s0 hs0 => ?_
  refine zai 1 (by simp only [holes, List.cons_append, List.nil_append]; exact rfl) ?_
  refine zad ?_
  refine zaj rfl rfl rfl (op_alloc 3 rfl zr53 rfl) (by simp only [upd, zaa, za]; exact rfl) ?_
  refine walk_s rfl rfl (op_stwa rfl tb53 (ev1 rfl) (ev1 rfl) rfl rfl rfl rfl) (by simp only [upd, zaa, za]; exact rfl) ?_
  refine zae ?_
  refine ⟨rfl, ?_⟩
  simp only [zaa, za]
  refine zal ?_
  refine zaf ?_
  refine zaf ?_
  refine zad ?_
  refine zab rfl rfl rfl (op_fa rfl fo53_0 (ev1 rfl)) ?_
  refine zab rfl rfl rfl (zam rfl tb3 (ev1 rfl) rfl rfl) ?_
  refine zab rfl rfl rfl (op_fa rfl fo34_1 (ev1 rfl)) ?_
  refine zab rfl rfl rfl (zam rfl tb3 (ev1 rfl) rfl rfl) ?_
  refine zab rfl rfl rfl (op_gtr rfl (ev1 rfl) (ev1 rfl)) ?_
  refine zae ?_
  refine dwp_if_f rfl (by simpa using h.1) ?_
  refine zak ?_
  refine zaf ?_
  refine zad ?_
  refine zab rfl rfl rfl (op_fa rfl fo53_0 (ev1 rfl)) ?_
  refine zab rfl rfl rfl (zam rfl tb3 (ev1 rfl) rfl rfl) ?_
  refine zab rfl rfl rfl (op_fa rfl fo34_1 (ev1 rfl)) ?_
  refine zab rfl rfl rfl (zam rfl tb3 (ev1 rfl) rfl rfl) ?_
  refine zab rfl rfl rfl (op_eql rfl (ev1 rfl) (ev1 rfl)) ?_
  refine zab rfl rfl rfl (zac (.inl rfl) (ev1 rfl)) ?_
  refine walk_gr (gd_t rfl rfl rfl) rfl rfl rfl (op_fa rfl fo53_1 (ev1 rfl)) ?_
  refine walk_gr (gd_t rfl rfl rfl) rfl rfl rfl (zam rfl tb3 (ev2 rfl) rfl rfl) ?_
  refine walk_gr (gd_t rfl rfl rfl) rfl rfl rfl (op_fa rfl fo34_0 (ev1 rfl)) ?_
  refine walk_gr (gd_t rfl rfl rfl) rfl rfl rfl (zam rfl tb3 (ev2 rfl) rfl rfl) ?_
  refine walk_gr (gd_t rfl rfl rfl) rfl rfl rfl (op_leq rfl (ev2 rfl) (ev2 rfl)) ?_
  refine zab rfl rfl rfl (op_and rfl (ev1 rfl) (ev3 rfl id)) ?_
  refine zab rfl rfl rfl (zac (.inl rfl) (ev1 rfl)) ?_
  refine walk_gr (gd_t rfl rfl rfl) rfl rfl rfl (op_fa rfl fo34_0 (ev1 rfl)) ?_
  refine walk_gr (gd_t rfl rfl rfl) rfl rfl rfl (zam rfl tb3 (ev2 rfl) rfl rfl) ?_
  refine walk_gr (gd_t rfl rfl rfl) rfl rfl rfl (op_fa rfl fo53_2 (ev1 rfl)) ?_
  refine walk_gr (gd_t rfl rfl rfl) rfl rfl rfl (zam rfl tb3 (ev2 rfl) rfl rfl) ?_
  refine walk_gr (gd_t rfl rfl rfl) rfl rfl rfl (op_leq rfl (ev2 rfl) (ev2 rfl)) ?_
  refine zab rfl rfl rfl (op_and rfl (ev1 rfl) (ev3 rfl id)) ?_
  refine zae ?_
  refine dwp_if_f rfl (by rw [← h.2]; unfold hitB; simp [Bool.and_assoc]; rfl) ?_
  refine zak ?_
  refine ⟨by first | rfl | assumption | simp_all, rfl, [0, 1, 2], rfl, ⟨rfl, rfl, rfl, trivial⟩⟩
theorem hasRound (s : Sp) (p : P2) : DRound Try.prog 0 [.val (.agg (s3 s).toArray)] [.lp 35 [(3, .loc 1 0), (5, .loc 2 0)] #[9] hsrA hsrB .ready none, .flat 34 [.int .i64 p.x, .int .i64 p.y], .flat 4 [.bool false]] (goB s p) [.lp 35 [(3, .loc 1 0), (5, .loc 2 0)] #[9] hsrA hsrB (rst (goB s p)) (rpe (.exit 0) (goB s p)), .flat 34 [.int .i64 p.x, .int .i64 p.y], .flat 4 [.bool (hitB s p)]] := by
  by_cases h : p.y < s.y
  · have e : goB s p = false := by unfold goB; simp [h]
    have e2 : hitB s p = false := by unfold hitB; rw [decide_eq_false (by omega)]; rfl
    rw [e, e2]
    exact hasRound_y s p false h
  · cases hh : hitB s p with
    | true =>
      have e : goB s p = false := by unfold goB; simp [hh]
      rw [e]
      exact hasRound_t s p false ⟨h, hh⟩
    | false =>
      have e : goB s p = true := by unfold goB; simp [hh]; omega
      rw [e]
      exact hasRound_g s p false ⟨h, hh⟩
set_option maxRecDepth 4000 in
set_option maxHeartbeats 1000000 in
theorem told_has (l : List Sp) (hc : chkS l) (p : P2) (hn : l.length ≤ 9223372036854775807) : DFun Try.prog 86 [.yld 0, .loc 3 0] [.lp 35 [(3, .loc 1 0), (5, .loc 2 0)] #[9] hsrA hsrB .ready none, .flat 34 [.int .i64 p.x, .int .i64 p.y], .flat 4 [.bool false], .mix 35 [.slf 3 l.length (l.flatMap s3)]] (.tup []) [.lp 35 [(3, .loc 1 0), (5, .loc 2 0)] #[9] hsrA hsrB (rst (l.all fun s => goB s p)) (rpe (.exit 0) (l.all fun s => goB s p)), .flat 34 [.int .i64 p.x, .int .i64 p.y], .flat 4 [.bool (hasB l p)], .mix 35 [.slf 3 l.length (l.flatMap s3)]] := by
  refine zan (N := 19) 4 (by kernel_rfl) Try.func86 rfl rfl rfl (by simp only [fr0, Nat.zero_add, Nat.reduceAdd]; exact rfl) rfl fun s0 hs0 => ?_
  refine zaf ?_
  refine zaf ?_
  refine zad ?_
  refine zab rfl rfl rfl (op_ldm rfl tb35 (ev1 rfl) rfl rfl) ?_
  refine zab rfl rfl rfl (zah [] [] [] rfl (ev1 rfl) (ec (ev1 rfl) en) rfl rfl (check_d l) rfl rfl rfl rfl rfl rfl) ?_
  refine zab rfl rfl rfl (op_neq rfl (ev1 rfl) (ev1 rfl)) ?_
  refine zae ?_
  refine dwp_if_f rfl (by rw [chkE_ok hc]; rfl) ?_
  refine zak ?_
  refine zaf ?_
  refine zad ?_
  refine zab rfl rfl rfl (op_ldm rfl tb35 (ev1 rfl) rfl rfl) ?_
  refine zab rfl rfl rfl (op_len rfl sl35 (ev1 rfl)) ?_
  refine zab rfl rfl rfl (zac (.inl rfl) (ev1 rfl)) ?_
  refine zae ?_
  refine zal ?_
  refine dwp_loopS ⟨hs0, rfl⟩ (α := Nat) (fun i => [(10, .val (.int .i64 (i : Int)))]) [(0, _), (8, _), (9, _)] (fun i => []) [_, _, _, _] (fun i => i ≤ l.length ∧ (l.take i).all (fun s => goB s p) = true) (fun i => l.length - i) 0 [0, 1, 2, 3] (⟨Nat.zero_le _, rfl⟩) rfl ⟨rfl, rfl, rfl, trivial⟩ ⟨rfl, trivial⟩ ⟨rfl, rfl, rfl, rfl, trivial⟩ ?_
  intro i hx
  simp only [upd, zaa, za, List.cons_append, List.nil_append]
  obtain ⟨hi0, hall⟩ := hx
  refine zaf ?_
  refine zad ?_
  refine zab rfl rfl rfl (op_lss rfl (ev1 rfl) (ev1 rfl)) ?_
  refine zae ?_
  refine zaf ?_
  refine dwp_cond rfl (fun c2 => ?_) (fun c2 => ?_)
  · try simp only [yg, ya, beq_iff_eq, bne_iff_ne, yb, yc, yf, ye, yh, yi, yd, ne_eq, yj, Int.not_lt, Int.not_le] at c2
    refine zak ?_
    refine zaf ?_
    refine zal ?_
    refine zaf ?_
    have hi : i < l.length := by omega
    refine zai 1 (by simp only [holes, List.cons_append, List.nil_append]; exact rfl) ?_
    refine zad ?_
    refine zab rfl rfl rfl (op_ixsr (j := i) rfl sl35 (ev1 rfl) (ev1 rfl) (fun _ => rfl) (by decide) (by omega) (by omega)) ?_
    refine zab rfl rfl rfl (op_ldwd rfl tb53 (ev1 rfl) rfl) ?_
    refine zaj rfl rfl rfl (op_alloc 4 rfl zr53 rfl) (by simp only [upd, zaa, za]; exact rfl) ?_
    refine walk_s rfl rfl (op_stwa rfl tb53 (ev1 rfl) (ev1 rfl) rfl rfl rfl rfl) (by simp only [upd, zaa, za]; exact rfl) ?_
    refine zae ?_
    refine zaf ?_
    refine zad ?_
    refine zab rfl rfl rfl (zac (.inl rfl) (ev1 rfl)) ?_
    refine zab rfl rfl rfl (op_ldw rfl tb53 (ev1 rfl) rfl rfl) ?_
    refine zaj rfl rfl rfl (op_y (i := 0) [0, 1, 2] [] [] rfl (ev1 rfl) (ec (ev1 rfl) en) rfl rfl rfl (hasRound l[i] p) rfl rfl rfl rfl rfl) (by simp only [upd, zaa, za]; exact rfl) ?_
    refine zab rfl rfl rfl (op_not rfl (ev1 rfl)) ?_
    refine zae ?_
    refine dwp_cond rfl (fun c2 => ?_) (fun c2 => ?_)
    · have hg : goB l[i] p = false := by simpa using c2
      refine zao ?_
      have e1 := hasB_stop hc hi hall hg
      have e2 := all_no (q := fun s => goB s p) hi hg
      rw [e1, e2, hg]
      refine kend [0, 1, 2, 3] (res_none rfl) rfl rfl ?_ ⟨rfl, rfl, rfl, rfl, trivial⟩
      rfl
    · have hg : goB l[i] p = true := by simpa using c2
      refine zak ?_
      refine zad ?_
      refine zab rfl rfl rfl (op_add' rfl (ev1 rfl) (ev1 rfl) (fun _ => IntWalk.i64_in _ (by omega))) ?_
      refine zab rfl rfl rfl (zac (.inl rfl) (ev1 rfl)) ?_
      refine zae ?_
      have hnh : hitB l[i] p = false := by unfold goB at hg; revert hg; cases hitB l[i] p <;> simp
      rw [hg, hnh]
      refine ⟨i + 1, [0, 1, 2, 3], ⟨by omega, all_add hi hall hg⟩, by simp only []; omega, rfl, ⟨rfl, rfl, rfl, rfl, trivial⟩, ⟨rfl, rfl, rfl, rfl, trivial⟩⟩
  · try simp only [yg, ya, beq_iff_eq, bne_iff_ne, yb, yc, yf, ye, yh, yi, yd, ne_eq, yj, Int.not_lt, Int.not_le] at c2
    refine dwp_exit ?_
    rw [take_all (by omega)] at hall
    have e1 := hasB_end hall
    rw [e1, hall]
    refine kend [0, 1, 2, 3] (res_none rfl) rfl rfl ?_ ⟨rfl, rfl, rfl, rfl, trivial⟩
    rfl
set_option maxRecDepth 4000 in
set_option maxHeartbeats 1000000 in
theorem told_has_no (l : List Sp) (hc : ¬ chkS l) (p : P2) : DFun Try.prog 86 [.yld 0, .loc 3 0] [.lp 35 [(3, .loc 1 0), (5, .loc 2 0)] #[9] hsrA hsrB .ready none, .flat 34 [.int .i64 p.x, .int .i64 p.y], .flat 4 [.bool false], .mix 35 [.slf 3 l.length (l.flatMap s3)]] (.tup []) [.lp 35 [(3, .loc 1 0), (5, .loc 2 0)] #[9] hsrA hsrB .ready none, .flat 34 [.int .i64 p.x, .int .i64 p.y], .flat 4 [.bool false], .mix 35 [.slf 3 l.length (l.flatMap s3)]] := by
  refine zan (N := 19) 4 (by kernel_rfl) Try.func86 rfl rfl rfl (by simp only [fr0, Nat.zero_add, Nat.reduceAdd]; exact rfl) rfl fun s0 hs0 => ?_
  refine zaf ?_
  refine zaf ?_
  refine zad ?_
  refine zab rfl rfl rfl (op_ldm rfl tb35 (ev1 rfl) rfl rfl) ?_
  refine zab rfl rfl rfl (zah [] [] [] rfl (ev1 rfl) (ec (ev1 rfl) en) rfl rfl (check_d l) rfl rfl rfl rfl rfl rfl) ?_
  refine zab rfl rfl rfl (op_neq rfl (ev1 rfl) (ev1 rfl)) ?_
  refine zae ?_
  refine dwp_if_t rfl (by rw [chkE_no hc]; rfl) ?_
  refine zao ?_
  refine kend [0, 1, 2, 3] (res_none rfl) rfl rfl ?_ ⟨rfl, rfl, rfl, rfl, trivial⟩
  rfl
set_option maxRecDepth 4000 in
set_option maxHeartbeats 1000000 in
theorem has_ok (l : List Sp) (hc : chkS l) (p : P2) : DFun Try.prog 29 [.slf 3 l.length (l.flatMap s3), .val (.agg #[.int .i64 p.x, .int .i64 p.y])] [] (.val (.bool (hasB l p))) [] := by
  refine zan (N := 35) 0 (by kernel_rfl) Try.func29 rfl rfl rfl (by simp only [fr0, Nat.zero_add, Nat.reduceAdd]; exact rfl) rfl fun s0 hs0 => ?_
  refine dwp_len (t := 0) rfl fun hl0 hL0 => ?_
  refine zaf ?_
  refine zai 1 (by simp only [holes, List.cons_append, List.nil_append]; exact rfl) ?_
  refine zad ?_
  refine zaj rfl rfl rfl (op_boxa 0 rfl (ev1 rfl) rfl) (by simp only [upd, zaa, za]; exact rfl) ?_
  refine zab rfl rfl rfl (zac (.inr rfl) (ev1 rfl)) ?_
  refine zae ?_
  refine dwp_scope ?_
  refine zaf ?_
  refine zai 1 (by simp only [holes, List.cons_append, List.nil_append]; exact rfl) ?_
  refine zad ?_
  refine zaj rfl rfl rfl (op_alloc 1 rfl zr4 rfl) (by simp only [upd, zaa, za]; exact rfl) ?_
  refine walk_s rfl rfl (op_stwb rfl tb4 (ev1 rfl) (ev1 rfl) rfl) (by simp only [upd, zaa, za]; exact rfl) ?_
  refine zae ?_
  refine zaf ?_
  refine dwp_label ?_
  refine zaf ?_
  refine zaf ?_
  refine zai 1 (by simp only [holes, List.cons_append, List.nil_append]; exact rfl) ?_
  refine zad ?_
  refine zab rfl rfl rfl (zac (.inl rfl) (ev1 rfl)) ?_
  refine zaj rfl rfl rfl (zah [] [] [2] rfl (ev1 rfl) (ec (ev1 rfl) en) rfl rfl (told_d l) rfl rfl rfl rfl rfl rfl) (by simp only [upd, zaa, za]; exact rfl) ?_
  refine zae ?_
  refine zal ?_
  refine dwp_hole ?_
  simp only [List.cons_append, List.nil_append]
  refine dwp_rf (FL := [(3, _), (5, _)]) (st := (rst (l.all fun s => goB s p))) (pe := (rpe (.exit 0) (l.all fun s => goB s p))) [3, 0, 1, 2] [] [] 3 rfl rfl (ev1 rfl) rfl (subF_lk ⟨rfl, rfl, trivial⟩) rfl rfl rfl (told_has l hc p hl0) rfl rfl rfl rfl rfl rfl rfl (rst_busy _) (fun e => ?_) (fun c e => ?_)
  · simp only [upd, zaa, za]
    refine zaf ?_
    refine zad ?_
    refine zab rfl rfl rfl (zam rfl tb4 (ev1 rfl) rfl rfl) ?_
    refine zab rfl rfl rfl (zac (.inr rfl) (ev1 rfl)) ?_
    refine zae ?_
    refine zao ?_
    refine kend0 (rs1 rfl (rv_t rfl)) rfl ?_
    rfl
  · obtain ⟨e1, rfl⟩ : (l.all fun s => goB s p) = false ∧ c = .exit 0 := by
      cases h : (l.all fun s => goB s p) <;> simp_all [rpe]
    simp only [upd, zaa, za]
    refine dwp_exit ?_
    refine zaf ?_
    refine zad ?_
    refine zab rfl rfl rfl (zam rfl tb4 (ev1 rfl) rfl rfl) ?_
    refine zab rfl rfl rfl (zac (.inr rfl) (ev1 rfl)) ?_
    refine zae ?_
    refine zao ?_
    refine kend0 (rs1 rfl (rv_t rfl)) rfl ?_
    rfl
set_option maxRecDepth 4000 in
set_option maxHeartbeats 1000000 in
theorem has_no (l : List Sp) (hc : ¬ chkS l) (p : P2) : DFun Try.prog 29 [.slf 3 l.length (l.flatMap s3), .val (.agg #[.int .i64 p.x, .int .i64 p.y])] [] (.val (.bool false)) [] := by
  refine zan (N := 35) 0 (by kernel_rfl) Try.func29 rfl rfl rfl (by simp only [fr0, Nat.zero_add, Nat.reduceAdd]; exact rfl) rfl fun s0 hs0 => ?_
  refine dwp_len (t := 0) rfl fun hl0 hL0 => ?_
  refine zaf ?_
  refine zai 1 (by simp only [holes, List.cons_append, List.nil_append]; exact rfl) ?_
  refine zad ?_
  refine zaj rfl rfl rfl (op_boxa 0 rfl (ev1 rfl) rfl) (by simp only [upd, zaa, za]; exact rfl) ?_
  refine zab rfl rfl rfl (zac (.inr rfl) (ev1 rfl)) ?_
  refine zae ?_
  refine dwp_scope ?_
  refine zaf ?_
  refine zai 1 (by simp only [holes, List.cons_append, List.nil_append]; exact rfl) ?_
  refine zad ?_
  refine zaj rfl rfl rfl (op_alloc 1 rfl zr4 rfl) (by simp only [upd, zaa, za]; exact rfl) ?_
  refine walk_s rfl rfl (op_stwb rfl tb4 (ev1 rfl) (ev1 rfl) rfl) (by simp only [upd, zaa, za]; exact rfl) ?_
  refine zae ?_
  refine zaf ?_
  refine dwp_label ?_
  refine zaf ?_
  refine zaf ?_
  refine zai 1 (by simp only [holes, List.cons_append, List.nil_append]; exact rfl) ?_
  refine zad ?_
  refine zab rfl rfl rfl (zac (.inl rfl) (ev1 rfl)) ?_
  refine zaj rfl rfl rfl (zah [] [] [2] rfl (ev1 rfl) (ec (ev1 rfl) en) rfl rfl (told_d l) rfl rfl rfl rfl rfl rfl) (by simp only [upd, zaa, za]; exact rfl) ?_
  refine zae ?_
  refine zal ?_
  refine dwp_hole ?_
  simp only [List.cons_append, List.nil_append]
  refine dwp_rf (FL := [(3, _), (5, _)]) (st := .ready) (pe := none) [3, 0, 1, 2] [] [] 3 rfl rfl (ev1 rfl) rfl (subF_lk ⟨rfl, rfl, trivial⟩) rfl rfl rfl (told_has_no l hc p) rfl rfl rfl rfl rfl rfl rfl (by simp) (fun e => ?_) (fun c e => ?_)
  · simp only [upd, zaa, za]
    refine zaf ?_
    refine zad ?_
    refine zab rfl rfl rfl (zam rfl tb4 (ev1 rfl) rfl rfl) ?_
    refine zab rfl rfl rfl (zac (.inr rfl) (ev1 rfl)) ?_
    refine zae ?_
    refine zao ?_
    refine kend0 (rs1 rfl (rv_t rfl)) rfl ?_
    rfl
  · cases e
def hasL (l : List Sp) (p : P2) : Bool := decide (chkS l) && hasB l p
theorem has_d (l : List Sp) (p : P2) : DFun Try.prog 29 [.slf 3 l.length (l.flatMap s3), .val (.agg #[.int .i64 p.x, .int .i64 p.y])] [] (.val (.bool (hasL l p))) [] := by
  by_cases hc : chkS l
  · have e : hasL l p = hasB l p := by unfold hasL; rw [decide_eq_true hc]; rfl
    rw [e]; exact has_ok l hc p
  · have e : hasL l p = false := by unfold hasL; rw [decide_eq_false hc]; rfl
    rw [e]; exact has_no l hc p
noncomputable def cntA : Code := rfA (pth [1, 1, 0, 1, 0] (bodyOf Try.f30))
noncomputable def cntB : Code := rfB (pth [1, 1, 0, 1, 0] (bodyOf Try.f30))
set_option maxRecDepth 4000 in
set_option maxHeartbeats 1000000 in
theorem cntRound (s : Sp) (c : Nat) (hs : rchS s ∧ s.f ≤ s.t) (hc : c ≤ 1000000000) : DRound Try.prog 0 [.val (.agg (s3 s).toArray)] [.lp 17 [(3, .loc 1 0)] #[7] cntA cntB .ready none, .flat 3 [.int .i64 (c : Int)]] true [.lp 17 [(3, .loc 1 0)] #[7] cntA cntB .ready none, .flat 3 [.int .i64 ((c + s.wd : Nat) : Int)]] := by
  obtain ⟨hr, hft⟩ := hs
  unfold rchS at hr
  have hw : ((c + s.wd : Nat) : Int) = (c : Int) + (s.t - s.f + 1) := by unfold Sp.wd; omega
  rw [hw]
  refine dround_go 2 rfl rfl (by simp) rfl rfl fun s0 hs0 => ?_
  refine zai 1 (by simp only [holes, List.cons_append, List.nil_append]; exact rfl) ?_
  refine zad ?_
  refine zaj rfl rfl rfl (op_alloc 2 rfl zr53 rfl) (by simp only [upd, zaa, za]; exact rfl) ?_
  refine walk_s rfl rfl (op_stwa rfl tb53 (ev1 rfl) (ev1 rfl) rfl rfl rfl rfl) (by simp only [upd, zaa, za]; exact rfl) ?_
  refine zae ?_
  refine ⟨rfl, ?_⟩
  simp only [zaa, za]
  refine zal ?_
  refine zad ?_
  refine zab rfl rfl rfl (zam rfl tb3 (ev1 rfl) rfl rfl) ?_
  refine zab rfl rfl rfl (op_fa rfl fo53_2 (ev1 rfl)) ?_
  refine zab rfl rfl rfl (zam rfl tb3 (ev1 rfl) rfl rfl) ?_
  refine zab rfl rfl rfl (op_fa rfl fo53_1 (ev1 rfl)) ?_
  refine zab rfl rfl rfl (zam rfl tb3 (ev1 rfl) rfl rfl) ?_
  refine zab rfl rfl rfl (op_sub' rfl (ev1 rfl) (ev1 rfl) (fun _ => IntWalk.i64_in _ (by omega))) ?_
  refine zab rfl rfl rfl (op_add' rfl (ev1 rfl) (ev1 rfl) (fun _ => IntWalk.i64_in _ (by omega))) ?_
  refine zab rfl rfl rfl (op_add' rfl (ev1 rfl) (ev1 rfl) (fun _ => IntWalk.i64_in _ (by omega))) ?_
  refine walk_s rfl rfl (op_stwi rfl tb3 (ev1 rfl) (ev1 rfl) rfl) (by simp only [upd, zaa, za]; exact rfl) ?_
  refine zae ?_
  refine ⟨by first | rfl | assumption | simp_all, rfl, [0, 1], rfl, ⟨rfl, rfl, trivial⟩⟩
theorem cnt_add {l : List Sp} {i : Nat} (hi : i < l.length) : cntS (l.take (i + 1)) = cntS (l.take i) + l[i].wd := by
  unfold cntS
  rw [List.take_succ_eq_append_getElem hi, List.map_append, List.sum_append]
  simp
theorem cnt_le {l : List Sp} (h : chkS l) (i : Nat) : cntS (l.take i) ≤ l.length * 512 := by
  have h1 : ∀ (m : List Sp), (∀ s ∈ m, rchS s ∧ s.f ≤ s.t) → cntS m ≤ m.length * 512 := fun m => by
    induction m with
    | nil => intro _; exact Nat.le_refl _
    | cons a m ih =>
      intro hm
      have h2 := ih fun s hs => hm s (List.mem_cons_of_mem _ hs)
      have h3 := hm a (List.mem_cons_self ..)
      unfold rchS at h3
      have h4 : a.wd ≤ 512 := by unfold Sp.wd; omega
      unfold cntS at *
      rw [List.map_cons, List.sum_cons, List.length_cons]
      omega
  have h2 := h1 (l.take i) fun s hs => h.1 s (List.mem_of_mem_take hs)
  rw [List.length_take] at h2
  have : min i l.length * 512 ≤ l.length * 512 := Nat.mul_le_mul_right _ (Nat.min_le_right _ _)
  omega
def cntL (l : List Sp) : Nat := if chkS l then cntS l else 0
set_option maxRecDepth 4000 in
set_option maxHeartbeats 1000000 in
theorem told_cnt (l : List Sp) (hc : chkS l) (hn : l.length ≤ 1000000) : DFun Try.prog 86 [.yld 0, .loc 2 0] [.lp 17 [(3, .loc 1 0)] #[7] cntA cntB .ready none, .flat 3 [.int .i64 0], .mix 35 [.slf 3 l.length (l.flatMap s3)]] (.tup []) [.lp 17 [(3, .loc 1 0)] #[7] cntA cntB .ready none, .flat 3 [.int .i64 (cntS l : Int)], .mix 35 [.slf 3 l.length (l.flatMap s3)]] := by
  refine zan (N := 19) 3 (by kernel_rfl) Try.func86 rfl rfl rfl (by simp only [fr0, Nat.zero_add, Nat.reduceAdd]; exact rfl) rfl fun s0 hs0 => ?_
  refine zaf ?_
  refine zaf ?_
  refine zad ?_
  refine zab rfl rfl rfl (op_ldm rfl tb35 (ev1 rfl) rfl rfl) ?_
  refine zab rfl rfl rfl (zah [] [] [] rfl (ev1 rfl) (ec (ev1 rfl) en) rfl rfl (check_d l) rfl rfl rfl rfl rfl rfl) ?_
  refine zab rfl rfl rfl (op_neq rfl (ev1 rfl) (ev1 rfl)) ?_
  refine zae ?_
  refine dwp_if_f rfl (by rw [chkE_ok hc]; rfl) ?_
  refine zak ?_
  refine zaf ?_
  refine zad ?_
  refine zab rfl rfl rfl (op_ldm rfl tb35 (ev1 rfl) rfl rfl) ?_
  refine zab rfl rfl rfl (op_len rfl sl35 (ev1 rfl)) ?_
  refine zab rfl rfl rfl (zac (.inl rfl) (ev1 rfl)) ?_
  refine zae ?_
  refine zal ?_
  refine dwp_loopS ⟨hs0, rfl⟩ (α := Nat) (fun i => [(10, .val (.int .i64 (i : Int)))]) [(0, _), (8, _), (9, _)] (fun i => [(1, .flat 3 [.int .i64 (cntS (l.take i) : Int)])]) [_, .hole, _] (fun i => i ≤ l.length) (fun i => l.length - i) 0 [0, 1, 2] (Nat.zero_le _) rfl ⟨rfl, rfl, rfl, trivial⟩ ⟨rfl, trivial⟩ ⟨rfl, rfl, rfl, trivial⟩ ?_
  intro i hx
  simp only [upd, zaa, za, List.cons_append, List.nil_append]
  have hi0 := hx
  have hcl := cnt_le hc i
  refine zaf ?_
  refine zad ?_
  refine zab rfl rfl rfl (op_lss rfl (ev1 rfl) (ev1 rfl)) ?_
  refine zae ?_
  refine zaf ?_
  refine dwp_cond rfl (fun c2 => ?_) (fun c2 => ?_)
  · try simp only [yg, ya, beq_iff_eq, bne_iff_ne, yb, yc, yf, ye, yh, yi, yd, ne_eq, yj, Int.not_lt, Int.not_le] at c2
    refine zak ?_
    refine zaf ?_
    refine zal ?_
    refine zaf ?_
    have hi : i < l.length := by omega
    refine zai 1 (by simp only [holes, List.cons_append, List.nil_append]; exact rfl) ?_
    refine zad ?_
    refine zab rfl rfl rfl (op_ixsr (j := i) rfl sl35 (ev1 rfl) (ev1 rfl) (fun _ => rfl) (by decide) (by omega) (by omega)) ?_
    refine zab rfl rfl rfl (op_ldwd rfl tb53 (ev1 rfl) rfl) ?_
    refine zaj rfl rfl rfl (op_alloc 3 rfl zr53 rfl) (by simp only [upd, zaa, za]; exact rfl) ?_
    refine walk_s rfl rfl (op_stwa rfl tb53 (ev1 rfl) (ev1 rfl) rfl rfl rfl rfl) (by simp only [upd, zaa, za]; exact rfl) ?_
    refine zae ?_
    refine zaf ?_
    refine zad ?_
    refine zab rfl rfl rfl (zac (.inl rfl) (ev1 rfl)) ?_
    refine zab rfl rfl rfl (op_ldw rfl tb53 (ev1 rfl) rfl rfl) ?_
    refine zaj rfl rfl rfl (op_y (i := 0) [0, 1] [] [] rfl (ev1 rfl) (ec (ev1 rfl) en) rfl rfl rfl (cntRound l[i] _ (hc.1 _ (List.getElem_mem hi)) (by omega)) rfl rfl rfl rfl rfl) (by simp only [upd, zaa, za]; exact rfl) ?_
    refine zab rfl rfl rfl (op_not rfl (ev1 rfl)) ?_
    refine zae ?_
    refine dwp_if_f rfl (rfl) ?_
    refine zak ?_
    refine zad ?_
    refine zab rfl rfl rfl (op_add' rfl (ev1 rfl) (ev1 rfl) (fun _ => IntWalk.i64_in _ (by omega))) ?_
    refine zab rfl rfl rfl (zac (.inl rfl) (ev1 rfl)) ?_
    refine zae ?_
    refine ⟨i + 1, [0, 1, 2], by omega, by simp only []; omega, rfl, ⟨rfl, rfl, rfl, rfl, trivial⟩, ⟨rfl, by rw [cnt_add hi]; rfl, rfl, trivial⟩⟩
  · try simp only [yg, ya, beq_iff_eq, bne_iff_ne, yb, yc, yf, ye, yh, yi, yd, ne_eq, yj, Int.not_lt, Int.not_le] at c2
    refine dwp_exit ?_
    refine kend [0, 1, 2] (res_none rfl) rfl rfl ?_ ⟨?_, ?_, ?_, trivial⟩
    rfl
    all_goals first | exact rfl | exact (by rw [take_all (by omega)]; rfl)
set_option maxRecDepth 4000 in
set_option maxHeartbeats 1000000 in
theorem told_cnt_no (l : List Sp) (hc : ¬ chkS l) : DFun Try.prog 86 [.yld 0, .loc 2 0] [.lp 17 [(3, .loc 1 0)] #[7] cntA cntB .ready none, .flat 3 [.int .i64 0], .mix 35 [.slf 3 l.length (l.flatMap s3)]] (.tup []) [.lp 17 [(3, .loc 1 0)] #[7] cntA cntB .ready none, .flat 3 [.int .i64 0], .mix 35 [.slf 3 l.length (l.flatMap s3)]] := by
  refine zan (N := 19) 3 (by kernel_rfl) Try.func86 rfl rfl rfl (by simp only [fr0, Nat.zero_add, Nat.reduceAdd]; exact rfl) rfl fun s0 hs0 => ?_
  refine zaf ?_
  refine zaf ?_
  refine zad ?_
  refine zab rfl rfl rfl (op_ldm rfl tb35 (ev1 rfl) rfl rfl) ?_
  refine zab rfl rfl rfl (zah [] [] [] rfl (ev1 rfl) (ec (ev1 rfl) en) rfl rfl (check_d l) rfl rfl rfl rfl rfl rfl) ?_
  refine zab rfl rfl rfl (op_neq rfl (ev1 rfl) (ev1 rfl)) ?_
  refine zae ?_
  refine dwp_if_t rfl (by rw [chkE_no hc]; rfl) ?_
  refine zao ?_
  refine kend [0, 1, 2] (res_none rfl) rfl rfl ?_ ⟨rfl, rfl, rfl, trivial⟩
  rfl
set_option maxRecDepth 4000 in
set_option maxHeartbeats 1000000 in
theorem count_ok (l : List Sp) (hc : chkS l) (hn : l.length ≤ 1000000) : DFun Try.prog 30 [.slf 3 l.length (l.flatMap s3)] [] (.val (.int .i64 (cntS l : Int))) [] := by
  refine zan (N := 17) 0 (by kernel_rfl) Try.func30 rfl rfl rfl (by simp only [fr0, Nat.zero_add, Nat.reduceAdd]; exact rfl) rfl fun s0 hs0 => ?_
  refine dwp_len (t := 0) rfl fun hl0 hL0 => ?_
  refine zaf ?_
  refine zad ?_
  refine zab rfl rfl rfl (zac (.inr rfl) (ev1 rfl)) ?_
  refine zae ?_
  refine zaf ?_
  refine zai 1 (by simp only [holes, List.cons_append, List.nil_append]; exact rfl) ?_
  refine zad ?_
  refine zaj rfl rfl rfl (op_alloc 0 rfl zr3 rfl) (by simp only [upd, zaa, za]; exact rfl) ?_
  refine walk_s rfl rfl (op_stwi rfl tb3 (ev1 rfl) (ev1 rfl) rfl) (by simp only [upd, zaa, za]; exact rfl) ?_
  refine zae ?_
  refine zaf ?_
  refine zaf ?_
  refine zai 1 (by simp only [holes, List.cons_append, List.nil_append]; exact rfl) ?_
  refine zad ?_
  refine zab rfl rfl rfl (zac (.inl rfl) (ev1 rfl)) ?_
  refine zaj rfl rfl rfl (zah [] [] [1] rfl (ev1 rfl) (ec (ev1 rfl) en) rfl rfl (told_d l) rfl rfl rfl rfl rfl rfl) (by simp only [upd, zaa, za]; exact rfl) ?_
  refine zae ?_
  refine zal ?_
  refine dwp_hole ?_
  simp only [List.cons_append, List.nil_append]
  refine dwp_rf (FL := [(3, _)]) (st := .ready) (pe := none) [2, 0, 1] [] [] 2 rfl rfl (ev1 rfl) rfl (subF_lk ⟨rfl, trivial⟩) rfl rfl rfl (told_cnt l hc hn) rfl rfl rfl rfl rfl rfl rfl (by simp) (fun e => ?_) (fun c e => ?_)
  · simp only [upd, zaa, za]
    refine zaf ?_
    refine zad ?_
    refine zab rfl rfl rfl (zam rfl tb3 (ev1 rfl) rfl rfl) ?_
    refine zab rfl rfl rfl (zac (.inr rfl) (ev1 rfl)) ?_
    refine zae ?_
    refine zao ?_
    refine kend0 (rs1 rfl (rv_t rfl)) rfl ?_
    rfl
  · cases e
set_option maxRecDepth 4000 in
set_option maxHeartbeats 1000000 in
theorem count_no (l : List Sp) (hc : ¬ chkS l) : DFun Try.prog 30 [.slf 3 l.length (l.flatMap s3)] [] (.val (.int .i64 0)) [] := by
  refine zan (N := 17) 0 (by kernel_rfl) Try.func30 rfl rfl rfl (by simp only [fr0, Nat.zero_add, Nat.reduceAdd]; exact rfl) rfl fun s0 hs0 => ?_
  refine dwp_len (t := 0) rfl fun hl0 hL0 => ?_
  refine zaf ?_
  refine zad ?_
  refine zab rfl rfl rfl (zac (.inr rfl) (ev1 rfl)) ?_
  refine zae ?_
  refine zaf ?_
  refine zai 1 (by simp only [holes, List.cons_append, List.nil_append]; exact rfl) ?_
  refine zad ?_
  refine zaj rfl rfl rfl (op_alloc 0 rfl zr3 rfl) (by simp only [upd, zaa, za]; exact rfl) ?_
  refine walk_s rfl rfl (op_stwi rfl tb3 (ev1 rfl) (ev1 rfl) rfl) (by simp only [upd, zaa, za]; exact rfl) ?_
  refine zae ?_
  refine zaf ?_
  refine zaf ?_
  refine zai 1 (by simp only [holes, List.cons_append, List.nil_append]; exact rfl) ?_
  refine zad ?_
  refine zab rfl rfl rfl (zac (.inl rfl) (ev1 rfl)) ?_
  refine zaj rfl rfl rfl (zah [] [] [1] rfl (ev1 rfl) (ec (ev1 rfl) en) rfl rfl (told_d l) rfl rfl rfl rfl rfl rfl) (by simp only [upd, zaa, za]; exact rfl) ?_
  refine zae ?_
  refine zal ?_
  refine dwp_hole ?_
  simp only [List.cons_append, List.nil_append]
  refine dwp_rf (FL := [(3, _)]) (st := .ready) (pe := none) [2, 0, 1] [] [] 2 rfl rfl (ev1 rfl) rfl (subF_lk ⟨rfl, trivial⟩) rfl rfl rfl (told_cnt_no l hc) rfl rfl rfl rfl rfl rfl rfl (by simp) (fun e => ?_) (fun c e => ?_)
  · simp only [upd, zaa, za]
    refine zaf ?_
    refine zad ?_
    refine zab rfl rfl rfl (zam rfl tb3 (ev1 rfl) rfl rfl) ?_
    refine zab rfl rfl rfl (zac (.inr rfl) (ev1 rfl)) ?_
    refine zae ?_
    refine zao ?_
    refine kend0 (rs1 rfl (rv_t rfl)) rfl ?_
    rfl
  · cases e
theorem count_d (l : List Sp) (hn : l.length ≤ 1000000) : DFun Try.prog 30 [.slf 3 l.length (l.flatMap s3)] [] (.val (.int .i64 (cntL l : Int))) [] := by
  by_cases hc : chkS l
  · have e : cntL l = cntS l := if_pos hc
    rw [e]; exact count_ok l hc hn
  · have e : cntL l = 0 := if_neg hc
    rw [e]; exact count_no l hc
set_option maxRecDepth 4000
theorem farC_zero {a b : C4} (h : farC a b ≤ 0) : a = b := by
  obtain ⟨r, g, b', a'⟩ := a
  obtain ⟨r2, g2, b2, a2⟩ := b
  unfold farC at h
  simp only [C4.mk.injEq] at *
  omega
set_option maxRecDepth 4000
theorem adj_sym {p q : P2} (h : q ∈ adjL p) : p ∈ adjL q := by rw [adj_iff] at *; omega
section
variable {On near : P2 → Bool} (hOn : ∀ p, On p = true → inF32 p)
include hOn
end
section
variable {On near : P2 → Bool} (hOn : ∀ p, On p = true → inF32 p) {p0 : P2}
include hOn
theorem bfs_fin : ∀ (k : Nat) (f : FD) (q : List P2), zrF f + q.length ≤ k → BI On near p0 f q → FinF On near p0 (bfsF On near k f q)
  | k, f, [], _, h => by rw [bfs_nil]; exact ⟨h.one, h.up, fun m hm h0 => h.dn m hm h0 (by simp)⟩
  | 0, f, p :: r, hk, _ => by simp at hk
  | k + 1, f, p :: r, hk, h => by
    rw [bfsF]
    have := goF_zr (near := near) hOn f p
    exact bfs_fin k _ _ (by rw [List.length_append]; rw [List.length_cons] at hk; omega) (h.step hOn)
end
theorem Pth.nr {On near : P2 → Bool} {p0 : P2} {k : Nat} {n : P2} (h : Pth On near p0 k n) (h0 : near p0 = true) : near n = true := by cases h <;> assumption
theorem FinF.way {On near : P2 → Bool} {p0 : P2} {f : FD} (h : FinF On near p0 f) : ∀ (k : Nat) (n : P2), On n = true → f.at n = k + 1 → Pth On near p0 k n
  | k, n, hn, hk => by
    by_cases e : n = p0
    · subst e
      rw [h.one] at hk
      obtain rfl : k = 0 := by omega
      exact .z
    · obtain ⟨h1, m, h2, h3, h4, h5⟩ := h.up n hn (by omega) e
      obtain ⟨j, rfl⟩ : ∃ j, k = j + 1 := ⟨k - 1, by omega⟩
      exact .s (h.way j m h2 (by omega)) hn h3 h1
theorem Pth.rev {On near : P2 → Bool} {p : P2} {k : Nat} {n : P2} (h : Pth On near p k n) (ho : On p = true) (hn : near p = true) : Pth On near n k p := by
  induction h with
  | z => exact .z
  | @s k m n hm ho1 ha hn1 ih =>
    have h1 : Pth On near n 1 m := .s .z (hm.on ho) (adj_sym ha) (hm.nr hn)
    have := h1.trans ih
    rwa [Nat.add_comm] at this
theorem fin_way {On near : P2 → Bool} {p0 : P2} {f : FD} (h : FinF On near p0 f) {n : P2} (hn : On n = true) (h1 : 0 < f.at n) : Pth On near p0 (f.at n - 1) n := h.way _ n hn (by omega)
theorem fin_levels {On near : P2 → Bool} {p0 : P2} {f : FD} (h : FinF On near p0 f) (h0 : On p0 = true) : ∀ (k : Nat) (n : P2), On n = true → f.at n = k + 1 → ∃ l : List P2, l.length = k + 1 ∧ l.Nodup ∧ ∀ x ∈ l, On x = true ∧ 0 < f.at x ∧ f.at x ≤ k + 1
  | k, n, hn, hk => by
    by_cases e : n = p0
    · subst e
      rw [h.one] at hk
      obtain rfl : k = 0 := by omega
      exact ⟨[n], rfl, by simp, fun x hx => by obtain rfl := List.mem_singleton.1 hx; exact ⟨hn, by rw [h.one]; omega, by rw [h.one]; omega⟩⟩
    · obtain ⟨h1, m, h2, h3, h4, h5⟩ := h.up n hn (by omega) e
      obtain ⟨j, rfl⟩ : ∃ j, k = j + 1 := ⟨k - 1, by omega⟩
      obtain ⟨l, g1, g2, g3⟩ := fin_levels h h0 j m h2 (by omega)
      refine ⟨n :: l, by simp [g1], List.nodup_cons.2 ⟨fun hx => ?_, g2⟩, fun x hx => ?_⟩
      · have := (g3 n hx).2.2; omega
      · rcases List.mem_cons.1 hx with rfl | hx
        · exact ⟨hn, by omega, by omega⟩
        · obtain ⟨a1, a2, a3⟩ := g3 x hx; exact ⟨a1, a2, by omega⟩
theorem nodup_le {α : Type} [DecidableEq α] : ∀ (l r : List α), l.Nodup → (∀ x ∈ l, x ∈ r) → l.length ≤ r.length
  | [], r, _, _ => Nat.zero_le _
  | a :: l, r, hn, hs => by
    obtain ⟨h1, h2⟩ := List.nodup_cons.1 hn
    have ha := hs a (List.mem_cons_self ..)
    have := nodup_le l (r.erase a) h2 fun x hx => (List.mem_erase_of_ne fun (e : x = a) => h1 (e ▸ hx)).2 (hs x (List.mem_cons_of_mem _ hx))
    rw [List.length_erase_of_mem ha] at this
    have hp := List.length_pos_of_mem ha
    rw [List.length_cons]
    omega
end Go.Proofs.Ytfnhckildfbikaa
namespace Go.Proofs.Ytfnhckildfbikaa
set_option maxRecDepth 4000
set_option linter.unusedVariables false
set_option linter.unusedSimpArgs false
open Go.RowKit
attribute [local irreducible] zFD srL goF bfsF
theorem gtS_ok {B : P2 → Bool} {W H : Nat} (hW : 0 < W) : okS (gtS B W (H * W)) ∧ ∀ x y, hasS (gtS B W (H * W)) x y ↔ ((0 ≤ x ∧ x < W) ∧ 0 ≤ y ∧ y < H) ∧ B ⟨x, y⟩ = true := by
  have h := run_ok (gtP_beh (B := B) hW (H * W))
  refine ⟨h.1, fun x y => ?_⟩
  unfold gtS
  rw [h.2, gtP_mem hW]
end Go.Proofs.Ytfnhckildfbikaa
namespace Go.Proofs.Ytfnhckildfbikaa
set_option maxRecDepth 4000
set_option linter.unusedVariables false
set_option linter.unusedSimpArgs false
open Go.RowKit
attribute [local irreducible] zFD srL goF bfsF
attribute [local irreducible] spF spN
set_option maxRecDepth 4000 in
set_option maxHeartbeats 1000000 in
theorem steps_n (w h : Int) (ds : List D) (ts : List TL) (hr : RowOk ds ts) (hc : CvOk w h ts) (hg : tsRng ts) (p u : P2) (tol : Int) (h0 : (refE w h [tol] [p, u]) ≠ 0) : DFun Try.prog 28 [cvD w h ds, .val (.agg #[.int .i64 p.x, .int .i64 p.y]), .val (.agg #[.int .i64 u.x, .int .i64 u.y]), .val (.int .i64 tol)] [] (.tup [.val (.int .i64 0), .val (.int .i64 (refE w h [tol] [p, u]))]) [] := by
  refine zan (N := 33) 0 (by kernel_rfl) Try.func28 rfl rfl rfl (by simp only [fr0, Nat.zero_add, Nat.reduceAdd]; exact rfl) rfl fun s0 hs0 => ?_
  refine zaf ?_
  refine zai 2 (by simp only [holes, List.cons_append, List.nil_append]; exact rfl) ?_
  refine zad ?_
  refine zaj rfl rfl rfl (op_boxa 0 rfl (ev1 rfl) rfl) (by simp only [upd, zaa, za]; exact rfl) ?_
  refine zaj rfl rfl rfl (op_boxa 1 rfl (ev1 rfl) rfl) (by simp only [upd, zaa, za]; exact rfl) ?_
  refine zab rfl rfl rfl (zac (.inr rfl) (ev1 rfl)) ?_
  refine zab rfl rfl rfl (zac (.inr rfl) (ev1 rfl)) ?_
  refine zae ?_
  refine zaf ?_
  refine zaf ?_
  refine zad ?_
  refine zab rfl rfl rfl (zac (.inl rfl) (ev1 rfl)) ?_
  refine zab rfl rfl rfl (zac (.inl rfl) (ev1 rfl)) ?_
  refine zab rfl rfl rfl (op_bs (ps := [(0, .tmp 13)]) rfl sl55 zr3 rfl (vc (ev1 rfl) vn) rfl (by decide) (by decide)) ?_
  refine zab rfl rfl rfl (op_ldw rfl tb34 (ev1 rfl) rfl rfl) ?_
  refine zab rfl rfl rfl (op_ldw rfl tb34 (ev1 rfl) rfl rfl) ?_
  refine zab rfl rfl rfl (op_bs (ps := [(0, .tmp 15), (1, .tmp 16)]) rfl sl64 zr34 rfl (vc (ev1 rfl) (vc (ev1 rfl) vn)) rfl (by decide) (by decide)) ?_
  refine zab rfl rfl rfl (zah [] [] [] rfl (ev1 rfl) (ec (ev1 rfl) (ec (ev1 rfl) (ec (ev1 rfl) en))) rfl rfl (refuse_d w h ds ts hr hc [tol] [p, u]) rfl rfl rfl rfl rfl rfl) ?_
  refine zab rfl rfl rfl (zac (.inr rfl) (ev1 rfl)) ?_
  refine zae ?_
  refine zaf ?_
  refine zad ?_
  refine zab rfl rfl rfl (zac (.inl rfl) (ev1 rfl)) ?_
  refine zab rfl rfl rfl (op_neq rfl (ev1 rfl) (ev1 rfl)) ?_
  refine zae ?_
  refine dwp_if_t rfl (by simpa using h0) ?_
  refine zaf ?_
  refine zad ?_
  refine zab rfl rfl rfl (zac (.inl rfl) (ev1 rfl)) ?_
  refine zab rfl rfl rfl (zac (.inr rfl) (ev1 rfl)) ?_
  refine zab rfl rfl rfl (zac (.inr rfl) (ev1 rfl)) ?_
  refine zae ?_
  refine zao ?_
  refine kend0 (rs2 rfl (rv_t rfl) (rv_t rfl)) rfl ?_
  rfl
end Go.Proofs.Ytfnhckildfbikaa
namespace Go.Proofs.Ytfnhckildfbikaa
set_option maxRecDepth 4000
set_option linter.unusedVariables false
set_option linter.unusedSimpArgs false
open Go.RowKit
attribute [local irreducible] crT crU pcV rgF rgS gtP zFD
theorem ar32 : arE Try.prog 32 = some (3, 1) := by kernel_rfl
theorem un4 : Try.prog.underlying 4 = some .bool := by kernel_rfl
theorem refE_o1 {w h tol : Int} {p : P2} (hb : badT tol = false) (ho : onP w h p = false) : refE w h [tol] [p] = 4 := by rw [refE_one, if_neg (by rw [hb]; decide), if_neg (by rw [ho]; decide)]
theorem refE_k1 {w h tol : Int} {p : P2} (hb : badT tol = false) (ho : onP w h p = true) : refE w h [tol] [p] = 0 := by rw [refE_one, if_neg (by rw [hb]; decide), if_pos ho]
theorem refE_b1 {w h tol : Int} {ps : List P2} (hb : badT tol = true) : refE w h [tol] ps = 2 := refE_t (by simp [hb])
theorem region_b (w h : Int) (ds : List D) (ts : List TL) (hr : RowOk ds ts) (hc : CvOk w h ts) (hg : tsRng ts) (p : P2) (tol : Int) (hb : badT tol = true) : DFun Try.prog 9 [cvD w h ds, .val (.agg #[.int .i64 p.x, .int .i64 p.y]), .val (.int .i64 tol)] [] (.tup [.val (.slice none 0 0), .val (.int .i64 2)]) [] := by
  have h1 := region_n w h ds ts hr hc hg p tol (by rw [refE_b1 hb]; decide)
  rw [refE_b1 hb] at h1
  exact h1
theorem region_off (w h : Int) (ds : List D) (ts : List TL) (hr : RowOk ds ts) (hc : CvOk w h ts) (hg : tsRng ts) (p : P2) (tol : Int) (hb : badT tol = false) (ho : onP w h p = false) : DFun Try.prog 9 [cvD w h ds, .val (.agg #[.int .i64 p.x, .int .i64 p.y]), .val (.int .i64 tol)] [] (.tup [.val (.slice none 0 0), .val (.int .i64 4)]) [] := by
  have h1 := region_n w h ds ts hr hc hg p tol (by rw [refE_o1 hb ho]; decide)
  rw [refE_o1 hb ho] at h1
  exact h1
end Go.Proofs.Ytfnhckildfbikaa
namespace Go.Proofs.Ytfnhckildfbikaa
set_option maxRecDepth 4000
set_option linter.unusedVariables false
set_option linter.unusedSimpArgs false
open Go.RowKit
open Go.ChangeShapes Go.WideShapes Go.ChangeAt Go.Joins Go.Deep
theorem fits_p2 (cs : List Value) (h : fitsP [.int .i64, .int .i64] cs) : ∃ p : P2, p.rng ∧ cs = p2 p := by
  obtain ⟨x0, r, rfl, h0, g1⟩ := fitsP_cons h
  obtain ⟨x1, r, rfl, h1, g2⟩ := fitsP_cons g1
  obtain rfl := fitsP_nil g2
  obtain ⟨x, wx, rfl⟩ := fits_prim_i64 h0
  obtain ⟨y, wy, rfl⟩ := fits_prim_i64 h1
  exact ⟨⟨x, y⟩, ⟨wx, wy⟩, rfl⟩
theorem fits_q3 (cs : List Value) (h : fitsP [.int .i64, .int .i64, .int .i64] cs) : ∃ a : Int × Int × Int, ((-9223372036854775808 ≤ a.1 ∧ a.1 ≤ 9223372036854775807) ∧ (-9223372036854775808 ≤ a.2.1 ∧ a.2.1 ≤ 9223372036854775807) ∧ -9223372036854775808 ≤ a.2.2 ∧ a.2.2 ≤ 9223372036854775807) ∧ cs = q3 a := by
  obtain ⟨x0, r, rfl, h0, g1⟩ := fitsP_cons h
  obtain ⟨x1, r, rfl, h1, g2⟩ := fitsP_cons g1
  obtain ⟨x2, r, rfl, h2, g3⟩ := fitsP_cons g2
  obtain rfl := fitsP_nil g3
  obtain ⟨x, wx, rfl⟩ := fits_prim_i64 h0
  obtain ⟨y, wy, rfl⟩ := fits_prim_i64 h1
  obtain ⟨z, wz, rfl⟩ := fits_prim_i64 h2
  exact ⟨(x, y, z), ⟨wx, wy, wz⟩, rfl⟩
end Go.Proofs.Ytfnhckildfbikaa
namespace Go.Proofs.Ytfnhckildfbikaa
set_option maxRecDepth 4000
set_option linter.unusedVariables false
set_option linter.unusedSimpArgs false
open Go.RowKit
attribute [local irreducible] crT crU pcV rgF rgS gtP zFD
theorem refE_off {w h tol : Int} {p u : P2} (hb : badT tol = false) (ho : (onP w h p && onP w h u) = false) : refE w h [tol] [p, u] = 4 := by
  unfold refE
  rw [if_neg (by simp [hb]), if_pos]
  simp only [List.any_cons, List.any_nil, Bool.or_false]
  revert ho
  cases onP w h p <;> cases onP w h u <;> simp
theorem refE_k2 {w h tol : Int} {p u : P2} (hb : badT tol = false) (ho : (onP w h p && onP w h u) = true) : refE w h [tol] [p, u] = 0 := by
  unfold refE
  rw [if_neg (by simp [hb]), if_neg]
  rw [Bool.and_eq_true] at ho
  simp [ho.1, ho.2]
theorem steps_b (w h : Int) (ds : List D) (ts : List TL) (hr : RowOk ds ts) (hc : CvOk w h ts) (hg : tsRng ts) (p u : P2) (tol : Int) (hb : badT tol = true) : DFun Try.prog 28 [cvD w h ds, .val (.agg #[.int .i64 p.x, .int .i64 p.y]), .val (.agg #[.int .i64 u.x, .int .i64 u.y]), .val (.int .i64 tol)] [] (.tup [.val (.int .i64 0), .val (.int .i64 2)]) [] := by
  have h1 := steps_n w h ds ts hr hc hg p u tol (by rw [refE_b1 hb]; decide)
  rw [refE_b1 hb] at h1
  exact h1
theorem steps_off (w h : Int) (ds : List D) (ts : List TL) (hr : RowOk ds ts) (hc : CvOk w h ts) (hg : tsRng ts) (p u : P2) (tol : Int) (hb : badT tol = false) (ho : (onP w h p && onP w h u) = false) : DFun Try.prog 28 [cvD w h ds, .val (.agg #[.int .i64 p.x, .int .i64 p.y]), .val (.agg #[.int .i64 u.x, .int .i64 u.y]), .val (.int .i64 tol)] [] (.tup [.val (.int .i64 0), .val (.int .i64 4)]) [] := by
  have h1 := steps_n w h ds ts hr hc hg p u tol (by rw [refE_off hb ho]; decide)
  rw [refE_off hb ho] at h1
  exact h1
end Go.Proofs.Ytfnhckildfbikaa
namespace Go.Proofs.Ytfnhckildfbikaa
set_option maxRecDepth 4000
set_option linter.unusedVariables false
set_option linter.unusedSimpArgs false
open Go.RowKit
attribute [local irreducible] zFD
theorem rgF_fin {w h : Int} (hm : mayS w h = true) {ts : List TL} {tol : Int} {p : P2} (hp : onP w h p = true) : FinF (onP w h) (nearP w ts tol (getC w ts p.x p.y)) p (rgF w h ts tol p) := by
  unfold rgF spF
  exact bfs_fin (onP_in hm) _ _ _ (Nat.le_refl (zrF (zFD.put p 1) + 1)) (BI.start (onP_in hm) hp)
theorem has_pos {f : FD} {p : P2} : f.has p = true ↔ 0 < f.at p := by unfold FD.has; exact decide_eq_true_iff
theorem rg_near {w h : Int} (hm : mayS w h = true) {ts : List TL} {tol : Int} (ht : 0 ≤ tol) {p q : P2} (hp : onP w h p = true) (hq : onP w h q = true) (hh : (rgF w h ts tol p).has q = true) : nearP w ts tol (getC w ts p.x p.y) q = true := by
  by_cases e : q = p
  · subst e; exact near_self ht _
  · exact ((rgF_fin hm hp).up q hq (has_pos.1 hh) e).1
theorem st_one {w h : Int} (hm : mayS w h = true) {ts : List TL} {tol : Int} {p u : P2} (hp : onP w h p = true) (hu : onP w h u = true) (hh : (rgF w h ts tol p).has u = true) : (rgF w h ts tol p).at u = 1 ↔ p = u := by
  have hf := rgF_fin (ts := ts) (tol := tol) hm hp
  constructor
  · intro h1
    by_cases e : u = p
    · exact e.symm
    · obtain ⟨_, m, _, _, h2, h3⟩ := hf.up u hu (has_pos.1 hh) e
      omega
  · intro e
    subst e
    exact hf.one
theorem rgS_chk {w h : Int} (hm : mayS w h = true) (f : FD) : chkS (rgS w h f) := by
  have hb := mayS_b hm
  obtain ⟨h1, h2⟩ := gtS_ok (B := f.has) (W := (w * 8).toNat) (H := (h * 8).toNat) (by omega)
  refine ⟨fun s hs => ?_, h1.2⟩
  have hft := h1.1 s hs
  have a := (h2 s.f s.y).1 ⟨s, hs, rfl, by omega, by omega⟩
  have b := (h2 s.t s.y).1 ⟨s, hs, rfl, by omega, by omega⟩
  refine ⟨?_, hft⟩
  unfold rchS
  omega
theorem rgS_has {w h : Int} (hm : mayS w h = true) (f : FD) (q : P2) : hasL (rgS w h f) q = (onP w h q && f.has q) := by
  have hb := mayS_b hm
  have h2 := (gtS_ok (B := f.has) (W := (w * 8).toNat) (H := (h * 8).toNat) (by omega)).2 q.x q.y
  unfold hasL
  rw [decide_eq_true (rgS_chk hm f), Bool.true_and, Bool.eq_iff_iff, Bool.and_eq_true]
  unfold hasB
  rw [decide_eq_true_eq]
  unfold onP
  rw [onS_iff]
  constructor
  · intro g
    obtain ⟨g1, g2⟩ := h2.1 g
    exact ⟨by omega, g2⟩
  · rintro ⟨g1, g2⟩
    exact h2.2 ⟨by omega, g2⟩
theorem rgS_pts {w h : Int} (hm : mayS w h = true) (f : FD) (q : P2) : q ∈ ptsS (rgS w h f) ↔ onP w h q = true ∧ f.has q = true := by
  have h1 := rgS_has hm f q
  unfold hasL at h1
  rw [decide_eq_true (rgS_chk hm f), Bool.true_and] at h1
  rw [ptsS_mem, ← Bool.and_eq_true, ← h1]
  unfold hasB
  rw [decide_eq_true_eq]
theorem st_cnt {w h : Int} (hm : mayS w h = true) {ts : List TL} {tol : Int} {p u : P2} (hp : onP w h p = true) (hu : onP w h u = true) (hh : (rgF w h ts tol p).has u = true) : (rgF w h ts tol p).at u ≤ cntL (rgS w h (rgF w h ts tol p)) := by
  have hf := rgF_fin (ts := ts) (tol := tol) hm hp
  have h0 := has_pos.1 hh
  obtain ⟨l, h1, h2, h3⟩ := fin_levels hf hp ((rgF w h ts tol p).at u - 1) u hu (by omega)
  have h4 := nodup_le l (ptsS (rgS w h (rgF w h ts tol p))) h2 fun x hx => (rgS_pts hm _ x).2 ⟨(h3 x hx).1, has_pos.2 (h3 x hx).2.1⟩
  rw [ptsS_len] at h4
  have e : cntL (rgS w h (rgF w h ts tol p)) = cntS (rgS w h (rgF w h ts tol p)) := if_pos (rgS_chk hm _)
  omega
theorem st_nb {w h : Int} (hm : mayS w h = true) {ts : List TL} {tol : Int} (ht : 0 ≤ tol) {p u q : P2} (hp : onP w h p = true) (hu : onP w h u = true) (hq : onP w h q = true) (hh : (rgF w h ts tol p).has u = true) (hq2 : (rgF w h ts tol p).has q = true) (ha : q ∈ adjL u) : (rgF w h ts tol p).at q ≤ (rgF w h ts tol p).at u + 1 :=
  ((rgF_fin hm hp).dn u hu (has_pos.1 hh) q hq ha (rg_near hm ht hp hq hq2)).2
theorem st_less {w h : Int} (hm : mayS w h = true) {ts : List TL} {tol : Int} {p u : P2} (hp : onP w h p = true) (hu : onP w h u = true) (hh : (rgF w h ts tol p).has u = true) (h1 : (rgF w h ts tol p).at u ≠ 1) : ∃ q, q ∈ adjL u ∧ onP w h q = true ∧ (rgF w h ts tol p).has q = true ∧ (rgF w h ts tol p).at q + 1 = (rgF w h ts tol p).at u := by
  have hne : u ≠ p := fun e => h1 ((st_one hm hp hu hh).2 e.symm)
  obtain ⟨_, m, h2, h3, h4, h5⟩ := (rgF_fin hm hp).up u hu (has_pos.1 hh) hne
  exact ⟨m, adj_sym h3, h2, has_pos.2 h4, h5⟩
theorem near_col {w : Int} {ts : List TL} {c : C4} {q : P2} (h : nearP w ts 0 c q = true) : c = getC w ts q.x q.y := by
  unfold nearP nearC at h
  exact farC_zero (by simpa using h)
theorem st_back {w h : Int} (hm : mayS w h = true) {ts : List TL} {p u : P2} (hp : onP w h p = true) (hu : onP w h u = true) (hh : (rgF w h ts 0 p).has u = true) : (rgF w h ts 0 u).has p = true ∧ (rgF w h ts 0 u).at p = (rgF w h ts 0 p).at u := by
  have e := near_col (rg_near hm (Int.le_refl 0) hp hu hh)
  have f1 := rgF_fin (ts := ts) (tol := 0) hm hp
  have f2 := rgF_fin (ts := ts) (tol := 0) hm hu
  rw [← e] at f2
  have n1 : nearP w ts 0 (getC w ts p.x p.y) p = true := near_self (Int.le_refl 0) _
  have n2 : nearP w ts 0 (getC w ts p.x p.y) u = true := rg_near hm (Int.le_refl 0) hp hu hh
  have g1 := f2.le hu ((fin_way f1 hu (has_pos.1 hh)).rev hp n1)
  have g2 := f1.le hp ((fin_way f2 hp g1.1).rev hu n2)
  have h0 := has_pos.1 hh
  exact ⟨has_pos.2 g1.1, by omega⟩
theorem st_back_no {w h : Int} (hm : mayS w h = true) {ts : List TL} {p u : P2} (hp : onP w h p = true) (hu : onP w h u = true) (hh : (rgF w h ts 0 p).has u = false) : (rgF w h ts 0 u).has p = false := by
  cases h1 : (rgF w h ts 0 u).has p with
  | false => rfl
  | true => rw [(st_back hm hu hp h1).1] at hh; exact absurd hh (by decide)
theorem st_mono {w h : Int} (hm : mayS w h = true) {ts : List TL} {a b : Int} (hab : a ≤ b) {p u : P2} (hp : onP w h p = true) (hu : onP w h u = true) (hh : (rgF w h ts a p).has u = true) : (rgF w h ts b p).has u = true ∧ (rgF w h ts b p).at u ≤ (rgF w h ts a p).at u := by
  have hw := fin_way (rgF_fin (ts := ts) (tol := a) hm hp) hu (has_pos.1 hh)
  have h1 := (rgF_fin (ts := ts) (tol := b) hm hp).le hp (hw.mono fun q hq => by
    unfold nearP nearC at *
    simp only [decide_eq_true_eq] at *
    omega)
  have h0 := has_pos.1 hh
  exact ⟨has_pos.2 h1.1, by omega⟩
def lsF (w h : Int) (f : FD) (u : P2) (i : Nat) : Int := ((adjL u).take i).foldl (fun m q => if onP w h q && f.has q then min m ((f.at q : Int) - 1) else m) ((f.at u : Int) - 1)
theorem lsF_zero (w h : Int) (f : FD) (u : P2) : lsF w h f u 0 = (f.at u : Int) - 1 := rfl
theorem lsF_yes {w h : Int} {f : FD} {u : P2} {i : Nat} (hi : i < (adjL u).length) (hq : (onP w h (adjL u)[i] && f.has (adjL u)[i]) = true) : lsF w h f u (i + 1) = min (lsF w h f u i) ((f.at (adjL u)[i] : Int) - 1) := by
  unfold lsF
  rw [List.take_succ_eq_append_getElem hi, List.foldl_append, List.foldl_cons, List.foldl_nil, if_pos hq]
theorem lsF_no {w h : Int} {f : FD} {u : P2} {i : Nat} (hi : i < (adjL u).length) (hq : (onP w h (adjL u)[i] && f.has (adjL u)[i]) = false) : lsF w h f u (i + 1) = lsF w h f u i := by
  unfold lsF
  rw [List.take_succ_eq_append_getElem hi, List.foldl_append, List.foldl_cons, List.foldl_nil, if_neg (by rw [hq]; decide)]
theorem ls_fold {w h : Int} {f : FD} {v : Int} : ∀ (L : List P2) (m : Int), v ≤ m → (∀ q ∈ L, (onP w h q && f.has q) = true → v ≤ (f.at q : Int) - 1) → v ≤ L.foldl (fun m q => if onP w h q && f.has q then min m ((f.at q : Int) - 1) else m) m ∧ L.foldl (fun m q => if onP w h q && f.has q then min m ((f.at q : Int) - 1) else m) m ≤ m ∧ ∀ q ∈ L, (onP w h q && f.has q) = true → L.foldl (fun m q => if onP w h q && f.has q then min m ((f.at q : Int) - 1) else m) m ≤ (f.at q : Int) - 1
  | [], m, h, _ => ⟨h, Int.le_refl _, fun q hq => by simp at hq⟩
  | a :: L, m, h1, h2 => by
    rw [List.foldl_cons]
    have h3 : ∀ q ∈ L, (onP w h q && f.has q) = true → v ≤ (f.at q : Int) - 1 := fun q hq => h2 q (List.mem_cons_of_mem _ hq)
    cases ha : (onP w h a && f.has a) with
    | true =>
      rw [if_pos rfl]
      have h4 := h2 a (List.mem_cons_self ..) ha
      obtain ⟨g1, g2, g3⟩ := ls_fold L (min m ((f.at a : Int) - 1)) (by omega) h3
      refine ⟨g1, by omega, fun q hq hb => ?_⟩
      rcases List.mem_cons.1 hq with rfl | hq
      · omega
      · exact g3 q hq hb
    | false =>
      rw [if_neg (by decide)]
      obtain ⟨g1, g2, g3⟩ := ls_fold L m h1 h3
      refine ⟨g1, g2, fun q hq hb => ?_⟩
      rcases List.mem_cons.1 hq with rfl | hq
      · rw [ha] at hb; exact absurd hb (by decide)
      · exact g3 q hq hb
theorem ls_bd {w h : Int} {f : FD} {u : P2} (hf : ∀ q, f.at q ≤ 1026) (i : Nat) : -1 ≤ lsF w h f u i ∧ lsF w h f u i ≤ 1026 := by
  have := ls_fold (w := w) (h := h) (f := f) (v := -1) ((adjL u).take i) ((f.at u : Int) - 1) (by omega) (fun q _ _ => by omega)
  have h2 := hf u
  unfold lsF
  omega
theorem ls_end {w h : Int} (hm : mayS w h = true) {ts : List TL} {tol : Int} (ht : 0 ≤ tol) {p u : P2} (hp : onP w h p = true) (hu : onP w h u = true) (hh : (rgF w h ts tol p).has u = true) (h1 : (rgF w h ts tol p).at u ≠ 1) : lsF w h (rgF w h ts tol p) u 4 = ((rgF w h ts tol p).at u : Int) - 1 - 1 := by
  have hb : ∀ q ∈ adjL u, (onP w h q && (rgF w h ts tol p).has q) = true → ((rgF w h ts tol p).at u : Int) - 1 - 1 ≤ ((rgF w h ts tol p).at q : Int) - 1 := fun q hq hc => by
    obtain ⟨c1, c2⟩ := Bool.and_eq_true_iff.1 hc
    have := st_nb hm ht hp c1 hu c2 hh (adj_sym hq)
    omega
  obtain ⟨g1, g2, g3⟩ := ls_fold (adjL u) (((rgF w h ts tol p).at u : Int) - 1) (by omega) hb
  obtain ⟨q, hq, a1, a2, a3⟩ := st_less hm hp hu hh h1
  have := g3 q hq (by rw [a1, a2]; rfl)
  unfold lsF
  rw [show (adjL u).take 4 = adjL u from rfl]
  omega
theorem rg_le {w h : Int} (hm : mayS w h = true) {ts : List TL} {tol : Int} {p : P2} (hp : onP w h p = true) (q : P2) : (rgF w h ts tol p).at q ≤ 1026 := by
  unfold rgF
  exact spF_le (onP_in hm) hp (zFD_at p) (fun x => by rw [zFD_at]; omega) q
theorem rg_few {w h : Int} (hm : mayS w h = true) (f : FD) : (rgS w h f).length ≤ 1000000 := by
  have hb := mayS_b hm
  have h1 := gtS_len f.has (w * 8).toNat ((h * 8).toNat * (w * 8).toNat)
  have h2 : (h * 8).toNat * (w * 8).toNat ≤ 32 * 32 := Nat.mul_le_mul (by omega) (by omega)
  unfold rgS
  omega
theorem ls_fin {w h : Int} (hm : mayS w h = true) {ts : List TL} {tol : Int} (ht : 0 ≤ tol) {p u : P2} (hp : onP w h p = true) (hu : onP w h u = true) (hh : (rgF w h ts tol p).has u = true) : ((((rgF w h ts tol p).at u : Nat) : Int) - 1 == 0 || lsF w h (rgF w h ts tol p) u 4 == (((rgF w h ts tol p).at u : Nat) : Int) - 1 - 1) = true := by
  by_cases e : (rgF w h ts tol p).at u = 1
  · rw [e]; rfl
  · rw [ls_end hm ht hp hu hh e]; simp
end Go.Proofs.Ytfnhckildfbikaa
namespace Go.Proofs.Ytfnhckildfbikaa
set_option maxRecDepth 4000
set_option linter.unusedVariables false
set_option linter.unusedSimpArgs false
open Go.RowKit
attribute [local irreducible] crT crU pcV rgF rgS gtP zFD lsF
set_option maxRecDepth 4000 in
set_option maxHeartbeats 1000000 in
theorem fsteps_d (w h : Int) (ts : List TL) (hg : tsRng ts) (p u : P2) (tol : Int) : DFun Try.prog 6 [shD w h ts, .val (.agg #[.int .i64 p.x, .int .i64 p.y, .int .i64 tol]), .val (.agg #[.int .i64 u.x, .int .i64 u.y])] [] (.val (.bool true)) [] := by
  refine zan (N := 189) 0 (by kernel_rfl) Try.func6 rfl rfl rfl (by simp only [fr0, Nat.zero_add, Nat.reduceAdd]; exact rfl) rfl fun s0 hs0 => ?_
  refine zaf ?_
  refine zai 3 (by simp only [holes, List.cons_append, List.nil_append]; exact rfl) ?_
  refine zad ?_
  refine zaj rfl rfl rfl (op_boxam 0 rfl (ev1 rfl) rfl) (by simp only [upd, zaa, za]; exact rfl) ?_
  refine zaj rfl rfl rfl (op_boxa 1 rfl (ev1 rfl) rfl) (by simp only [upd, zaa, za]; exact rfl) ?_
  refine zaj rfl rfl rfl (op_boxa 2 rfl (ev1 rfl) rfl) (by simp only [upd, zaa, za]; exact rfl) ?_
  refine zab rfl rfl rfl (zac (.inr rfl) (ev1 rfl)) ?_
  refine zae ?_
  refine zaf ?_
  refine zaf ?_
  refine zad ?_
  refine zab rfl rfl rfl (zah [] [] [] rfl (ev1 rfl) en rfl rfl (wakes_d) rfl rfl rfl rfl rfl rfl) ?_
  refine zab rfl rfl rfl ((op_not rfl (ev1 rfl)).cast (d' := .val (.bool false)) (by kernel_rfl)) ?_
  refine zae ?_
  refine dwp_if_f rfl (rfl) ?_
  refine zak ?_
  refine zaf ?_
  by_cases hr : rightB w h (ts.take 17) = true
  · have hc := rightB_ok hr
    have hle := hc.le
    refine zai 1 (by simp only [holes, List.cons_append, List.nil_append]; exact rfl) ?_
    refine zad ?_
    refine zab rfl rfl rfl (op_ldmw rfl tb24 (ev1 rfl) rfl rfl) ?_
    refine zab rfl rfl rfl (zah [] [] [] rfl (ev1 rfl) (ec (ev1 rfl) en) rfl rfl (lof_y w h ts hc) rfl rfl rfl rfl rfl rfl) ?_
    refine zab rfl rfl rfl (zac (.inl rfl) (ev1 rfl)) ?_
    refine zab rfl rfl rfl (op_ext rfl (ev1 rfl) rfl) ?_
    refine zab rfl rfl rfl (op_ext rfl (ev1 rfl) rfl) ?_
    refine zab rfl rfl rfl (op_ext rfl (ev1 rfl) rfl) ?_
    refine zaj rfl rfl rfl (op_alloc 3 rfl zr24 rfl) (by simp only [upd, zaa, za]; exact rfl) ?_
    refine zab rfl rfl rfl (zac (.inr rfl) (ev1 rfl)) ?_
    refine walk_s rfl rfl (op_stam rfl tb24 (ev1 rfl) (ev1 rfl) rfl rfl rfl rfl) (by simp only [upd, zaa, za]; exact rfl) ?_
    refine zab rfl rfl rfl (zac (.inr rfl) (ev1 rfl)) ?_
    refine zae ?_
    refine zaf ?_
    by_cases hbad : badT tol = true
    · refine zai 1 (by simp only [holes, List.cons_append, List.nil_append]; exact rfl) ?_
      refine dwp_draw [([], []), ([1], []), ([], []), ([1], []), ([], []), ([], []), ([1], []), ([4], [4]), ([4], [4]), ([], [])] mixed (by kernel_rfl) ?_
      refine zag rfl rfl (op_ixl rfl ar32 (ev1 rfl) (ev1 rfl) (fun _ => by omega)) ?_
      refine zag rfl rfl (zam rfl tb3 (ev1 rfl) rfl rfl) ?_
      refine zag rfl rfl (op_ixl rfl ar32 (ev1 rfl) (ev1 rfl) (fun _ => by omega)) ?_
      refine zag rfl rfl (zam rfl tb3 (ev1 rfl) rfl rfl) ?_
      refine zag rfl rfl (op_build (ps := [(0, .tmp 34), (1, .tmp 36)]) rfl fl34 zr34 (vc (ev1 rfl) (vc (ev1 rfl) vn)) rfl rfl) ?_
      refine zag rfl rfl (op_ixl rfl ar32 (ev1 rfl) (ev1 rfl) (fun _ => by omega)) ?_
      refine zag rfl rfl (zam rfl tb3 (ev1 rfl) rfl rfl) ?_
      refine lex_w rfl rfl (op_alloc 4 rfl zr34 rfl) rfl (by simp only [upd, zaa, za]; exact rfl) ?_
      refine lex_s rfl rfl (op_stwa rfl tb34 (ev1 rfl) (ev1 rfl) rfl rfl rfl rfl) rfl (by simp only [upd, zaa, za]; exact rfl) ?_
      refine zag rfl rfl (zac (.inr rfl) (ev1 rfl)) ?_
      refine lex_nil ?_
      refine zaf ?_
      refine zaf ?_
      refine zad ?_
      refine zab rfl rfl rfl (zac (.inl rfl) (ev1 rfl)) ?_
      refine zab rfl rfl rfl ((op_not rfl (ev1 rfl)).cast (d' := .val (.bool false)) (by kernel_rfl)) ?_
      refine zae ?_
      refine dwp_if_f rfl (rfl) ?_
      refine zak ?_
      refine zaf ?_
      refine zad ?_
      refine zab rfl rfl rfl (zac (.inl rfl) (ev1 rfl)) ?_
      refine zab rfl rfl rfl (op_ldw rfl tb34 (ev1 rfl) rfl rfl) ?_
      refine zab rfl rfl rfl (op_ldw rfl tb34 (ev1 rfl) rfl rfl) ?_
      refine zab rfl rfl rfl (zac (.inl rfl) (ev1 rfl)) ?_
      refine zab rfl rfl rfl (zah [] [] [] rfl (ev1 rfl) (ec (ev1 rfl) (ec (ev1 rfl) (ec (ev1 rfl) (ec (ev1 rfl) en)))) rfl rfl (steps_b w h _ (ts.take 17) (dpR_ok _) hc (take_rng hg 17) p u tol hbad) rfl rfl rfl rfl rfl rfl) ?_
      refine zab rfl rfl rfl (zac (.inl rfl) (ev1 rfl)) ?_
      refine zab rfl rfl rfl (op_ext rfl (ev1 rfl) rfl) ?_
      refine zab rfl rfl rfl (op_ext rfl (ev1 rfl) rfl) ?_
      refine zab rfl rfl rfl (zac (.inr rfl) (ev1 rfl)) ?_
      refine zab rfl rfl rfl (zac (.inr rfl) (ev1 rfl)) ?_
      refine zae ?_
      refine zaf ?_
      refine zad ?_
      refine zab rfl rfl rfl (zac (.inl rfl) (ev1 rfl)) ?_
      refine zab rfl rfl rfl (op_ldw rfl tb34 (ev1 rfl) rfl rfl) ?_
      refine zab rfl rfl rfl (zac (.inl rfl) (ev1 rfl)) ?_
      refine zab rfl rfl rfl (zah [] [] [] rfl (ev1 rfl) (ec (ev1 rfl) (ec (ev1 rfl) (ec (ev1 rfl) en))) rfl rfl (region_b w h _ (ts.take 17) (dpR_ok _) hc (take_rng hg 17) p tol hbad) rfl rfl rfl rfl rfl rfl) ?_
      refine zab rfl rfl rfl (zac (.inl rfl) (ev1 rfl)) ?_
      refine zab rfl rfl rfl (op_ext rfl (ev1 rfl) rfl) ?_
      refine zab rfl rfl rfl (op_ext rfl (ev1 rfl) rfl) ?_
      refine zab rfl rfl rfl (zac (.inr rfl) (ev1 rfl)) ?_
      refine zab rfl rfl rfl (zac (.inr rfl) (ev1 rfl)) ?_
      refine zae ?_
      refine zaf ?_
      refine zaf ?_
      refine zad ?_
      refine zab rfl rfl rfl (zac (.inl rfl) (ev1 rfl)) ?_
      refine zab rfl rfl rfl ((op_neq rfl (ev1 rfl) (ev1 rfl)).cast (d' := .val (.bool true)) (by kernel_rfl)) ?_
      refine zae ?_
      refine dwp_if_t rfl (rfl) ?_
      refine zaf ?_
      refine zad ?_
      refine zab rfl rfl rfl (zac (.inl rfl) (ev1 rfl)) ?_
      refine zab rfl rfl rfl ((op_eql rfl (ev1 rfl) (ev1 rfl)).cast (d' := .val (.bool true)) (by kernel_rfl)) ?_
      refine zab rfl rfl rfl (zac (.inl rfl) (ev1 rfl)) ?_
      refine walk_k (gd_t (b := true) rfl rfl rfl) rfl rfl rfl (zac (.inl rfl) (ev1 rfl)) (by simp only [upd, zaa, za]; exact rfl) ?_
      refine walk_k (gd_t (b := true) rfl rfl rfl) rfl rfl rfl ((op_neq rfl (ev2 rfl) (ev1 rfl)).cast (d' := .val (.bool true)) (by kernel_rfl)) (by simp only [upd, zaa, za]; exact rfl) ?_
      refine walk_k (gd_t (b := true) rfl rfl rfl) rfl rfl rfl (zac (.inl rfl) (ev2 rfl)) (by simp only [upd, zaa, za]; exact rfl) ?_
      refine walk_gr (gd_ff (g := true) (b := true) rfl rfl rfl) rfl rfl rfl (dop_never (d := .junk)) ?_
      refine walk_gr (gd_ff (g := true) (b := true) rfl rfl rfl) rfl rfl rfl (dop_never (d := .junk)) ?_
      refine walk_gr (gd_ff (g := true) (b := true) rfl rfl rfl) rfl rfl rfl (dop_never (d := .val (.bool false))) ?_
      refine walk_gr (gd_ff (g := true) (b := true) rfl rfl rfl) rfl rfl rfl (dop_never (d := .val (.bool false))) ?_
      refine walk_k (gd_t (b := true) rfl rfl rfl) rfl rfl rfl ((op_or rfl (ev2 rfl) (ev3 rfl id)).cast (d' := .val (.bool true)) (by rfl)) (by simp only [upd, zaa, za]; exact rfl) ?_
      refine zab rfl rfl rfl ((op_and rfl (ev1 rfl) (ev3 rfl (fun _ => rfl))).cast (d' := .val (.bool true)) (by rfl)) ?_
      refine zab rfl rfl rfl (zac (.inr rfl) (ev1 rfl)) ?_
      refine zae ?_
      refine zao ?_
      refine kend0 (rs1 rfl (rv_t rfl)) rfl ?_
      rfl
    · refine zai 1 (by simp only [holes, List.cons_append, List.nil_append]; exact rfl) ?_
      refine dwp_draw [([], []), ([1], []), ([], []), ([1], []), ([], []), ([], []), ([1], []), ([4], [4]), ([4], [4]), ([], [])] mixed (by kernel_rfl) ?_
      refine zag rfl rfl (op_ixl rfl ar32 (ev1 rfl) (ev1 rfl) (fun _ => by omega)) ?_
      refine zag rfl rfl (zam rfl tb3 (ev1 rfl) rfl rfl) ?_
      refine zag rfl rfl (op_ixl rfl ar32 (ev1 rfl) (ev1 rfl) (fun _ => by omega)) ?_
      refine zag rfl rfl (zam rfl tb3 (ev1 rfl) rfl rfl) ?_
      refine zag rfl rfl (op_build (ps := [(0, .tmp 34), (1, .tmp 36)]) rfl fl34 zr34 (vc (ev1 rfl) (vc (ev1 rfl) vn)) rfl rfl) ?_
      refine zag rfl rfl (op_ixl rfl ar32 (ev1 rfl) (ev1 rfl) (fun _ => by omega)) ?_
      refine zag rfl rfl (zam rfl tb3 (ev1 rfl) rfl rfl) ?_
      refine lex_w rfl rfl (op_alloc 4 rfl zr34 rfl) rfl (by simp only [upd, zaa, za]; exact rfl) ?_
      refine lex_s rfl rfl (op_stwa rfl tb34 (ev1 rfl) (ev1 rfl) rfl rfl rfl rfl) rfl (by simp only [upd, zaa, za]; exact rfl) ?_
      refine zag rfl rfl (zac (.inr rfl) (ev1 rfl)) ?_
      refine lex_nil ?_
      refine zaf ?_
      refine zaf ?_
      refine zad ?_
      refine zab rfl rfl rfl (zac (.inl rfl) (ev1 rfl)) ?_
      refine zab rfl rfl rfl ((op_not rfl (ev1 rfl)).cast (d' := .val (.bool false)) (by kernel_rfl)) ?_
      refine zae ?_
      refine dwp_if_f rfl (rfl) ?_
      refine zak ?_
      refine zaf ?_
      by_cases hon : (onP w h p && onP w h u) = true
      · by_cases hh : (rgF w h (ts.take 17) tol p).has u = true
        · have hbad : badT tol = false := by simpa using hbad
          obtain ⟨hp, hu⟩ := Bool.and_eq_true_iff.1 hon
          have hno : (onP w h u && onP w h p) = true := by rw [hp, hu]; rfl
          have hui := onP_in hc.may u hu
          have htl := (badT_no hbad).1
          have hui2 := hui
          unfold inF32 at hui2
          have hal := adj_len u
          have hrl : ∀ q, (rgF w h (ts.take 17) tol p).at q ≤ 1026 := fun q => rg_le hc.may hp q
          have hru := hrl u
          have h1u := has_pos.1 hh
          have hcn := st_cnt hc.may hp hu hh
          have hone := st_one hc.may hp hu hh
          have heq : ((((rgF w h (ts.take 17) tol p).at u : Nat) : Int) - 1 == 0) = decide (p = u) := by
            rw [Bool.eq_iff_iff, beq_iff_eq, decide_eq_true_eq]
            exact ⟨fun e => hone.1 (by omega), fun e => by have := hone.2 e; omega⟩
          refine zad ?_
          refine zab rfl rfl rfl (zac (.inl rfl) (ev1 rfl)) ?_
          refine zab rfl rfl rfl (op_ldw rfl tb34 (ev1 rfl) rfl rfl) ?_
          refine zab rfl rfl rfl (op_ldw rfl tb34 (ev1 rfl) rfl rfl) ?_
          refine zab rfl rfl rfl (zac (.inl rfl) (ev1 rfl)) ?_
          refine zab rfl rfl rfl (zah [] [] [] rfl (ev1 rfl) (ec (ev1 rfl) (ec (ev1 rfl) (ec (ev1 rfl) (ec (ev1 rfl) en)))) rfl rfl (steps_d w h _ (ts.take 17) (dpR_ok _) hc (take_rng hg 17) p u tol (refE_k2 hbad hon) hh) rfl rfl rfl rfl rfl rfl) ?_
          refine zab rfl rfl rfl (zac (.inl rfl) (ev1 rfl)) ?_
          refine zab rfl rfl rfl (op_ext rfl (ev1 rfl) rfl) ?_
          refine zab rfl rfl rfl (op_ext rfl (ev1 rfl) rfl) ?_
          refine zab rfl rfl rfl (zac (.inr rfl) (ev1 rfl)) ?_
          refine zab rfl rfl rfl (zac (.inr rfl) (ev1 rfl)) ?_
          refine zae ?_
          refine zaf ?_
          refine zad ?_
          refine zab rfl rfl rfl (zac (.inl rfl) (ev1 rfl)) ?_
          refine zab rfl rfl rfl (op_ldw rfl tb34 (ev1 rfl) rfl rfl) ?_
          refine zab rfl rfl rfl (zac (.inl rfl) (ev1 rfl)) ?_
          refine zab rfl rfl rfl (zah [] [] [] rfl (ev1 rfl) (ec (ev1 rfl) (ec (ev1 rfl) (ec (ev1 rfl) en))) rfl rfl (region_d w h _ (ts.take 17) (dpR_ok _) hc (take_rng hg 17) p tol (refE_k1 hbad hp)) rfl rfl rfl rfl rfl rfl) ?_
          refine zab rfl rfl rfl (zac (.inl rfl) (ev1 rfl)) ?_
          refine zab rfl rfl rfl (op_ext rfl (ev1 rfl) rfl) ?_
          refine zab rfl rfl rfl (op_ext rfl (ev1 rfl) rfl) ?_
          refine zab rfl rfl rfl (zac (.inr rfl) (ev1 rfl)) ?_
          refine zab rfl rfl rfl (zac (.inr rfl) (ev1 rfl)) ?_
          refine zae ?_
          refine zaf ?_
          refine zaf ?_
          refine zad ?_
          refine zab rfl rfl rfl (zac (.inl rfl) (ev1 rfl)) ?_
          refine zab rfl rfl rfl ((op_neq rfl (ev1 rfl) (ev1 rfl)).cast (d' := .val (.bool false)) (by kernel_rfl)) ?_
          refine zae ?_
          refine dwp_if_f rfl (rfl) ?_
          refine zak ?_
          refine zaf ?_
          refine zaf ?_
          refine zad ?_
          refine zab rfl rfl rfl (zac (.inl rfl) (ev1 rfl)) ?_
          refine zab rfl rfl rfl ((op_neq rfl (ev1 rfl) (ev1 rfl)).cast (d' := .val (.bool false)) (by kernel_rfl)) ?_
          refine zab rfl rfl rfl (zac (.inl rfl) (ev1 rfl)) ?_
          refine walk_k (gd_f (b := false) rfl rfl rfl) rfl rfl rfl (zac (.inl rfl) (ev1 rfl)) (by simp only [upd, zaa, za]; exact rfl) ?_
          refine walk_k (gd_f (b := false) rfl rfl rfl) rfl rfl rfl (op_ldw rfl tb34 (ev1 rfl) rfl rfl) (by simp only [upd, zaa, za]; exact rfl) ?_
          refine walk_k (gd_f (b := false) rfl rfl rfl) rfl rfl rfl ((zah [] [] [] rfl (ev1 rfl) (ec (ev2 rfl) (ec (ev2 rfl) en)) rfl rfl (has_d (rgS w h (rgF w h (ts.take 17) tol p)) u) rfl rfl rfl rfl rfl rfl).cast (d' := .val (.bool true)) (by rw [rgS_has hc.may, hu, hh]; rfl)) (by simp only [upd, zaa, za]; exact rfl) ?_
          refine walk_k (gd_f (b := false) rfl rfl rfl) rfl rfl rfl ((op_not rfl (ev2 rfl)).cast (d' := .val (.bool false)) (by kernel_rfl)) (by simp only [upd, zaa, za]; exact rfl) ?_
          refine zab rfl rfl rfl ((op_or rfl (ev1 rfl) (ev3 rfl (fun _ => rfl))).cast (d' := .val (.bool false)) (by rfl)) ?_
          refine zab rfl rfl rfl (zac (.inl rfl) (ev1 rfl)) ?_
          refine walk_k (gd_f (b := false) rfl rfl rfl) rfl rfl rfl (zac (.inl rfl) (ev1 rfl)) (by simp only [upd, zaa, za]; exact rfl) ?_
          refine walk_k (gd_f (b := false) rfl rfl rfl) rfl rfl rfl (op_eql rfl (ev2 rfl) (ev1 rfl)) (by simp only [upd, zaa, za]; exact rfl) ?_
          refine walk_k (gd_f (b := false) rfl rfl rfl) rfl rfl rfl (op_ldw rfl tb34 (ev1 rfl) rfl rfl) (by simp only [upd, zaa, za]; exact rfl) ?_
          refine walk_k (gd_f (b := false) rfl rfl rfl) rfl rfl rfl (op_ldw rfl tb34 (ev1 rfl) rfl rfl) (by simp only [upd, zaa, za]; exact rfl) ?_
          refine walk_k (gd_f (b := false) rfl rfl rfl) rfl rfl rfl (op_eqr eq34 rfl gd34 tb34 (ev2 rfl) (ev2 rfl)) (by simp only [upd, zaa, za]; exact rfl) ?_
          refine walk_k (gd_f (b := false) rfl rfl rfl) rfl rfl rfl ((op_neb rfl un4 (ev2 rfl) (ev2 rfl)).cast (d' := .val (.bool false)) (by rw [heq]; simp)) (by simp only [upd, zaa, za]; exact rfl) ?_
          refine zab rfl rfl rfl ((op_or rfl (ev1 rfl) (ev3 rfl (fun _ => rfl))).cast (d' := .val (.bool false)) (by rfl)) ?_
          refine zab rfl rfl rfl (zac (.inl rfl) (ev1 rfl)) ?_
          refine walk_k (gd_f (b := false) rfl rfl rfl) rfl rfl rfl (zac (.inl rfl) (ev1 rfl)) (by simp only [upd, zaa, za]; exact rfl) ?_
          refine walk_k (gd_f (b := false) rfl rfl rfl) rfl rfl rfl (zac (.inl rfl) (ev1 rfl)) (by simp only [upd, zaa, za]; exact rfl) ?_
          refine walk_k (gd_f (b := false) rfl rfl rfl) rfl rfl rfl (zah [] [] [] rfl (ev1 rfl) (ec (ev2 rfl) en) rfl rfl (count_d (rgS w h (rgF w h (ts.take 17) tol p)) (rg_few hc.may _)) rfl rfl rfl rfl rfl rfl) (by simp only [upd, zaa, za]; exact rfl) ?_
          refine walk_k (gd_f (b := false) rfl rfl rfl) rfl rfl rfl ((op_geq rfl (ev2 rfl) (ev2 rfl)).cast (d' := .val (.bool false)) (by rw [D.val.injEq, Value.bool.injEq, decide_eq_false_iff_not]; omega)) (by simp only [upd, zaa, za]; exact rfl) ?_
          refine zab rfl rfl rfl ((op_or rfl (ev1 rfl) (ev3 rfl (fun _ => rfl))).cast (d' := .val (.bool false)) (by rfl)) ?_
          refine zae ?_
          refine dwp_if_f rfl (rfl) ?_
          refine zak ?_
          refine zaf ?_
          by_cases hz : (rgF w h (ts.take 17) 0 p).has u = true
          · obtain ⟨hz1, hz2⟩ := st_back hc.may hp hu hz
            obtain ⟨hz3, hz4⟩ := st_mono hc.may htl hp hu hz
            refine zad ?_
            refine zab rfl rfl rfl (zac (.inl rfl) (ev1 rfl)) ?_
            refine zab rfl rfl rfl (op_ldw rfl tb34 (ev1 rfl) rfl rfl) ?_
            refine zab rfl rfl rfl (op_ldw rfl tb34 (ev1 rfl) rfl rfl) ?_
            refine zab rfl rfl rfl (zah [] [] [] rfl (ev1 rfl) (ec (ev1 rfl) (ec (ev1 rfl) (ec (ev1 rfl) (ec (ev1 rfl) en)))) rfl rfl (steps_d w h _ (ts.take 17) (dpR_ok _) hc (take_rng hg 17) u p 0 (refE_k2 (by decide) hno) hz1) rfl rfl rfl rfl rfl rfl) ?_
            refine zab rfl rfl rfl (zac (.inl rfl) (ev1 rfl)) ?_
            refine zab rfl rfl rfl (op_ext rfl (ev1 rfl) rfl) ?_
            refine zab rfl rfl rfl (op_ext rfl (ev1 rfl) rfl) ?_
            refine zab rfl rfl rfl (zac (.inr rfl) (ev1 rfl)) ?_
            refine zab rfl rfl rfl (zac (.inr rfl) (ev1 rfl)) ?_
            refine zae ?_
            refine zaf ?_
            refine zad ?_
            refine zab rfl rfl rfl (zac (.inl rfl) (ev1 rfl)) ?_
            refine zab rfl rfl rfl (op_ldw rfl tb34 (ev1 rfl) rfl rfl) ?_
            refine zab rfl rfl rfl (op_ldw rfl tb34 (ev1 rfl) rfl rfl) ?_
            refine zab rfl rfl rfl (zah [] [] [] rfl (ev1 rfl) (ec (ev1 rfl) (ec (ev1 rfl) (ec (ev1 rfl) (ec (ev1 rfl) en)))) rfl rfl (steps_d w h _ (ts.take 17) (dpR_ok _) hc (take_rng hg 17) p u 0 (refE_k2 (by decide) hon) hz) rfl rfl rfl rfl rfl rfl) ?_
            refine zab rfl rfl rfl (zac (.inl rfl) (ev1 rfl)) ?_
            refine zab rfl rfl rfl (op_ext rfl (ev1 rfl) rfl) ?_
            refine zab rfl rfl rfl (op_ext rfl (ev1 rfl) rfl) ?_
            refine zab rfl rfl rfl (zac (.inr rfl) (ev1 rfl)) ?_
            refine zab rfl rfl rfl (zac (.inr rfl) (ev1 rfl)) ?_
            refine zae ?_
            refine zaf ?_
            refine zaf ?_
            refine zad ?_
            refine zab rfl rfl rfl (zac (.inl rfl) (ev1 rfl)) ?_
            refine zab rfl rfl rfl (zac (.inl rfl) (ev1 rfl)) ?_
            refine zab rfl rfl rfl ((op_neq rfl (ev1 rfl) (ev1 rfl)).cast (d' := .val (.bool false)) (by kernel_rfl)) ?_
            refine zab rfl rfl rfl (zac (.inl rfl) (ev1 rfl)) ?_
            refine walk_k (gd_f (b := false) rfl rfl rfl) rfl rfl rfl (zac (.inl rfl) (ev1 rfl)) (by simp only [upd, zaa, za]; exact rfl) ?_
            refine walk_k (gd_f (b := false) rfl rfl rfl) rfl rfl rfl (zac (.inl rfl) (ev1 rfl)) (by simp only [upd, zaa, za]; exact rfl) ?_
            refine walk_k (gd_f (b := false) rfl rfl rfl) rfl rfl rfl ((op_neq rfl (ev2 rfl) (ev2 rfl)).cast (d' := .val (.bool false)) (by rw [hz2]; simp)) (by simp only [upd, zaa, za]; exact rfl) ?_
            refine zab rfl rfl rfl ((op_or rfl (ev1 rfl) (ev3 rfl (fun _ => rfl))).cast (d' := .val (.bool false)) (by rfl)) ?_
            refine zab rfl rfl rfl (zac (.inl rfl) (ev1 rfl)) ?_
            refine walk_k (gd_f (b := false) rfl rfl rfl) rfl rfl rfl (zac (.inl rfl) (ev1 rfl)) (by simp only [upd, zaa, za]; exact rfl) ?_
            refine walk_k (gd_f (b := false) rfl rfl rfl) rfl rfl rfl (zac (.inl rfl) (ev1 rfl)) (by simp only [upd, zaa, za]; exact rfl) ?_
            refine walk_k (gd_f (b := false) rfl rfl rfl) rfl rfl rfl ((op_lss rfl (ev2 rfl) (ev2 rfl)).cast (d' := .val (.bool false)) (by rw [D.val.injEq, Value.bool.injEq, decide_eq_false_iff_not]; omega)) (by simp only [upd, zaa, za]; exact rfl) ?_
            refine walk_k (gd_f (b := false) rfl rfl rfl) rfl rfl rfl (zac (.inl rfl) (ev2 rfl)) (by simp only [upd, zaa, za]; exact rfl) ?_
            refine walk_gr (gd_tt (g := true) (b := false) rfl rfl rfl) rfl rfl rfl (dop_never (d := .junk)) ?_
            refine walk_gr (gd_tt (g := true) (b := false) rfl rfl rfl) rfl rfl rfl (dop_never (d := .val (.bool false))) ?_
            refine walk_k (gd_f (b := false) rfl rfl rfl) rfl rfl rfl ((op_and rfl (ev2 rfl) (ev3 rfl id)).cast (d' := .val (.bool false)) (by rfl)) (by simp only [upd, zaa, za]; exact rfl) ?_
            refine zab rfl rfl rfl ((op_or rfl (ev1 rfl) (ev3 rfl (fun _ => rfl))).cast (d' := .val (.bool false)) (by rfl)) ?_
            refine zae ?_
            refine dwp_if_f rfl (rfl) ?_
            refine zak ?_
            refine zaf ?_
            refine zad ?_
            refine zab rfl rfl rfl (zac (.inl rfl) (ev1 rfl)) ?_
            refine zab rfl rfl rfl (zac (.inr rfl) (ev1 rfl)) ?_
            refine zae ?_
            refine zaf ?_
            refine zaf ?_
            refine zad ?_
            refine zab rfl rfl rfl (op_fa rfl fo34_0 (ev1 rfl)) ?_
            refine zab rfl rfl rfl (zam rfl tb3 (ev1 rfl) rfl rfl) ?_
            refine zab rfl rfl rfl (op_sub' rfl (ev1 rfl) (ev1 rfl) (fun _ => IntWalk.i64_in _ (by omega))) ?_
            refine zab rfl rfl rfl (op_fa rfl fo34_1 (ev1 rfl)) ?_
            refine zab rfl rfl rfl (zam rfl tb3 (ev1 rfl) rfl rfl) ?_
            refine zab rfl rfl rfl (op_build (ps := [(0, .tmp 127), (1, .tmp 129)]) rfl fl34 zr34 (vc (ev1 rfl) (vc (ev1 rfl) vn)) rfl rfl) ?_
            refine zab rfl rfl rfl (op_fa rfl fo34_0 (ev1 rfl)) ?_
            refine zab rfl rfl rfl (zam rfl tb3 (ev1 rfl) rfl rfl) ?_
            refine zab rfl rfl rfl (op_add' rfl (ev1 rfl) (ev1 rfl) (fun _ => IntWalk.i64_in _ (by omega))) ?_
            refine zab rfl rfl rfl (op_fa rfl fo34_1 (ev1 rfl)) ?_
            refine zab rfl rfl rfl (zam rfl tb3 (ev1 rfl) rfl rfl) ?_
            refine zab rfl rfl rfl (op_build (ps := [(0, .tmp 133), (1, .tmp 135)]) rfl fl34 zr34 (vc (ev1 rfl) (vc (ev1 rfl) vn)) rfl rfl) ?_
            refine zab rfl rfl rfl (op_fa rfl fo34_0 (ev1 rfl)) ?_
            refine zab rfl rfl rfl (zam rfl tb3 (ev1 rfl) rfl rfl) ?_
            refine zab rfl rfl rfl (op_fa rfl fo34_1 (ev1 rfl)) ?_
            refine zab rfl rfl rfl (zam rfl tb3 (ev1 rfl) rfl rfl) ?_
            refine zab rfl rfl rfl (op_sub' rfl (ev1 rfl) (ev1 rfl) (fun _ => IntWalk.i64_in _ (by omega))) ?_
            refine zab rfl rfl rfl (op_build (ps := [(0, .tmp 138), (1, .tmp 141)]) rfl fl34 zr34 (vc (ev1 rfl) (vc (ev1 rfl) vn)) rfl rfl) ?_
            refine zab rfl rfl rfl (op_fa rfl fo34_0 (ev1 rfl)) ?_
            refine zab rfl rfl rfl (zam rfl tb3 (ev1 rfl) rfl rfl) ?_
            refine zab rfl rfl rfl (op_fa rfl fo34_1 (ev1 rfl)) ?_
            refine zab rfl rfl rfl (zam rfl tb3 (ev1 rfl) rfl rfl) ?_
            refine zab rfl rfl rfl (op_add' rfl (ev1 rfl) (ev1 rfl) (fun _ => IntWalk.i64_in _ (by omega))) ?_
            refine zab rfl rfl rfl (op_build (ps := [(0, .tmp 144), (1, .tmp 147)]) rfl fl34 zr34 (vc (ev1 rfl) (vc (ev1 rfl) vn)) rfl rfl) ?_
            refine zab rfl rfl rfl ((op_bldaD (ps := [(0, .tmp 130), (1, .tmp 136), (2, .tmp 142), (3, .tmp 148)]) rfl ar76 zr76 (ec (ev1 rfl) (ec (ev1 rfl) (ec (ev1 rfl) (ec (ev1 rfl) en)))) rfl rfl rfl rfl).wk (by exact Wk.aggv ((adjL u).flatMap p2) : Wk _ (.val (.agg ((adjL u).flatMap p2).toArray)))) ?_
            refine zab rfl rfl rfl (zac (.inl rfl) (ev1 rfl)) ?_
            refine zae ?_
            refine zal ?_
            refine dwp_loopS ⟨hs0, rfl⟩ (α := Nat) (fun i => [(20, .val (.int .i64 (lsF w h (rgF w h (ts.take 17) tol p) u i))), (150, .val (.int .i64 (i : Int)))]) [(7, _), (10, _), (11, _), (12, _), (14, _), (149, _)] (fun i => []) [_, _, _, _, _] (fun i => i ≤ (adjL u).length) (fun i => (adjL u).length - i) 0 [0, 1, 2, 3, 4] (Nat.zero_le _) rfl ⟨rfl, rfl, rfl, rfl, rfl, rfl, trivial⟩ ⟨by rw [lsF_zero]; rfl, rfl, trivial⟩ ⟨rfl, rfl, rfl, rfl, rfl, trivial⟩ ?_
            intro i hx
            simp only [upd, zaa, za, List.cons_append, List.nil_append]
            have hi0 := hx
            have hlb := ls_bd (w := w) (h := h) (u := u) hrl i
            refine zaf ?_
            refine zad ?_
            refine zab rfl rfl rfl (op_lss rfl (ev1 rfl) (ev1 rfl)) ?_
            refine zae ?_
            refine zaf ?_
            refine dwp_cond rfl (fun c8 => ?_) (fun c8 => ?_)
            · try simp only [yg, ya, beq_iff_eq, bne_iff_ne, yb, yc, yf, ye, yh, yi, yd, ne_eq, yj, Int.not_lt, Int.not_le] at c8
              refine zak ?_
              refine zaf ?_
              refine zal ?_
              refine zaf ?_
              have hi : i < (adjL u).length := by omega
              refine zai 1 (by simp only [holes, List.cons_append, List.nil_append]; exact rfl) ?_
              refine zad ?_
              refine zab rfl rfl rfl ((op_ixv (j := i) (zP2) rfl av76 (ev1 rfl) (ev1 rfl) (fun _ => rfl) (fun _ => by omega) (adj_len _) (fun _ => rfl)).wk (Wk.of_eq (d' := .val (.agg (p2 (adjL u)[i]).toArray)) (by rw [gD_at hi]))) ?_
              refine zaj rfl rfl rfl (op_alloc 5 rfl zr34 rfl) (by simp only [upd, zaa, za]; exact rfl) ?_
              refine walk_s rfl rfl (op_stwa rfl tb34 (ev1 rfl) (ev1 rfl) rfl rfl rfl rfl) (by simp only [upd, zaa, za]; exact rfl) ?_
              refine zae ?_
              refine zaf ?_
              refine zaf ?_
              refine zad ?_
              refine zab rfl rfl rfl (zac (.inl rfl) (ev1 rfl)) ?_
              refine zab rfl rfl rfl (op_ldw rfl tb34 (ev1 rfl) rfl rfl) ?_
              refine zab rfl rfl rfl (zah [] [] [] rfl (ev1 rfl) (ec (ev1 rfl) (ec (ev1 rfl) en)) rfl rfl (has_d (rgS w h (rgF w h (ts.take 17) tol p)) (adjL u)[i]) rfl rfl rfl rfl rfl rfl) ?_
              refine zab rfl rfl rfl (op_not rfl (ev1 rfl)) ?_
              refine zae ?_
              refine dwp_cond rfl (fun c3 => ?_) (fun c3 => ?_)
              · rw [rgS_has hc.may] at c3
                have hq : (onP w h (adjL u)[i] && (rgF w h (ts.take 17) tol p).has (adjL u)[i]) = false := by revert c3; cases (onP w h (adjL u)[i] && (rgF w h (ts.take 17) tol p).has (adjL u)[i]) <;> simp
                refine dwp_exit ?_
                refine zad ?_
                refine zab rfl rfl rfl (op_add' rfl (ev1 rfl) (ev1 rfl) (fun _ => IntWalk.i64_in _ (by omega))) ?_
                refine zab rfl rfl rfl (zac (.inl rfl) (ev1 rfl)) ?_
                refine zae ?_
                refine ⟨i + 1, [0, 1, 2, 3, 4], by omega, by simp only []; omega, rfl, ⟨by rw [lsF_no hi hq]; rfl, rfl, rfl, rfl, rfl, rfl, rfl, rfl, trivial⟩, ⟨rfl, rfl, rfl, rfl, rfl, trivial⟩⟩
              · rw [rgS_has hc.may] at c3
                have hq : (onP w h (adjL u)[i] && (rgF w h (ts.take 17) tol p).has (adjL u)[i]) = true := by simpa using c3
                obtain ⟨hq1, hq2⟩ := Bool.and_eq_true_iff.1 hq
                have hqo : (onP w h p && onP w h (adjL u)[i]) = true := by rw [hp, hq1]; rfl
                have hn1 := st_nb hc.may htl hp hu hq1 hh hq2 (List.getElem_mem hi)
                have hn2 := st_nb hc.may htl hp hq1 hu hq2 hh (adj_sym (List.getElem_mem hi))
                have hrq := hrl (adjL u)[i]
                refine zak ?_
                refine zaf ?_
                refine zad ?_
                refine zab rfl rfl rfl (zac (.inl rfl) (ev1 rfl)) ?_
                refine zab rfl rfl rfl (op_ldw rfl tb34 (ev1 rfl) rfl rfl) ?_
                refine zab rfl rfl rfl (op_ldw rfl tb34 (ev1 rfl) rfl rfl) ?_
                refine zab rfl rfl rfl (zac (.inl rfl) (ev1 rfl)) ?_
                refine zab rfl rfl rfl (zah [] [] [] rfl (ev1 rfl) (ec (ev1 rfl) (ec (ev1 rfl) (ec (ev1 rfl) (ec (ev1 rfl) en)))) rfl rfl (steps_d w h _ (ts.take 17) (dpR_ok _) hc (take_rng hg 17) p (adjL u)[i] tol (refE_k2 hbad hqo) hq2) rfl rfl rfl rfl rfl rfl) ?_
                refine zab rfl rfl rfl (zac (.inl rfl) (ev1 rfl)) ?_
                refine zab rfl rfl rfl (op_ext rfl (ev1 rfl) rfl) ?_
                refine zab rfl rfl rfl (op_ext rfl (ev1 rfl) rfl) ?_
                refine zab rfl rfl rfl (zac (.inr rfl) (ev1 rfl)) ?_
                refine zab rfl rfl rfl (zac (.inr rfl) (ev1 rfl)) ?_
                refine zae ?_
                refine zaf ?_
                refine zaf ?_
                refine zad ?_
                refine zab rfl rfl rfl (zac (.inl rfl) (ev1 rfl)) ?_
                refine zab rfl rfl rfl ((op_neq rfl (ev1 rfl) (ev1 rfl)).cast (d' := .val (.bool false)) (by kernel_rfl)) ?_
                refine zab rfl rfl rfl (zac (.inl rfl) (ev1 rfl)) ?_
                refine walk_k (gd_f (b := false) rfl rfl rfl) rfl rfl rfl (zac (.inl rfl) (ev1 rfl)) (by simp only [upd, zaa, za]; exact rfl) ?_
                refine walk_k (gd_f (b := false) rfl rfl rfl) rfl rfl rfl (zac (.inl rfl) (ev1 rfl)) (by simp only [upd, zaa, za]; exact rfl) ?_
                refine walk_k (gd_f (b := false) rfl rfl rfl) rfl rfl rfl (op_sub' rfl (ev2 rfl) (ev2 rfl) (fun _ => IntWalk.i64_in _ (by omega))) (by simp only [upd, zaa, za]; exact rfl) ?_
                refine walk_k (gd_f (b := false) rfl rfl rfl) rfl rfl rfl (zac (.inl rfl) (ev1 rfl)) (by simp only [upd, zaa, za]; exact rfl) ?_
                refine walk_k (gd_f (b := false) rfl rfl rfl) rfl rfl rfl (zac (.inl rfl) (ev1 rfl)) (by simp only [upd, zaa, za]; exact rfl) ?_
                refine walk_k (gd_f (b := false) rfl rfl rfl) rfl rfl rfl (op_sub' rfl (ev2 rfl) (ev2 rfl) (fun _ => IntWalk.i64_in _ (by omega))) (by simp only [upd, zaa, za]; exact rfl) ?_
                refine walk_k (gd_f (b := false) rfl rfl rfl) rfl rfl rfl (op_max rfl (ev2 rfl) (ev2 rfl)) (by simp only [upd, zaa, za]; exact rfl) ?_
                refine walk_k (gd_f (b := false) rfl rfl rfl) rfl rfl rfl ((op_gtr rfl (ev2 rfl) (ev1 rfl)).cast (d' := .val (.bool false)) (by rw [D.val.injEq, Value.bool.injEq, decide_eq_false_iff_not]; omega)) (by simp only [upd, zaa, za]; exact rfl) ?_
                refine zab rfl rfl rfl ((op_or rfl (ev1 rfl) (ev3 rfl (fun _ => rfl))).cast (d' := .val (.bool false)) (by rfl)) ?_
                refine zae ?_
                refine dwp_if_f rfl (rfl) ?_
                refine zak ?_
                refine zad ?_
                refine zab rfl rfl rfl (zac (.inl rfl) (ev1 rfl)) ?_
                refine zab rfl rfl rfl (zac (.inl rfl) (ev1 rfl)) ?_
                refine zab rfl rfl rfl (op_min rfl (ev1 rfl) (ev1 rfl)) ?_
                refine zab rfl rfl rfl (zac (.inr rfl) (ev1 rfl)) ?_
                refine zae ?_
                refine zad ?_
                refine zab rfl rfl rfl (op_add' rfl (ev1 rfl) (ev1 rfl) (fun _ => IntWalk.i64_in _ (by omega))) ?_
                refine zab rfl rfl rfl (zac (.inl rfl) (ev1 rfl)) ?_
                refine zae ?_
                refine ⟨i + 1, [0, 1, 2, 3, 4], by omega, by simp only []; omega, rfl, ⟨by rw [lsF_yes hi hq]; rfl, rfl, rfl, rfl, rfl, rfl, rfl, rfl, trivial⟩, ⟨rfl, rfl, rfl, rfl, rfl, trivial⟩⟩
            · try simp only [yg, ya, beq_iff_eq, bne_iff_ne, yb, yc, yf, ye, yh, yi, yd, ne_eq, yj, Int.not_lt, Int.not_le] at c8
              refine dwp_exit ?_
              refine zaf ?_
              obtain rfl : i = 4 := by omega
              have hfin := ls_fin hc.may htl hp hu hh
              refine zad ?_
              refine zab rfl rfl rfl (zac (.inl rfl) (ev1 rfl)) ?_
              refine zab rfl rfl rfl (op_eql rfl (ev1 rfl) (ev1 rfl)) ?_
              refine zab rfl rfl rfl (zac (.inl rfl) (ev1 rfl)) ?_
              refine walk_gr (gd_f rfl rfl rfl) rfl rfl rfl (zac (.inl rfl) (ev1 rfl)) ?_
              refine walk_gr (gd_f rfl rfl rfl) rfl rfl rfl (zac (.inl rfl) (ev1 rfl)) ?_
              refine walk_gr (gd_f rfl rfl rfl) rfl rfl rfl (op_sub' rfl (ev2 rfl) (ev1 rfl) (fun hp => IntWalk.i64_in _ (by first | omega | (simp at hp; omega)))) ?_
              refine walk_gr (gd_f rfl rfl rfl) rfl rfl rfl (op_eql rfl (ev2 rfl) (ev2 rfl)) ?_
              refine zab rfl rfl rfl ((op_or rfl (ev1 rfl) (ev3 rfl id)).cast (d' := .val (.bool true)) (by rw [hfin])) ?_
              refine zab rfl rfl rfl (zac (.inr rfl) (ev1 rfl)) ?_
              refine zae ?_
              refine zao ?_
              refine kend0 (rs1 rfl (rv_t rfl)) rfl ?_
              rfl
          · have hz : (rgF w h (ts.take 17) 0 p).has u = false := by simpa using hz
            have hz1 := st_back_no hc.may hp hu hz
            refine zad ?_
            refine zab rfl rfl rfl (zac (.inl rfl) (ev1 rfl)) ?_
            refine zab rfl rfl rfl (op_ldw rfl tb34 (ev1 rfl) rfl rfl) ?_
            refine zab rfl rfl rfl (op_ldw rfl tb34 (ev1 rfl) rfl rfl) ?_
            refine zab rfl rfl rfl (zah [] [] [] rfl (ev1 rfl) (ec (ev1 rfl) (ec (ev1 rfl) (ec (ev1 rfl) (ec (ev1 rfl) en)))) rfl rfl (steps_no w h _ (ts.take 17) (dpR_ok _) hc (take_rng hg 17) u p 0 (refE_k2 (by decide) hno) hz1) rfl rfl rfl rfl rfl rfl) ?_
            refine zab rfl rfl rfl (zac (.inl rfl) (ev1 rfl)) ?_
            refine zab rfl rfl rfl (op_ext rfl (ev1 rfl) rfl) ?_
            refine zab rfl rfl rfl (op_ext rfl (ev1 rfl) rfl) ?_
            refine zab rfl rfl rfl (zac (.inr rfl) (ev1 rfl)) ?_
            refine zab rfl rfl rfl (zac (.inr rfl) (ev1 rfl)) ?_
            refine zae ?_
            refine zaf ?_
            refine zad ?_
            refine zab rfl rfl rfl (zac (.inl rfl) (ev1 rfl)) ?_
            refine zab rfl rfl rfl (op_ldw rfl tb34 (ev1 rfl) rfl rfl) ?_
            refine zab rfl rfl rfl (op_ldw rfl tb34 (ev1 rfl) rfl rfl) ?_
            refine zab rfl rfl rfl (zah [] [] [] rfl (ev1 rfl) (ec (ev1 rfl) (ec (ev1 rfl) (ec (ev1 rfl) (ec (ev1 rfl) en)))) rfl rfl (steps_no w h _ (ts.take 17) (dpR_ok _) hc (take_rng hg 17) p u 0 (refE_k2 (by decide) hon) hz) rfl rfl rfl rfl rfl rfl) ?_
            refine zab rfl rfl rfl (zac (.inl rfl) (ev1 rfl)) ?_
            refine zab rfl rfl rfl (op_ext rfl (ev1 rfl) rfl) ?_
            refine zab rfl rfl rfl (op_ext rfl (ev1 rfl) rfl) ?_
            refine zab rfl rfl rfl (zac (.inr rfl) (ev1 rfl)) ?_
            refine zab rfl rfl rfl (zac (.inr rfl) (ev1 rfl)) ?_
            refine zae ?_
            refine zaf ?_
            refine zaf ?_
            refine zad ?_
            refine zab rfl rfl rfl (zac (.inl rfl) (ev1 rfl)) ?_
            refine zab rfl rfl rfl (zac (.inl rfl) (ev1 rfl)) ?_
            refine zab rfl rfl rfl ((op_neq rfl (ev1 rfl) (ev1 rfl)).cast (d' := .val (.bool false)) (by kernel_rfl)) ?_
            refine zab rfl rfl rfl (zac (.inl rfl) (ev1 rfl)) ?_
            refine walk_k (gd_f (b := false) rfl rfl rfl) rfl rfl rfl (zac (.inl rfl) (ev1 rfl)) (by simp only [upd, zaa, za]; exact rfl) ?_
            refine walk_k (gd_f (b := false) rfl rfl rfl) rfl rfl rfl (zac (.inl rfl) (ev1 rfl)) (by simp only [upd, zaa, za]; exact rfl) ?_
            refine walk_k (gd_f (b := false) rfl rfl rfl) rfl rfl rfl ((op_neq rfl (ev2 rfl) (ev2 rfl)).cast (d' := .val (.bool false)) (by kernel_rfl)) (by simp only [upd, zaa, za]; exact rfl) ?_
            refine zab rfl rfl rfl ((op_or rfl (ev1 rfl) (ev3 rfl (fun _ => rfl))).cast (d' := .val (.bool false)) (by rfl)) ?_
            refine zab rfl rfl rfl (zac (.inl rfl) (ev1 rfl)) ?_
            refine walk_k (gd_f (b := false) rfl rfl rfl) rfl rfl rfl (zac (.inl rfl) (ev1 rfl)) (by simp only [upd, zaa, za]; exact rfl) ?_
            refine walk_k (gd_f (b := false) rfl rfl rfl) rfl rfl rfl (zac (.inl rfl) (ev1 rfl)) (by simp only [upd, zaa, za]; exact rfl) ?_
            refine walk_k (gd_f (b := false) rfl rfl rfl) rfl rfl rfl (op_lss rfl (ev2 rfl) (ev2 rfl)) (by simp only [upd, zaa, za]; exact rfl) ?_
            refine walk_k (gd_f (b := false) rfl rfl rfl) rfl rfl rfl (zac (.inl rfl) (ev2 rfl)) (by simp only [upd, zaa, za]; exact rfl) ?_
            refine walk_gr (gd_tt rfl rfl rfl) rfl rfl rfl (zac (.inl rfl) (ev1 rfl)) ?_
            refine walk_gr (gd_tt rfl rfl rfl) rfl rfl rfl ((op_eql rfl (ev2 rfl) (ev1 rfl)).cast (d' := .val (.bool false)) (by kernel_rfl)) ?_
            refine walk_k (gd_f (b := false) rfl rfl rfl) rfl rfl rfl ((op_and rfl (ev2 rfl) (ev3 rfl id)).cast (d' := .val (.bool false)) (by simp)) (by simp only [upd, zaa, za]; exact rfl) ?_
            refine zab rfl rfl rfl ((op_or rfl (ev1 rfl) (ev3 rfl (fun _ => rfl))).cast (d' := .val (.bool false)) (by rfl)) ?_
            refine zae ?_
            refine dwp_if_f rfl (rfl) ?_
            refine zak ?_
            refine zaf ?_
            refine zad ?_
            refine zab rfl rfl rfl (zac (.inl rfl) (ev1 rfl)) ?_
            refine zab rfl rfl rfl (zac (.inr rfl) (ev1 rfl)) ?_
            refine zae ?_
            refine zaf ?_
            refine zaf ?_
            refine zad ?_
            refine zab rfl rfl rfl (op_fa rfl fo34_0 (ev1 rfl)) ?_
            refine zab rfl rfl rfl (zam rfl tb3 (ev1 rfl) rfl rfl) ?_
            refine zab rfl rfl rfl (op_sub' rfl (ev1 rfl) (ev1 rfl) (fun _ => IntWalk.i64_in _ (by omega))) ?_
            refine zab rfl rfl rfl (op_fa rfl fo34_1 (ev1 rfl)) ?_
            refine zab rfl rfl rfl (zam rfl tb3 (ev1 rfl) rfl rfl) ?_
            refine zab rfl rfl rfl (op_build (ps := [(0, .tmp 127), (1, .tmp 129)]) rfl fl34 zr34 (vc (ev1 rfl) (vc (ev1 rfl) vn)) rfl rfl) ?_
            refine zab rfl rfl rfl (op_fa rfl fo34_0 (ev1 rfl)) ?_
            refine zab rfl rfl rfl (zam rfl tb3 (ev1 rfl) rfl rfl) ?_
            refine zab rfl rfl rfl (op_add' rfl (ev1 rfl) (ev1 rfl) (fun _ => IntWalk.i64_in _ (by omega))) ?_
            refine zab rfl rfl rfl (op_fa rfl fo34_1 (ev1 rfl)) ?_
            refine zab rfl rfl rfl (zam rfl tb3 (ev1 rfl) rfl rfl) ?_
            refine zab rfl rfl rfl (op_build (ps := [(0, .tmp 133), (1, .tmp 135)]) rfl fl34 zr34 (vc (ev1 rfl) (vc (ev1 rfl) vn)) rfl rfl) ?_
            refine zab rfl rfl rfl (op_fa rfl fo34_0 (ev1 rfl)) ?_
            refine zab rfl rfl rfl (zam rfl tb3 (ev1 rfl) rfl rfl) ?_
            refine zab rfl rfl rfl (op_fa rfl fo34_1 (ev1 rfl)) ?_
            refine zab rfl rfl rfl (zam rfl tb3 (ev1 rfl) rfl rfl) ?_
            refine zab rfl rfl rfl (op_sub' rfl (ev1 rfl) (ev1 rfl) (fun _ => IntWalk.i64_in _ (by omega))) ?_
            refine zab rfl rfl rfl (op_build (ps := [(0, .tmp 138), (1, .tmp 141)]) rfl fl34 zr34 (vc (ev1 rfl) (vc (ev1 rfl) vn)) rfl rfl) ?_
            refine zab rfl rfl rfl (op_fa rfl fo34_0 (ev1 rfl)) ?_
            refine zab rfl rfl rfl (zam rfl tb3 (ev1 rfl) rfl rfl) ?_
            refine zab rfl rfl rfl (op_fa rfl fo34_1 (ev1 rfl)) ?_
            refine zab rfl rfl rfl (zam rfl tb3 (ev1 rfl) rfl rfl) ?_
            refine zab rfl rfl rfl (op_add' rfl (ev1 rfl) (ev1 rfl) (fun _ => IntWalk.i64_in _ (by omega))) ?_
            refine zab rfl rfl rfl (op_build (ps := [(0, .tmp 144), (1, .tmp 147)]) rfl fl34 zr34 (vc (ev1 rfl) (vc (ev1 rfl) vn)) rfl rfl) ?_
            refine zab rfl rfl rfl ((op_bldaD (ps := [(0, .tmp 130), (1, .tmp 136), (2, .tmp 142), (3, .tmp 148)]) rfl ar76 zr76 (ec (ev1 rfl) (ec (ev1 rfl) (ec (ev1 rfl) (ec (ev1 rfl) en)))) rfl rfl rfl rfl).wk (by exact Wk.aggv ((adjL u).flatMap p2) : Wk _ (.val (.agg ((adjL u).flatMap p2).toArray)))) ?_
            refine zab rfl rfl rfl (zac (.inl rfl) (ev1 rfl)) ?_
            refine zae ?_
            refine zal ?_
            refine dwp_loopS ⟨hs0, rfl⟩ (α := Nat) (fun i => [(20, .val (.int .i64 (lsF w h (rgF w h (ts.take 17) tol p) u i))), (150, .val (.int .i64 (i : Int)))]) [(7, _), (10, _), (11, _), (12, _), (14, _), (149, _)] (fun i => []) [_, _, _, _, _] (fun i => i ≤ (adjL u).length) (fun i => (adjL u).length - i) 0 [0, 1, 2, 3, 4] (Nat.zero_le _) rfl ⟨rfl, rfl, rfl, rfl, rfl, rfl, trivial⟩ ⟨by rw [lsF_zero]; rfl, rfl, trivial⟩ ⟨rfl, rfl, rfl, rfl, rfl, trivial⟩ ?_
            intro i hx
            simp only [upd, zaa, za, List.cons_append, List.nil_append]
            have hi0 := hx
            have hlb := ls_bd (w := w) (h := h) (u := u) hrl i
            refine zaf ?_
            refine zad ?_
            refine zab rfl rfl rfl (op_lss rfl (ev1 rfl) (ev1 rfl)) ?_
            refine zae ?_
            refine zaf ?_
            refine dwp_cond rfl (fun c12 => ?_) (fun c12 => ?_)
            · try simp only [yg, ya, beq_iff_eq, bne_iff_ne, yb, yc, yf, ye, yh, yi, yd, ne_eq, yj, Int.not_lt, Int.not_le] at c12
              refine zak ?_
              refine zaf ?_
              refine zal ?_
              refine zaf ?_
              have hi : i < (adjL u).length := by omega
              refine zai 1 (by simp only [holes, List.cons_append, List.nil_append]; exact rfl) ?_
              refine zad ?_
              refine zab rfl rfl rfl ((op_ixv (j := i) (zP2) rfl av76 (ev1 rfl) (ev1 rfl) (fun _ => rfl) (fun _ => by omega) (adj_len _) (fun _ => rfl)).wk (Wk.of_eq (d' := .val (.agg (p2 (adjL u)[i]).toArray)) (by rw [gD_at hi]))) ?_
              refine zaj rfl rfl rfl (op_alloc 5 rfl zr34 rfl) (by simp only [upd, zaa, za]; exact rfl) ?_
              refine walk_s rfl rfl (op_stwa rfl tb34 (ev1 rfl) (ev1 rfl) rfl rfl rfl rfl) (by simp only [upd, zaa, za]; exact rfl) ?_
              refine zae ?_
              refine zaf ?_
              refine zaf ?_
              refine zad ?_
              refine zab rfl rfl rfl (zac (.inl rfl) (ev1 rfl)) ?_
              refine zab rfl rfl rfl (op_ldw rfl tb34 (ev1 rfl) rfl rfl) ?_
              refine zab rfl rfl rfl (zah [] [] [] rfl (ev1 rfl) (ec (ev1 rfl) (ec (ev1 rfl) en)) rfl rfl (has_d (rgS w h (rgF w h (ts.take 17) tol p)) (adjL u)[i]) rfl rfl rfl rfl rfl rfl) ?_
              refine zab rfl rfl rfl (op_not rfl (ev1 rfl)) ?_
              refine zae ?_
              refine dwp_cond rfl (fun c3 => ?_) (fun c3 => ?_)
              · rw [rgS_has hc.may] at c3
                have hq : (onP w h (adjL u)[i] && (rgF w h (ts.take 17) tol p).has (adjL u)[i]) = false := by revert c3; cases (onP w h (adjL u)[i] && (rgF w h (ts.take 17) tol p).has (adjL u)[i]) <;> simp
                refine dwp_exit ?_
                refine zad ?_
                refine zab rfl rfl rfl (op_add' rfl (ev1 rfl) (ev1 rfl) (fun _ => IntWalk.i64_in _ (by omega))) ?_
                refine zab rfl rfl rfl (zac (.inl rfl) (ev1 rfl)) ?_
                refine zae ?_
                refine ⟨i + 1, [0, 1, 2, 3, 4], by omega, by simp only []; omega, rfl, ⟨by rw [lsF_no hi hq]; rfl, rfl, rfl, rfl, rfl, rfl, rfl, rfl, trivial⟩, ⟨rfl, rfl, rfl, rfl, rfl, trivial⟩⟩
              · rw [rgS_has hc.may] at c3
                have hq : (onP w h (adjL u)[i] && (rgF w h (ts.take 17) tol p).has (adjL u)[i]) = true := by simpa using c3
                obtain ⟨hq1, hq2⟩ := Bool.and_eq_true_iff.1 hq
                have hqo : (onP w h p && onP w h (adjL u)[i]) = true := by rw [hp, hq1]; rfl
                have hn1 := st_nb hc.may htl hp hu hq1 hh hq2 (List.getElem_mem hi)
                have hn2 := st_nb hc.may htl hp hq1 hu hq2 hh (adj_sym (List.getElem_mem hi))
                have hrq := hrl (adjL u)[i]
                refine zak ?_
                refine zaf ?_
                refine zad ?_
                refine zab rfl rfl rfl (zac (.inl rfl) (ev1 rfl)) ?_
                refine zab rfl rfl rfl (op_ldw rfl tb34 (ev1 rfl) rfl rfl) ?_
                refine zab rfl rfl rfl (op_ldw rfl tb34 (ev1 rfl) rfl rfl) ?_
                refine zab rfl rfl rfl (zac (.inl rfl) (ev1 rfl)) ?_
                refine zab rfl rfl rfl (zah [] [] [] rfl (ev1 rfl) (ec (ev1 rfl) (ec (ev1 rfl) (ec (ev1 rfl) (ec (ev1 rfl) en)))) rfl rfl (steps_d w h _ (ts.take 17) (dpR_ok _) hc (take_rng hg 17) p (adjL u)[i] tol (refE_k2 hbad hqo) hq2) rfl rfl rfl rfl rfl rfl) ?_
                refine zab rfl rfl rfl (zac (.inl rfl) (ev1 rfl)) ?_
                refine zab rfl rfl rfl (op_ext rfl (ev1 rfl) rfl) ?_
                refine zab rfl rfl rfl (op_ext rfl (ev1 rfl) rfl) ?_
                refine zab rfl rfl rfl (zac (.inr rfl) (ev1 rfl)) ?_
                refine zab rfl rfl rfl (zac (.inr rfl) (ev1 rfl)) ?_
                refine zae ?_
                refine zaf ?_
                refine zaf ?_
                refine zad ?_
                refine zab rfl rfl rfl (zac (.inl rfl) (ev1 rfl)) ?_
                refine zab rfl rfl rfl ((op_neq rfl (ev1 rfl) (ev1 rfl)).cast (d' := .val (.bool false)) (by kernel_rfl)) ?_
                refine zab rfl rfl rfl (zac (.inl rfl) (ev1 rfl)) ?_
                refine walk_k (gd_f (b := false) rfl rfl rfl) rfl rfl rfl (zac (.inl rfl) (ev1 rfl)) (by simp only [upd, zaa, za]; exact rfl) ?_
                refine walk_k (gd_f (b := false) rfl rfl rfl) rfl rfl rfl (zac (.inl rfl) (ev1 rfl)) (by simp only [upd, zaa, za]; exact rfl) ?_
                refine walk_k (gd_f (b := false) rfl rfl rfl) rfl rfl rfl (op_sub' rfl (ev2 rfl) (ev2 rfl) (fun _ => IntWalk.i64_in _ (by omega))) (by simp only [upd, zaa, za]; exact rfl) ?_
                refine walk_k (gd_f (b := false) rfl rfl rfl) rfl rfl rfl (zac (.inl rfl) (ev1 rfl)) (by simp only [upd, zaa, za]; exact rfl) ?_
                refine walk_k (gd_f (b := false) rfl rfl rfl) rfl rfl rfl (zac (.inl rfl) (ev1 rfl)) (by simp only [upd, zaa, za]; exact rfl) ?_
                refine walk_k (gd_f (b := false) rfl rfl rfl) rfl rfl rfl (op_sub' rfl (ev2 rfl) (ev2 rfl) (fun _ => IntWalk.i64_in _ (by omega))) (by simp only [upd, zaa, za]; exact rfl) ?_
                refine walk_k (gd_f (b := false) rfl rfl rfl) rfl rfl rfl (op_max rfl (ev2 rfl) (ev2 rfl)) (by simp only [upd, zaa, za]; exact rfl) ?_
                refine walk_k (gd_f (b := false) rfl rfl rfl) rfl rfl rfl ((op_gtr rfl (ev2 rfl) (ev1 rfl)).cast (d' := .val (.bool false)) (by rw [D.val.injEq, Value.bool.injEq, decide_eq_false_iff_not]; omega)) (by simp only [upd, zaa, za]; exact rfl) ?_
                refine zab rfl rfl rfl ((op_or rfl (ev1 rfl) (ev3 rfl (fun _ => rfl))).cast (d' := .val (.bool false)) (by rfl)) ?_
                refine zae ?_
                refine dwp_if_f rfl (rfl) ?_
                refine zak ?_
                refine zad ?_
                refine zab rfl rfl rfl (zac (.inl rfl) (ev1 rfl)) ?_
                refine zab rfl rfl rfl (zac (.inl rfl) (ev1 rfl)) ?_
                refine zab rfl rfl rfl (op_min rfl (ev1 rfl) (ev1 rfl)) ?_
                refine zab rfl rfl rfl (zac (.inr rfl) (ev1 rfl)) ?_
                refine zae ?_
                refine zad ?_
                refine zab rfl rfl rfl (op_add' rfl (ev1 rfl) (ev1 rfl) (fun _ => IntWalk.i64_in _ (by omega))) ?_
                refine zab rfl rfl rfl (zac (.inl rfl) (ev1 rfl)) ?_
                refine zae ?_
                refine ⟨i + 1, [0, 1, 2, 3, 4], by omega, by simp only []; omega, rfl, ⟨by rw [lsF_yes hi hq]; rfl, rfl, rfl, rfl, rfl, rfl, rfl, rfl, trivial⟩, ⟨rfl, rfl, rfl, rfl, rfl, trivial⟩⟩
            · try simp only [yg, ya, beq_iff_eq, bne_iff_ne, yb, yc, yf, ye, yh, yi, yd, ne_eq, yj, Int.not_lt, Int.not_le] at c12
              refine dwp_exit ?_
              refine zaf ?_
              obtain rfl : i = 4 := by omega
              have hfin := ls_fin hc.may htl hp hu hh
              refine zad ?_
              refine zab rfl rfl rfl (zac (.inl rfl) (ev1 rfl)) ?_
              refine zab rfl rfl rfl (op_eql rfl (ev1 rfl) (ev1 rfl)) ?_
              refine zab rfl rfl rfl (zac (.inl rfl) (ev1 rfl)) ?_
              refine walk_gr (gd_f rfl rfl rfl) rfl rfl rfl (zac (.inl rfl) (ev1 rfl)) ?_
              refine walk_gr (gd_f rfl rfl rfl) rfl rfl rfl (zac (.inl rfl) (ev1 rfl)) ?_
              refine walk_gr (gd_f rfl rfl rfl) rfl rfl rfl (op_sub' rfl (ev2 rfl) (ev1 rfl) (fun hp => IntWalk.i64_in _ (by first | omega | (simp at hp; omega)))) ?_
              refine walk_gr (gd_f rfl rfl rfl) rfl rfl rfl (op_eql rfl (ev2 rfl) (ev2 rfl)) ?_
              refine zab rfl rfl rfl ((op_or rfl (ev1 rfl) (ev3 rfl id)).cast (d' := .val (.bool true)) (by rw [hfin])) ?_
              refine zab rfl rfl rfl (zac (.inr rfl) (ev1 rfl)) ?_
              refine zae ?_
              refine zao ?_
              refine kend0 (rs1 rfl (rv_t rfl)) rfl ?_
              rfl
        · have hbad : badT tol = false := by simpa using hbad
          obtain ⟨hp, hu⟩ := Bool.and_eq_true_iff.1 hon
          have hh : (rgF w h (ts.take 17) tol p).has u = false := by simpa using hh
          refine zad ?_
          refine zab rfl rfl rfl (zac (.inl rfl) (ev1 rfl)) ?_
          refine zab rfl rfl rfl (op_ldw rfl tb34 (ev1 rfl) rfl rfl) ?_
          refine zab rfl rfl rfl (op_ldw rfl tb34 (ev1 rfl) rfl rfl) ?_
          refine zab rfl rfl rfl (zac (.inl rfl) (ev1 rfl)) ?_
          refine zab rfl rfl rfl (zah [] [] [] rfl (ev1 rfl) (ec (ev1 rfl) (ec (ev1 rfl) (ec (ev1 rfl) (ec (ev1 rfl) en)))) rfl rfl (steps_no w h _ (ts.take 17) (dpR_ok _) hc (take_rng hg 17) p u tol (refE_k2 hbad hon) hh) rfl rfl rfl rfl rfl rfl) ?_
          refine zab rfl rfl rfl (zac (.inl rfl) (ev1 rfl)) ?_
          refine zab rfl rfl rfl (op_ext rfl (ev1 rfl) rfl) ?_
          refine zab rfl rfl rfl (op_ext rfl (ev1 rfl) rfl) ?_
          refine zab rfl rfl rfl (zac (.inr rfl) (ev1 rfl)) ?_
          refine zab rfl rfl rfl (zac (.inr rfl) (ev1 rfl)) ?_
          refine zae ?_
          refine zaf ?_
          refine zad ?_
          refine zab rfl rfl rfl (zac (.inl rfl) (ev1 rfl)) ?_
          refine zab rfl rfl rfl (op_ldw rfl tb34 (ev1 rfl) rfl rfl) ?_
          refine zab rfl rfl rfl (zac (.inl rfl) (ev1 rfl)) ?_
          refine zab rfl rfl rfl (zah [] [] [] rfl (ev1 rfl) (ec (ev1 rfl) (ec (ev1 rfl) (ec (ev1 rfl) en))) rfl rfl (region_d w h _ (ts.take 17) (dpR_ok _) hc (take_rng hg 17) p tol (refE_k1 hbad hp)) rfl rfl rfl rfl rfl rfl) ?_
          refine zab rfl rfl rfl (zac (.inl rfl) (ev1 rfl)) ?_
          refine zab rfl rfl rfl (op_ext rfl (ev1 rfl) rfl) ?_
          refine zab rfl rfl rfl (op_ext rfl (ev1 rfl) rfl) ?_
          refine zab rfl rfl rfl (zac (.inr rfl) (ev1 rfl)) ?_
          refine zab rfl rfl rfl (zac (.inr rfl) (ev1 rfl)) ?_
          refine zae ?_
          refine zaf ?_
          refine zaf ?_
          refine zad ?_
          refine zab rfl rfl rfl (zac (.inl rfl) (ev1 rfl)) ?_
          refine zab rfl rfl rfl ((op_neq rfl (ev1 rfl) (ev1 rfl)).cast (d' := .val (.bool true)) (by kernel_rfl)) ?_
          refine zae ?_
          refine dwp_if_t rfl (rfl) ?_
          refine zaf ?_
          refine zad ?_
          refine zab rfl rfl rfl (zac (.inl rfl) (ev1 rfl)) ?_
          refine zab rfl rfl rfl ((op_eql rfl (ev1 rfl) (ev1 rfl)).cast (d' := .val (.bool true)) (by kernel_rfl)) ?_
          refine zab rfl rfl rfl (zac (.inl rfl) (ev1 rfl)) ?_
          refine walk_k (gd_t (b := true) rfl rfl rfl) rfl rfl rfl (zac (.inl rfl) (ev1 rfl)) (by simp only [upd, zaa, za]; exact rfl) ?_
          refine walk_k (gd_t (b := true) rfl rfl rfl) rfl rfl rfl ((op_neq rfl (ev2 rfl) (ev1 rfl)).cast (d' := .val (.bool false)) (by kernel_rfl)) (by simp only [upd, zaa, za]; exact rfl) ?_
          refine walk_k (gd_t (b := true) rfl rfl rfl) rfl rfl rfl (zac (.inl rfl) (ev2 rfl)) (by simp only [upd, zaa, za]; exact rfl) ?_
          refine walk_k (gd_ff (g := true) (b := false) rfl rfl rfl) rfl rfl rfl (zac (.inl rfl) (ev1 rfl)) (by simp only [upd, zaa, za]; exact rfl) ?_
          refine walk_k (gd_ff (g := true) (b := false) rfl rfl rfl) rfl rfl rfl (op_ldw rfl tb34 (ev1 rfl) rfl rfl) (by simp only [upd, zaa, za]; exact rfl) ?_
          refine walk_k (gd_ff (g := true) (b := false) rfl rfl rfl) rfl rfl rfl ((zah [] [] [] rfl (ev1 rfl) (ec (ev2 rfl) (ec (ev2 rfl) en)) rfl rfl (has_d (rgS w h (rgF w h (ts.take 17) tol p)) u) rfl rfl rfl rfl rfl rfl).cast (d' := .val (.bool false)) (by rw [rgS_has hc.may, hh, Bool.and_false])) (by simp only [upd, zaa, za]; exact rfl) ?_
          refine walk_k (gd_ff (g := true) (b := false) rfl rfl rfl) rfl rfl rfl ((op_not rfl (ev2 rfl)).cast (d' := .val (.bool true)) (by kernel_rfl)) (by simp only [upd, zaa, za]; exact rfl) ?_
          refine walk_k (gd_t (b := true) rfl rfl rfl) rfl rfl rfl ((op_or rfl (ev2 rfl) (ev3 rfl (fun _ => rfl))).cast (d' := .val (.bool true)) (by rfl)) (by simp only [upd, zaa, za]; exact rfl) ?_
          refine zab rfl rfl rfl ((op_and rfl (ev1 rfl) (ev3 rfl (fun _ => rfl))).cast (d' := .val (.bool true)) (by rfl)) ?_
          refine zab rfl rfl rfl (zac (.inr rfl) (ev1 rfl)) ?_
          refine zae ?_
          refine zao ?_
          refine kend0 (rs1 rfl (rv_t rfl)) rfl ?_
          rfl
      · have hbad : badT tol = false := by simpa using hbad
        have hon : (onP w h p && onP w h u) = false := by simpa using hon
        refine zad ?_
        refine zab rfl rfl rfl (zac (.inl rfl) (ev1 rfl)) ?_
        refine zab rfl rfl rfl (op_ldw rfl tb34 (ev1 rfl) rfl rfl) ?_
        refine zab rfl rfl rfl (op_ldw rfl tb34 (ev1 rfl) rfl rfl) ?_
        refine zab rfl rfl rfl (zac (.inl rfl) (ev1 rfl)) ?_
        refine zab rfl rfl rfl (zah [] [] [] rfl (ev1 rfl) (ec (ev1 rfl) (ec (ev1 rfl) (ec (ev1 rfl) (ec (ev1 rfl) en)))) rfl rfl (steps_off w h _ (ts.take 17) (dpR_ok _) hc (take_rng hg 17) p u tol hbad hon) rfl rfl rfl rfl rfl rfl) ?_
        refine zab rfl rfl rfl (zac (.inl rfl) (ev1 rfl)) ?_
        refine zab rfl rfl rfl (op_ext rfl (ev1 rfl) rfl) ?_
        refine zab rfl rfl rfl (op_ext rfl (ev1 rfl) rfl) ?_
        refine zab rfl rfl rfl (zac (.inr rfl) (ev1 rfl)) ?_
        refine zab rfl rfl rfl (zac (.inr rfl) (ev1 rfl)) ?_
        refine zae ?_
        refine zaf ?_
        by_cases hp : onP w h p = true
        · have hu : onP w h u = false := by rw [hp] at hon; exact hon
          refine zad ?_
          refine zab rfl rfl rfl (zac (.inl rfl) (ev1 rfl)) ?_
          refine zab rfl rfl rfl (op_ldw rfl tb34 (ev1 rfl) rfl rfl) ?_
          refine zab rfl rfl rfl (zac (.inl rfl) (ev1 rfl)) ?_
          refine zab rfl rfl rfl (zah [] [] [] rfl (ev1 rfl) (ec (ev1 rfl) (ec (ev1 rfl) (ec (ev1 rfl) en))) rfl rfl (region_d w h _ (ts.take 17) (dpR_ok _) hc (take_rng hg 17) p tol (refE_k1 hbad hp)) rfl rfl rfl rfl rfl rfl) ?_
          refine zab rfl rfl rfl (zac (.inl rfl) (ev1 rfl)) ?_
          refine zab rfl rfl rfl (op_ext rfl (ev1 rfl) rfl) ?_
          refine zab rfl rfl rfl (op_ext rfl (ev1 rfl) rfl) ?_
          refine zab rfl rfl rfl (zac (.inr rfl) (ev1 rfl)) ?_
          refine zab rfl rfl rfl (zac (.inr rfl) (ev1 rfl)) ?_
          refine zae ?_
          refine zaf ?_
          refine zaf ?_
          refine zad ?_
          refine zab rfl rfl rfl (zac (.inl rfl) (ev1 rfl)) ?_
          refine zab rfl rfl rfl ((op_neq rfl (ev1 rfl) (ev1 rfl)).cast (d' := .val (.bool true)) (by kernel_rfl)) ?_
          refine zae ?_
          refine dwp_if_t rfl (rfl) ?_
          refine zaf ?_
          refine zad ?_
          refine zab rfl rfl rfl (zac (.inl rfl) (ev1 rfl)) ?_
          refine zab rfl rfl rfl ((op_eql rfl (ev1 rfl) (ev1 rfl)).cast (d' := .val (.bool true)) (by kernel_rfl)) ?_
          refine zab rfl rfl rfl (zac (.inl rfl) (ev1 rfl)) ?_
          refine walk_k (gd_t (b := true) rfl rfl rfl) rfl rfl rfl (zac (.inl rfl) (ev1 rfl)) (by simp only [upd, zaa, za]; exact rfl) ?_
          refine walk_k (gd_t (b := true) rfl rfl rfl) rfl rfl rfl ((op_neq rfl (ev2 rfl) (ev1 rfl)).cast (d' := .val (.bool false)) (by kernel_rfl)) (by simp only [upd, zaa, za]; exact rfl) ?_
          refine walk_k (gd_t (b := true) rfl rfl rfl) rfl rfl rfl (zac (.inl rfl) (ev2 rfl)) (by simp only [upd, zaa, za]; exact rfl) ?_
          refine walk_k (gd_ff (g := true) (b := false) rfl rfl rfl) rfl rfl rfl (zac (.inl rfl) (ev1 rfl)) (by simp only [upd, zaa, za]; exact rfl) ?_
          refine walk_k (gd_ff (g := true) (b := false) rfl rfl rfl) rfl rfl rfl (op_ldw rfl tb34 (ev1 rfl) rfl rfl) (by simp only [upd, zaa, za]; exact rfl) ?_
          refine walk_k (gd_ff (g := true) (b := false) rfl rfl rfl) rfl rfl rfl ((zah [] [] [] rfl (ev1 rfl) (ec (ev2 rfl) (ec (ev2 rfl) en)) rfl rfl (has_d (rgS w h (rgF w h (ts.take 17) tol p)) u) rfl rfl rfl rfl rfl rfl).cast (d' := .val (.bool false)) (by rw [rgS_has hc.may, hu]; rfl)) (by simp only [upd, zaa, za]; exact rfl) ?_
          refine walk_k (gd_ff (g := true) (b := false) rfl rfl rfl) rfl rfl rfl ((op_not rfl (ev2 rfl)).cast (d' := .val (.bool true)) (by kernel_rfl)) (by simp only [upd, zaa, za]; exact rfl) ?_
          refine walk_k (gd_t (b := true) rfl rfl rfl) rfl rfl rfl ((op_or rfl (ev2 rfl) (ev3 rfl (fun _ => rfl))).cast (d' := .val (.bool true)) (by rfl)) (by simp only [upd, zaa, za]; exact rfl) ?_
          refine zab rfl rfl rfl ((op_and rfl (ev1 rfl) (ev3 rfl (fun _ => rfl))).cast (d' := .val (.bool true)) (by rfl)) ?_
          refine zab rfl rfl rfl (zac (.inr rfl) (ev1 rfl)) ?_
          refine zae ?_
          refine zao ?_
          refine kend0 (rs1 rfl (rv_t rfl)) rfl ?_
          rfl
        · refine zad ?_
          refine zab rfl rfl rfl (zac (.inl rfl) (ev1 rfl)) ?_
          refine zab rfl rfl rfl (op_ldw rfl tb34 (ev1 rfl) rfl rfl) ?_
          refine zab rfl rfl rfl (zac (.inl rfl) (ev1 rfl)) ?_
          refine zab rfl rfl rfl (zah [] [] [] rfl (ev1 rfl) (ec (ev1 rfl) (ec (ev1 rfl) (ec (ev1 rfl) en))) rfl rfl (region_off w h _ (ts.take 17) (dpR_ok _) hc (take_rng hg 17) p tol hbad (by simpa using hp)) rfl rfl rfl rfl rfl rfl) ?_
          refine zab rfl rfl rfl (zac (.inl rfl) (ev1 rfl)) ?_
          refine zab rfl rfl rfl (op_ext rfl (ev1 rfl) rfl) ?_
          refine zab rfl rfl rfl (op_ext rfl (ev1 rfl) rfl) ?_
          refine zab rfl rfl rfl (zac (.inr rfl) (ev1 rfl)) ?_
          refine zab rfl rfl rfl (zac (.inr rfl) (ev1 rfl)) ?_
          refine zae ?_
          refine zaf ?_
          refine zaf ?_
          refine zad ?_
          refine zab rfl rfl rfl (zac (.inl rfl) (ev1 rfl)) ?_
          refine zab rfl rfl rfl ((op_neq rfl (ev1 rfl) (ev1 rfl)).cast (d' := .val (.bool true)) (by kernel_rfl)) ?_
          refine zae ?_
          refine dwp_if_t rfl (rfl) ?_
          refine zaf ?_
          refine zad ?_
          refine zab rfl rfl rfl (zac (.inl rfl) (ev1 rfl)) ?_
          refine zab rfl rfl rfl ((op_eql rfl (ev1 rfl) (ev1 rfl)).cast (d' := .val (.bool true)) (by kernel_rfl)) ?_
          refine zab rfl rfl rfl (zac (.inl rfl) (ev1 rfl)) ?_
          refine walk_k (gd_t (b := true) rfl rfl rfl) rfl rfl rfl (zac (.inl rfl) (ev1 rfl)) (by simp only [upd, zaa, za]; exact rfl) ?_
          refine walk_k (gd_t (b := true) rfl rfl rfl) rfl rfl rfl ((op_neq rfl (ev2 rfl) (ev1 rfl)).cast (d' := .val (.bool true)) (by kernel_rfl)) (by simp only [upd, zaa, za]; exact rfl) ?_
          refine walk_k (gd_t (b := true) rfl rfl rfl) rfl rfl rfl (zac (.inl rfl) (ev2 rfl)) (by simp only [upd, zaa, za]; exact rfl) ?_
          refine walk_gr (gd_ff (g := true) (b := true) rfl rfl rfl) rfl rfl rfl (dop_never (d := .junk)) ?_
          refine walk_gr (gd_ff (g := true) (b := true) rfl rfl rfl) rfl rfl rfl (dop_never (d := .junk)) ?_
          refine walk_gr (gd_ff (g := true) (b := true) rfl rfl rfl) rfl rfl rfl (dop_never (d := .val (.bool false))) ?_
          refine walk_gr (gd_ff (g := true) (b := true) rfl rfl rfl) rfl rfl rfl (dop_never (d := .val (.bool false))) ?_
          refine walk_k (gd_t (b := true) rfl rfl rfl) rfl rfl rfl ((op_or rfl (ev2 rfl) (ev3 rfl id)).cast (d' := .val (.bool true)) (by rfl)) (by simp only [upd, zaa, za]; exact rfl) ?_
          refine zab rfl rfl rfl ((op_and rfl (ev1 rfl) (ev3 rfl (fun _ => rfl))).cast (d' := .val (.bool true)) (by rfl)) ?_
          refine zab rfl rfl rfl (zac (.inr rfl) (ev1 rfl)) ?_
          refine zae ?_
          refine zao ?_
          refine kend0 (rs1 rfl (rv_t rfl)) rfl ?_
          rfl
  · refine zai 1 (by simp only [holes, List.cons_append, List.nil_append]; exact rfl) ?_
    refine zad ?_
    refine zab rfl rfl rfl (op_ldmw rfl tb24 (ev1 rfl) rfl rfl) ?_
    refine zab rfl rfl rfl (zah [] [] [] rfl (ev1 rfl) (ec (ev1 rfl) en) rfl rfl (lof_n w h ts (by simpa using hr)) rfl rfl rfl rfl rfl rfl) ?_
    refine zab rfl rfl rfl (zac (.inl rfl) (ev1 rfl)) ?_
    refine zab rfl rfl rfl (op_ext rfl (ev1 rfl) rfl) ?_
    refine zab rfl rfl rfl (op_ext rfl (ev1 rfl) rfl) ?_
    refine zab rfl rfl rfl (op_ext rfl (ev1 rfl) rfl) ?_
    refine zaj rfl rfl rfl (op_alloc 3 rfl zr24 rfl) (by simp only [upd, zaa, za]; exact rfl) ?_
    refine zab rfl rfl rfl (zac (.inr rfl) (ev1 rfl)) ?_
    refine walk_s rfl rfl (op_stam rfl tb24 (ev1 rfl) (ev1 rfl) rfl rfl rfl rfl) (by simp only [upd, zaa, za]; exact rfl) ?_
    refine zab rfl rfl rfl (zac (.inr rfl) (ev1 rfl)) ?_
    refine zae ?_
    refine zaf ?_
    refine zai 1 (by simp only [holes, List.cons_append, List.nil_append]; exact rfl) ?_
    refine dwp_draw [([], []), ([1], []), ([], []), ([1], []), ([], []), ([], []), ([1], []), ([4], [4]), ([4], [4]), ([], [])] mixed (by kernel_rfl) ?_
    refine zag rfl rfl (op_ixl rfl ar32 (ev1 rfl) (ev1 rfl) (fun _ => by omega)) ?_
    refine zag rfl rfl (zam rfl tb3 (ev1 rfl) rfl rfl) ?_
    refine zag rfl rfl (op_ixl rfl ar32 (ev1 rfl) (ev1 rfl) (fun _ => by omega)) ?_
    refine zag rfl rfl (zam rfl tb3 (ev1 rfl) rfl rfl) ?_
    refine zag rfl rfl (op_build (ps := [(0, .tmp 34), (1, .tmp 36)]) rfl fl34 zr34 (vc (ev1 rfl) (vc (ev1 rfl) vn)) rfl rfl) ?_
    refine zag rfl rfl (op_ixl rfl ar32 (ev1 rfl) (ev1 rfl) (fun _ => by omega)) ?_
    refine zag rfl rfl (zam rfl tb3 (ev1 rfl) rfl rfl) ?_
    refine lex_w rfl rfl (op_alloc 4 rfl zr34 rfl) rfl (by simp only [upd, zaa, za]; exact rfl) ?_
    refine lex_s rfl rfl (op_stwa rfl tb34 (ev1 rfl) (ev1 rfl) rfl rfl rfl rfl) rfl (by simp only [upd, zaa, za]; exact rfl) ?_
    refine zag rfl rfl (zac (.inr rfl) (ev1 rfl)) ?_
    refine lex_nil ?_
    refine zaf ?_
    refine zaf ?_
    refine zad ?_
    refine zab rfl rfl rfl (zac (.inl rfl) (ev1 rfl)) ?_
    refine zab rfl rfl rfl ((op_not rfl (ev1 rfl)).cast (d' := .val (.bool true)) (by kernel_rfl)) ?_
    refine zae ?_
    refine dwp_if_t rfl (rfl) ?_
    refine zaf ?_
    refine zad ?_
    refine zab rfl rfl rfl (zac (.inr rfl) (ev1 rfl)) ?_
    refine zae ?_
    refine zao ?_
    refine kend0 (rs1 rfl (rv_t rfl)) rfl ?_
    rfl
end Go.Proofs.Ytfnhckildfbikaa
