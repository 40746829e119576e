/- disks compared; heads and sizes that are seen; what the document asks of them; which disks the document lets be; disks that can be gone through; disks that can be gone through; what of files is seen; what the document asks of a disk behind operations; disks in memory of their own; settling over a family; burning down, waiting, syncing over a family; appending over a family; rising and arming, in memory of its own; disks in memory of their own, behind operations: what holds of them. No condition. -/
import Derived.Test.YtjecmkaggobcjaaQ3
namespace Go.Proofs.Ytjecmkaggobcjaa
set_option linter.unusedVariables false
set_option linter.unusedSimpArgs false
open Go.RowKit
theorem fcell_d {f : Nat → List Nat} {h : Int} {w : List DOpn} {dn : Bool} {fu : Int} {i : Nat} (hi : i < 4) : (List.drop (i * 1) (List.drop 0 (dD f h w dn fu)))[0]? = some (rB (f i)) := by
  have : i = 0 ∨ i = 1 ∨ i = 2 ∨ i = 3 := by omega
  rcases this with rfl | rfl | rfl | rfl <;> rfl
def opB (p q : DOpn) : Bool := ((p.kd == q.kd) && (p.fl == q.fl)) && decide (p.b = q.b)
theorem opB_eq {p q : DOpn} : opB p q = true ↔ p = q := by
  obtain ⟨a, b, c⟩ := p
  obtain ⟨a', b', c'⟩ := q
  simp [opB]
  constructor
  · rintro ⟨⟨h1, h2⟩, h3⟩; exact ⟨h1, h2, h3⟩
  · rintro ⟨h1, h2, h3⟩; exact ⟨⟨h1, h2⟩, h3⟩
instance : DecidableEq DOpn := fun p q => if h : opB p q = true then .isTrue (opB_eq.1 h) else .isFalse fun e => h (opB_eq.2 e)
def fEq (f g : Nat → List Nat) : Bool := ((decide (f 0 = g 0) && decide (f 1 = g 1)) && decide (f 2 = g 2)) && decide (f 3 = g 3)
theorem fEq_no {f g : Nat → List Nat} {i : Nat} (hi : i < 4) (h : f i ≠ g i) : fEq f g = false := by
  have : i = 0 ∨ i = 1 ∨ i = 2 ∨ i = 3 := by omega
  unfold fEq
  rcases this with rfl | rfl | rfl | rfl <;> simp [h]
theorem fEq_yes {f g : Nat → List Nat} (h : ∀ i, i < 4 → f i = g i) : fEq f g = true := by unfold fEq; simp [h]
def sameB (f : Nat → List Nat) (h : Int) (w : List DOpn) (dn : Bool) (fu : Int) (f2 : Nat → List Nat) (h2 : Int) (w2 : List DOpn) (dn2 : Bool) (fu2 : Int) : Bool := fEq f f2 && ((((h == h2) && (dn == dn2)) && (fu == fu2)) && decide (w = w2))
theorem sameB_rest {f : Nat → List Nat} {h : Int} {w : List DOpn} {dn : Bool} {fu : Int} {f2 : Nat → List Nat} {h2 : Int} {w2 : List DOpn} {dn2 : Bool} {fu2 : Int} (hc : (((h != h2 || dn != dn2) || fu != fu2) || ((w.length : Int) != (w2.length : Int))) = true) : sameB f h w dn fu f2 h2 w2 dn2 fu2 = false := by
  unfold sameB
  by_cases e : w = w2
  · subst e
    simp at hc
    rcases hc with (hc | hc) | hc
    · simp [hc]
    · cases dn <;> cases dn2 <;> simp_all
    · simp [hc]
  · simp [e]
def headW (h : Int) (w : List DOpn) : Int := w.foldl (fun h o => if o.kd = 3 then o.fl else h) h
theorem headW_succ {h : Int} {w : List DOpn} {k : Nat} (hk : k < w.length) : headW h (w.take (k + 1)) = if w[k].kd = 3 then w[k].fl else headW h (w.take k) := by
  unfold headW
  rw [List.take_succ_eq_append_getElem hk, List.foldl_append]
  rfl
set_option maxRecDepth 4000 in
set_option maxHeartbeats 1000000 in
theorem head_d (f : Nat → List Nat) (h : Int) (w : List DOpn) (dn : Bool) (fu : Int) (hb : fewB (szs f) w) : DFun Try.prog 16 [.agg (dD f h w dn fu)] [] (.val (.int .i64 (if chkB f h w dn fu = true then headW h w else 0))) [] := by
  refine dcalls_go (N := 25) 0 (by kernel_rfl) Try.func16 rfl rfl rfl (by simp only [fr0, Nat.zero_add, Nat.reduceAdd]; exact rfl) rfl fun s0 hs0 => ?_
  refine dwp_seq ?_
  refine dwp_region ?_
  refine walk_r rfl rfl rfl (op_boxf rfl rfl (ev1 rfl)) ?_
  refine walk_r rfl rfl rfl (op_move (.inr rfl) (ev1 rfl)) ?_
  refine walk_nil ?_
  refine dwp_seq ?_
  refine dwp_seq ?_
  refine dwp_region ?_
  refine walk_r rfl rfl rfl (op_lddr rfl tb26 (ev1 rfl) rfl rfl) ?_
  refine walk_r rfl rfl rfl (dop_call [] [] [] rfl (ev1 rfl) (ec (ev1 rfl) en) rfl rfl (check_d f h w dn fu hb) rfl rfl rfl rfl rfl rfl) ?_
  refine walk_r rfl rfl rfl (op_neq rfl (ev1 rfl) (ev1 rfl)) ?_
  refine walk_nil ?_
  refine dwp_cond rfl (fun cA => ?_) (fun cA => ?_)
  · have cA1 : ¬ chkB f h w dn fu = true := fun e => by rw [if_pos e] at cA; cases cA
    refine dwp_seq ?_
    refine dwp_region ?_
    refine walk_r rfl rfl rfl (op_move (.inr rfl) (ev1 rfl)) ?_
    refine walk_nil ?_
    refine dwp_ret ?_
    refine kend0 (rs1 rfl (rv_t rfl)) rfl ?_
    rw [if_neg cA1]
  · have cA1 : chkB f h w dn fu = true := by
      by_cases e : chkB f h w dn fu = true
      · exact e
      · rw [if_neg e] at cA; cases cA
    refine dwp_skip ?_
    refine dwp_seq ?_
    refine dwp_region ?_
    refine walk_r rfl rfl rfl (op_fadm rfl fo26_1 (ev1 rfl)) ?_
    refine walk_r rfl rfl rfl (op_lddm rfl tb3 (ev1 rfl) rfl) ?_
    refine walk_r rfl rfl rfl (op_move (.inr rfl) (ev1 rfl)) ?_
    refine walk_nil ?_
    refine dwp_seq ?_
    refine dwp_seq ?_
    refine dwp_region ?_
    refine walk_r rfl rfl rfl (op_fadm rfl fo26_2 (ev1 rfl)) ?_
    refine walk_r rfl rfl rfl (op_lddm rfl tb24 (ev1 rfl) rfl) ?_
    refine walk_r rfl rfl rfl (op_lenm rfl sl24 (ev1 rfl)) ?_
    refine walk_r rfl rfl rfl (op_move (.inl rfl) (ev1 rfl)) ?_
    refine walk_nil ?_
    refine dwp_block ?_
    refine dwp_loopS ⟨hs0, rfl⟩ (α := Nat) (fun k => [(3, .val (.int .i64 (headW h (w.take k)))), (14, .val (.int .i64 (k : Int)))]) [(12, _), (13, _)] (fun k => []) [] (fun k => k ≤ w.length) (fun k => w.length - k) 0 [] (by simp) rfl ⟨rfl, rfl, trivial⟩ ⟨rfl, rfl, trivial⟩ trivial ?_
    intro k hx
    simp only [upd, List.set_cons_zero, List.set_cons_succ, List.cons_append, List.nil_append]
    have hk := hx
    have hwl := hb.2.1
    refine dwp_seq ?_
    refine dwp_region ?_
    refine walk_r rfl rfl rfl (op_lss rfl (ev1 rfl) (ev1 rfl)) ?_
    refine walk_nil ?_
    refine dwp_seq ?_
    refine dwp_cond rfl (fun c2 => ?_) (fun c2 => ?_)
    · try simp only [decide_eq_true_eq, decide_eq_false_iff_not, beq_iff_eq, bne_iff_ne, beq_eq_false_iff_ne, bne_eq_false_iff_eq, Bool.not_eq_true', Bool.not_eq_false', Bool.and_eq_true, Bool.or_eq_true, Bool.or_eq_false_iff, ne_eq, Decidable.not_not, Int.not_lt, Int.not_le] at c2
      refine dwp_skip ?_
      refine dwp_seq ?_
      refine dwp_block ?_
      refine dwp_seq ?_
      have hkl : k < w.length := by omega
      refine dwp_holes 1 (by simp only [holes, List.cons_append, List.nil_append]; exact rfl) ?_
      refine dwp_region ?_
      refine walk_r rfl rfl rfl (op_ixmr (k) (by decide) rfl sl24 (ev1 rfl) (ev1 rfl) (fun _ => rfl) (by omega) (fun _ => rfl)) ?_
      refine walk_r rfl rfl rfl (op_lddr rfl tb44 (ev1 rfl) rfl rfl) ?_
      refine walk_w rfl rfl rfl (op_alloc 0 rfl zr44 rfl) (by simp only [upd, List.set_cons_zero, List.set_cons_succ]; exact rfl) ?_
      refine walk_s rfl rfl (op_stam rfl tb44 (ev1 rfl) (ev1 rfl) rfl rfl rfl rfl) (by simp only [upd, List.set_cons_zero, List.set_cons_succ]; exact rfl) ?_
      refine walk_nil ?_
      refine dwp_seq ?_
      refine dwp_region ?_
      refine walk_r rfl rfl rfl (op_fa rfl fo44_0 (ev1 rfl)) ?_
      refine walk_r rfl rfl rfl (op_ldm rfl tb3 (ev1 rfl) rfl rfl) ?_
      refine walk_r rfl rfl rfl (op_eql rfl (ev1 rfl) (ev1 rfl)) ?_
      refine walk_nil ?_
      refine dwp_cond rfl (fun cK_ => ?_) (fun cK_ => ?_)
      · have cK : w[k].kd = 3 := by simpa using cK_
        refine dwp_region ?_
        refine walk_r rfl rfl rfl (op_fa rfl fo44_1 (ev1 rfl)) ?_
        refine walk_r rfl rfl rfl (op_ldm rfl tb3 (ev1 rfl) rfl rfl) ?_
        refine walk_r rfl rfl rfl (op_move (.inr rfl) (ev1 rfl)) ?_
        refine walk_nil ?_
        refine dwp_region ?_
        refine walk_r rfl rfl rfl (op_add' rfl (ev1 rfl) (ev1 rfl) (fun _ => IntWalk.i64_in _ (by omega))) ?_
        refine walk_r rfl rfl rfl (op_move (.inl rfl) (ev1 rfl)) ?_
        refine walk_nil ?_
        refine ⟨k + 1, [], by omega, by simp only []; omega, rfl, ⟨congrArg (fun n => some (D.val (.int .i64 n))) (by rw [headW_succ hkl, if_pos cK]), rfl, rfl, rfl, trivial⟩, trivial⟩
      · have cK : ¬ w[k].kd = 3 := by simpa using cK_
        refine dwp_skip ?_
        refine dwp_region ?_
        refine walk_r rfl rfl rfl (op_add' rfl (ev1 rfl) (ev1 rfl) (fun _ => IntWalk.i64_in _ (by omega))) ?_
        refine walk_r rfl rfl rfl (op_move (.inl rfl) (ev1 rfl)) ?_
        refine walk_nil ?_
        refine ⟨k + 1, [], by omega, by simp only []; omega, rfl, ⟨congrArg (fun n => some (D.val (.int .i64 n))) (by rw [headW_succ hkl, if_neg cK]), rfl, rfl, rfl, trivial⟩, trivial⟩
    · try simp only [decide_eq_true_eq, decide_eq_false_iff_not, beq_iff_eq, bne_iff_ne, beq_eq_false_iff_ne, bne_eq_false_iff_eq, Bool.not_eq_true', Bool.not_eq_false', Bool.and_eq_true, Bool.or_eq_true, Bool.or_eq_false_iff, ne_eq, Decidable.not_not, Int.not_lt, Int.not_le] at c2
      refine dwp_exit ?_
      refine dwp_seq ?_
      refine dwp_region ?_
      refine walk_r rfl rfl rfl (op_move (.inl rfl) (ev1 rfl)) ?_
      refine walk_r rfl rfl rfl (op_move (.inr rfl) (ev1 rfl)) ?_
      refine walk_nil ?_
      refine dwp_ret ?_
      refine kend0 (rs1 rfl (rv_t rfl)) rfl ?_
      obtain rfl : k = w.length := by omega
      rw [if_pos cA1, List.take_length]
set_option maxRecDepth 4000 in
set_option maxHeartbeats 1000000 in
theorem rfile_d (n : Int) : DFun Try.prog 19 [.val (.int .i64 n)] [] (.val (.bool (fileB n))) [] := by
  refine dcalls_go (N := 9) 0 (by kernel_rfl) Try.func19 rfl rfl rfl (by simp only [fr0, Nat.zero_add, Nat.reduceAdd]; exact rfl) rfl fun s0 hs0 => ?_
  refine dwp_seq ?_
  refine dwp_region ?_
  refine walk_r rfl rfl rfl (op_move (.inr rfl) (ev1 rfl)) ?_
  refine walk_nil ?_
  refine dwp_seq ?_
  refine dwp_region ?_
  refine walk_r rfl rfl rfl (op_move (.inl rfl) (ev1 rfl)) ?_
  refine walk_r rfl rfl rfl (op_geq rfl (ev1 rfl) (ev1 rfl)) ?_
  refine walk_r rfl rfl rfl (op_move (.inl rfl) (ev1 rfl)) ?_
  refine walk_gr (gd_t rfl rfl rfl) rfl rfl rfl (op_move (.inl rfl) (ev1 rfl)) ?_
  refine walk_gr (gd_t rfl rfl rfl) rfl rfl rfl (op_lss rfl (ev2 rfl) (ev1 rfl)) ?_
  refine walk_r rfl rfl rfl (op_and rfl (ev1 rfl) (ev3 rfl id)) ?_
  refine walk_r rfl rfl rfl (op_move (.inr rfl) (ev1 rfl)) ?_
  refine walk_nil ?_
  refine dwp_ret ?_
  refine kend0 (rs1 rfl (rv_t rfl)) rfl ?_
  rfl
set_option maxRecDepth 4000 in
set_option maxHeartbeats 1000000 in
theorem rmay_d (o : DOpn) : DFun Try.prog 39 [.agg (oD o)] [] (.val (.bool (mayW o))) [] := by
  refine dcalls_go (N := 26) 0 (by kernel_rfl) Try.func39 rfl rfl rfl (by simp only [fr0, Nat.zero_add, Nat.reduceAdd]; exact rfl) rfl fun s0 hs0 => ?_
  refine dwp_seq ?_
  refine dwp_holes 1 (by simp only [holes, List.cons_append, List.nil_append]; exact rfl) ?_
  refine dwp_region ?_
  refine walk_w rfl rfl rfl (op_boxam 0 rfl (ev1 rfl) rfl) (by simp only [upd, List.set_cons_zero, List.set_cons_succ]; exact rfl) ?_
  refine walk_r rfl rfl rfl (op_move (.inr rfl) (ev1 rfl)) ?_
  refine walk_nil ?_
  refine dwp_seq ?_
  refine dwp_region ?_
  refine walk_r rfl rfl rfl (op_fa rfl fo44_0 (ev1 rfl)) ?_
  refine walk_r rfl rfl rfl (op_ldm rfl tb3 (ev1 rfl) rfl rfl) ?_
  refine walk_r rfl rfl rfl (op_geq rfl (ev1 rfl) (ev1 rfl)) ?_
  refine walk_r rfl rfl rfl (op_move (.inl rfl) (ev1 rfl)) ?_
  refine walk_gr (gd_t rfl rfl rfl) rfl rfl rfl (op_fa rfl fo44_0 (ev1 rfl)) ?_
  refine walk_gr (gd_t rfl rfl rfl) rfl rfl rfl (op_ldm rfl tb3 (ev2 rfl) rfl rfl) ?_
  refine walk_gr (gd_t rfl rfl rfl) rfl rfl rfl (op_leq rfl (ev2 rfl) (ev1 rfl)) ?_
  refine walk_r rfl rfl rfl (op_and rfl (ev1 rfl) (ev3 rfl id)) ?_
  refine walk_r rfl rfl rfl (op_move (.inl rfl) (ev1 rfl)) ?_
  refine walk_gr (gd_t rfl rfl rfl) rfl rfl rfl (op_fa rfl fo44_1 (ev1 rfl)) ?_
  refine walk_gr (gd_t rfl rfl rfl) rfl rfl rfl (op_ldm rfl tb3 (ev2 rfl) rfl rfl) ?_
  refine walk_gr (gd_t rfl rfl rfl) rfl rfl rfl (dop_call [] [] [] rfl (ev1 rfl) (ec (ev2 rfl) en) rfl rfl (rfile_d _) rfl rfl rfl rfl rfl rfl) ?_
  refine walk_r rfl rfl rfl (op_and rfl (ev1 rfl) (ev3 rfl id)) ?_
  refine walk_r rfl rfl rfl (op_move (.inl rfl) (ev1 rfl)) ?_
  refine walk_gr (gd_t rfl rfl rfl) rfl rfl rfl (op_fa rfl fo44_0 (ev1 rfl)) ?_
  refine walk_gr (gd_t rfl rfl rfl) rfl rfl rfl (op_ldm rfl tb3 (ev2 rfl) rfl rfl) ?_
  refine walk_gr (gd_t rfl rfl rfl) rfl rfl rfl (op_eql rfl (ev2 rfl) (ev1 rfl)) ?_
  refine walk_gr (gd_t rfl rfl rfl) rfl rfl rfl (op_fa rfl fo44_2 (ev1 rfl)) ?_
  refine walk_gr (gd_t rfl rfl rfl) rfl rfl rfl (op_ldm rfl tb22 (ev2 rfl) rfl rfl) ?_
  refine walk_gr (gd_t rfl rfl rfl) rfl rfl rfl (op_len rfl sl22 (ev2 rfl)) ?_
  refine walk_gr (gd_t rfl rfl rfl) rfl rfl rfl (op_gtr rfl (ev2 rfl) (ev1 rfl)) ?_
  refine walk_gr (gd_t rfl rfl rfl) rfl rfl rfl (op_eqb rfl un4 (ev2 rfl) (ev2 rfl)) ?_
  refine walk_r rfl rfl rfl (op_and rfl (ev1 rfl) (ev3 rfl id)) ?_
  refine walk_r rfl rfl rfl (op_move (.inr rfl) (ev1 rfl)) ?_
  refine walk_nil ?_
  refine dwp_ret ?_
  refine kend0 (rs1 rfl (rv_t rfl)) rfl ?_
  rfl
set_option maxRecDepth 4000 in
set_option maxHeartbeats 1000000 in
theorem rop_d (o : DOpn) : DFun Try.prog 55 [.agg (oD o)] [] (.val (.bool (mayO o))) [] := by
  refine dcalls_go (N := 21) 0 (by kernel_rfl) Try.func55 rfl rfl rfl (by simp only [fr0, Nat.zero_add, Nat.reduceAdd]; exact rfl) rfl fun s0 hs0 => ?_
  refine dwp_seq ?_
  refine dwp_holes 1 (by simp only [holes, List.cons_append, List.nil_append]; exact rfl) ?_
  refine dwp_region ?_
  refine walk_w rfl rfl rfl (op_boxam 0 rfl (ev1 rfl) rfl) (by simp only [upd, List.set_cons_zero, List.set_cons_succ]; exact rfl) ?_
  refine walk_r rfl rfl rfl (op_move (.inr rfl) (ev1 rfl)) ?_
  refine walk_nil ?_
  refine dwp_seq ?_
  refine dwp_region ?_
  refine walk_r rfl rfl rfl (op_ldmw rfl tb44 (ev1 rfl) rfl rfl) ?_
  refine walk_r rfl rfl rfl (dop_call [] [] [] rfl (ev1 rfl) (ec (ev1 rfl) en) rfl rfl (rmay_d o) rfl rfl rfl rfl rfl rfl) ?_
  refine walk_r rfl rfl rfl (op_move (.inl rfl) (ev1 rfl)) ?_
  refine walk_gr (gd_f rfl rfl rfl) rfl rfl rfl (op_fa rfl fo44_0 (ev1 rfl)) ?_
  refine walk_gr (gd_f rfl rfl rfl) rfl rfl rfl (op_ldm rfl tb3 (ev2 rfl) rfl rfl) ?_
  refine walk_gr (gd_f rfl rfl rfl) rfl rfl rfl (op_eql rfl (ev2 rfl) (ev1 rfl)) ?_
  refine walk_gr (gd_f rfl rfl rfl) rfl rfl rfl (op_move (.inl rfl) (ev2 rfl)) ?_
  refine walk_gr (gd_tt rfl rfl rfl) rfl rfl rfl (op_fa rfl fo44_1 (ev1 rfl)) ?_
  refine walk_gr (gd_tt rfl rfl rfl) rfl rfl rfl (op_ldm rfl tb3 (ev2 rfl) rfl rfl) ?_
  refine walk_gr (gd_tt rfl rfl rfl) rfl rfl rfl (op_eql rfl (ev2 rfl) (ev1 rfl)) ?_
  refine walk_gr (gd_f rfl rfl rfl) rfl rfl rfl (op_and rfl (ev2 rfl) (ev2 rfl)) ?_
  refine walk_gr (gd_f rfl rfl rfl) rfl rfl rfl (op_move (.inl rfl) (ev2 rfl)) ?_
  refine walk_gr (gd_tt rfl rfl rfl) rfl rfl rfl (op_fa rfl fo44_2 (ev1 rfl)) ?_
  refine walk_gr (gd_tt rfl rfl rfl) rfl rfl rfl (op_ldm rfl tb22 (ev2 rfl) rfl rfl) ?_
  refine walk_gr (gd_tt rfl rfl rfl) rfl rfl rfl (op_len rfl sl22 (ev2 rfl)) ?_
  refine walk_gr (gd_tt rfl rfl rfl) rfl rfl rfl (op_eql rfl (ev2 rfl) (ev1 rfl)) ?_
  refine walk_gr (gd_f rfl rfl rfl) rfl rfl rfl (op_and rfl (ev2 rfl) (ev2 rfl)) ?_
  refine walk_r rfl rfl rfl (op_or rfl (ev1 rfl) (ev3 rfl id)) ?_
  refine walk_r rfl rfl rfl (op_move (.inr rfl) (ev1 rfl)) ?_
  refine walk_nil ?_
  refine dwp_ret ?_
  refine kend0 (rs1 rfl (rv_t rfl)) rfl ?_
  rfl
set_option maxRecDepth 4000 in
set_option maxHeartbeats 1000000 in
theorem rbytes_d (l r : List Nat) : DFun Try.prog 47 [.slf 1 (l).length ((l).flatMap un8), .slf 1 (r).length ((r).flatMap un8)] [] (.val (.bool (decide (l = r)))) [] := by
  refine dcalls_go (N := 26) 0 (by kernel_rfl) Try.func47 rfl rfl rfl (by simp only [fr0, Nat.zero_add, Nat.reduceAdd]; exact rfl) rfl fun s0 hs0 => ?_
  refine dwp_len (t := 0) rfl fun hl0 hL0 => ?_
  refine dwp_len (t := 1) rfl fun hl1 hL1 => ?_
  refine dwp_seq ?_
  refine dwp_region ?_
  refine walk_r rfl rfl rfl (op_move (.inr rfl) (ev1 rfl)) ?_
  refine walk_nil ?_
  refine dwp_seq ?_
  refine dwp_seq ?_
  refine dwp_region ?_
  refine walk_r rfl rfl rfl (op_move (.inl rfl) (ev1 rfl)) ?_
  refine walk_r rfl rfl rfl (op_len rfl sl22 (ev1 rfl)) ?_
  refine walk_r rfl rfl rfl (op_move (.inl rfl) (ev1 rfl)) ?_
  refine walk_r rfl rfl rfl (op_len rfl sl22 (ev1 rfl)) ?_
  refine walk_r rfl rfl rfl (op_neq rfl (ev1 rfl) (ev1 rfl)) ?_
  refine walk_nil ?_
  refine dwp_cond rfl (fun c1 => ?_) (fun c1 => ?_)
  · try simp only [decide_eq_true_eq, decide_eq_false_iff_not, beq_iff_eq, bne_iff_ne, beq_eq_false_iff_ne, bne_eq_false_iff_eq, Bool.not_eq_true', Bool.not_eq_false', Bool.and_eq_true, Bool.or_eq_true, Bool.or_eq_false_iff, ne_eq, Decidable.not_not, Int.not_lt, Int.not_le] at c1
    refine dwp_seq ?_
    refine dwp_region ?_
    refine walk_r rfl rfl rfl (op_move (.inr rfl) (ev1 rfl)) ?_
    refine walk_nil ?_
    refine dwp_ret ?_
    refine kend0 (rs1 rfl (rv_t rfl)) rfl ?_
    have hne : l ≠ r := fun e => by subst e; exact c1 rfl
    rw [decide_eq_false hne]
  · try simp only [decide_eq_true_eq, decide_eq_false_iff_not, beq_iff_eq, bne_iff_ne, beq_eq_false_iff_ne, bne_eq_false_iff_eq, Bool.not_eq_true', Bool.not_eq_false', Bool.and_eq_true, Bool.or_eq_true, Bool.or_eq_false_iff, ne_eq, Decidable.not_not, Int.not_lt, Int.not_le] at c1
    have hlen : l.length = r.length := by omega
    refine dwp_skip ?_
    refine dwp_seq ?_
    refine dwp_seq ?_
    refine dwp_region ?_
    refine walk_r rfl rfl rfl (op_move (.inl rfl) (ev1 rfl)) ?_
    refine walk_r rfl rfl rfl (op_len rfl sl22 (ev1 rfl)) ?_
    refine walk_r rfl rfl rfl (op_move (.inl rfl) (ev1 rfl)) ?_
    refine walk_nil ?_
    refine dwp_block ?_
    refine dwp_loopS ⟨hs0, rfl⟩ (α := Nat) (fun k => [(14, .val (.int .i64 (k : Int)))]) [(1, _), (12, _), (13, _)] (fun k => []) [] (fun k => k ≤ l.length ∧ l.take k = r.take k) (fun k => l.length - k) 0 [] (by simp) rfl ⟨rfl, rfl, rfl, trivial⟩ ⟨rfl, trivial⟩ trivial ?_
    intro k hx
    simp only [upd, List.set_cons_zero, List.set_cons_succ, List.cons_append, List.nil_append]
    obtain ⟨hk, he⟩ := hx
    refine dwp_seq ?_
    refine dwp_region ?_
    refine walk_r rfl rfl rfl (op_lss rfl (ev1 rfl) (ev1 rfl)) ?_
    refine walk_nil ?_
    refine dwp_seq ?_
    refine dwp_cond rfl (fun c2 => ?_) (fun c2 => ?_)
    · try simp only [decide_eq_true_eq, decide_eq_false_iff_not, beq_iff_eq, bne_iff_ne, beq_eq_false_iff_ne, bne_eq_false_iff_eq, Bool.not_eq_true', Bool.not_eq_false', Bool.and_eq_true, Bool.or_eq_true, Bool.or_eq_false_iff, ne_eq, Decidable.not_not, Int.not_lt, Int.not_le] at c2
      refine dwp_skip ?_
      refine dwp_seq ?_
      refine dwp_block ?_
      refine dwp_seq ?_
      refine dwp_region ?_
      refine walk_r rfl rfl rfl (op_move (.inl rfl) (ev1 rfl)) ?_
      refine walk_r rfl rfl rfl (op_ixsr (j := k) rfl sl22 (ev1 rfl) (ev1 rfl) (fun _ => rfl) (by decide) (by omega) (by omega)) ?_
      refine walk_r rfl rfl rfl (op_ldod rfl tb5 (ev1 rfl) rfl) ?_
      refine walk_r rfl rfl rfl (op_move (.inr rfl) (ev1 rfl)) ?_
      refine walk_r rfl rfl rfl (op_move (.inr rfl) (ev1 rfl)) ?_
      refine walk_nil ?_
      refine dwp_seq ?_
      refine dwp_region ?_
      refine walk_r rfl rfl rfl (op_move (.inl rfl) (ev1 rfl)) ?_
      refine walk_r rfl rfl rfl (op_move (.inl rfl) (ev1 rfl)) ?_
      refine walk_r rfl rfl rfl (op_move (.inl rfl) (ev1 rfl)) ?_
      refine walk_r rfl rfl rfl (op_ixsr (j := k) rfl sl22 (ev1 rfl) (ev1 rfl) (fun _ => rfl) (by decide) (by omega) (by omega)) ?_
      refine walk_r rfl rfl rfl (op_ldod rfl tb5 (ev1 rfl) rfl) ?_
      refine walk_r rfl rfl rfl (op_neq rfl (ev1 rfl) (ev1 rfl)) ?_
      refine walk_nil ?_
      refine dwp_cond rfl (fun c2_ => ?_) (fun c2_ => ?_)
      · have c3_ : l[k] ≠ r[k] := by simp at c2_; omega
        refine dwp_seq ?_
        refine dwp_region ?_
        refine walk_r rfl rfl rfl (op_move (.inr rfl) (ev1 rfl)) ?_
        refine walk_nil ?_
        refine dwp_ret ?_
        refine kend0 (rs1 rfl (rv_t rfl)) rfl ?_
        have hne : l ≠ r := fun e => by subst e; exact c3_ rfl
        rw [decide_eq_false hne]
      · have c3_ : l[k] = r[k] := by simp at c2_; omega
        refine dwp_skip ?_
        refine dwp_region ?_
        refine walk_r rfl rfl rfl (op_add' rfl (ev1 rfl) (ev1 rfl) (fun _ => IntWalk.i64_in _ (by omega))) ?_
        refine walk_r rfl rfl rfl (op_move (.inl rfl) (ev1 rfl)) ?_
        refine walk_nil ?_
        refine ⟨k + 1, [], ⟨by omega, by rw [List.take_succ_eq_append_getElem (by omega), List.take_succ_eq_append_getElem (by omega), he, c3_]⟩, by simp only []; omega, rfl, ⟨rfl, rfl, rfl, rfl, trivial⟩, trivial⟩
    · try simp only [decide_eq_true_eq, decide_eq_false_iff_not, beq_iff_eq, bne_iff_ne, beq_eq_false_iff_ne, bne_eq_false_iff_eq, Bool.not_eq_true', Bool.not_eq_false', Bool.and_eq_true, Bool.or_eq_true, Bool.or_eq_false_iff, ne_eq, Decidable.not_not, Int.not_lt, Int.not_le] at c2
      refine dwp_exit ?_
      refine dwp_seq ?_
      refine dwp_region ?_
      refine walk_r rfl rfl rfl (op_move (.inr rfl) (ev1 rfl)) ?_
      refine walk_nil ?_
      refine dwp_ret ?_
      refine kend0 (rs1 rfl (rv_t rfl)) rfl ?_
      have e : l = r := by
        have h := he
        rw [List.take_of_length_le (by omega), List.take_of_length_le (by omega)] at h
        exact h
      rw [decide_eq_true e]
set_option maxRecDepth 4000 in
set_option maxHeartbeats 1000000 in
theorem rsame_d (f : Nat → List Nat) (h : Int) (w : List DOpn) (dn : Bool) (fu : Int) (f2 : Nat → List Nat) (h2 : Int) (w2 : List DOpn) (dn2 : Bool) (fu2 : Int) (hwl : w.length ≤ 1000000) : DFun Try.prog 14 [.agg (dD f h w dn fu), .agg (dD f2 h2 w2 dn2 fu2)] [] (.val (.bool (sameB f h w dn fu f2 h2 w2 dn2 fu2))) [] := by
  refine dcalls_go (N := 86) 0 (by kernel_rfl) Try.func14 rfl rfl rfl (by simp only [fr0, Nat.zero_add, Nat.reduceAdd]; exact rfl) rfl fun s0 hs0 => ?_
  refine dwp_seq ?_
  refine dwp_region ?_
  refine walk_r rfl rfl rfl (op_boxf rfl rfl (ev1 rfl)) ?_
  refine walk_r rfl rfl rfl (op_boxf rfl rfl (ev1 rfl)) ?_
  refine walk_r rfl rfl rfl (op_move (.inr rfl) (ev1 rfl)) ?_
  refine walk_nil ?_
  refine dwp_seq ?_
  refine dwp_seq ?_
  refine dwp_region ?_
  refine walk_r rfl rfl rfl (op_fadm rfl fo26_0 (ev1 rfl)) ?_
  refine walk_r rfl rfl rfl (op_lddr rfl tb23 (ev1 rfl) rfl rfl) ?_
  refine walk_r rfl rfl rfl (op_move (.inl rfl) (ev1 rfl)) ?_
  refine walk_nil ?_
  refine dwp_block ?_
  refine dwp_loopS ⟨hs0, rfl⟩ (α := Nat) (fun i => [(12, .val (.int .i64 (i : Int)))]) [(2, _), (3, _), (11, _)] (fun i => []) [] (fun i => i ≤ 4 ∧ ∀ j, j < i → f j = f2 j) (fun i => 4 - i) 0 [] (⟨by omega, fun j hj => absurd hj (Nat.not_lt_zero j)⟩) rfl ⟨rfl, rfl, rfl, trivial⟩ ⟨rfl, trivial⟩ trivial ?_
  intro i hx
  simp only [upd, List.set_cons_zero, List.set_cons_succ, List.cons_append, List.nil_append]
  obtain ⟨hi, hall⟩ := hx
  refine dwp_seq ?_
  refine dwp_region ?_
  refine walk_r rfl rfl rfl (op_lss rfl (ev1 rfl) (ev1 rfl)) ?_
  refine walk_nil ?_
  refine dwp_seq ?_
  refine dwp_cond rfl (fun c1 => ?_) (fun c1 => ?_)
  · try simp only [decide_eq_true_eq, decide_eq_false_iff_not, beq_iff_eq, bne_iff_ne, beq_eq_false_iff_ne, bne_eq_false_iff_eq, Bool.not_eq_true', Bool.not_eq_false', Bool.and_eq_true, Bool.or_eq_true, Bool.or_eq_false_iff, ne_eq, Decidable.not_not, Int.not_lt, Int.not_le] at c1
    refine dwp_skip ?_
    refine dwp_seq ?_
    refine dwp_block ?_
    refine dwp_seq ?_
    have hi4 : i < 4 := by omega
    refine dwp_region ?_
    refine walk_r rfl rfl rfl (op_move (.inl rfl) (ev1 rfl)) ?_
    refine walk_r rfl rfl rfl (op_ixw (i) rfl aw23 (ev1 rfl) (ev1 rfl) (fun _ => rfl) (by omega) (fcell hi4)) ?_
    refine walk_r rfl rfl rfl (op_move (.inr rfl) (ev1 rfl)) ?_
    refine walk_r rfl rfl rfl (op_move (.inr rfl) (ev1 rfl)) ?_
    refine walk_nil ?_
    refine dwp_seq ?_
    refine dwp_region ?_
    refine walk_r rfl rfl rfl (op_move (.inl rfl) (ev1 rfl)) ?_
    refine walk_r rfl rfl rfl (op_move (.inl rfl) (ev1 rfl)) ?_
    refine walk_r rfl rfl rfl (op_fadm rfl fo26_0 (ev1 rfl)) ?_
    refine walk_r rfl rfl rfl (op_ixpm (i) rfl ar23 (ev1 rfl) (ev1 rfl) (fun _ => by omega) (fun _ => by omega)) ?_
    refine walk_r rfl rfl rfl (op_lddm rfl tb22 (ev1 rfl) (fcell_d hi4)) ?_
    refine walk_r rfl rfl rfl (dop_call [] [] [] rfl (ev1 rfl) (ec (ev1 rfl) (ec (ev1 rfl) en)) rfl rfl (rbytes_d _ _) rfl rfl rfl rfl rfl rfl) ?_
    refine walk_r rfl rfl rfl (op_not rfl (ev1 rfl)) ?_
    refine walk_nil ?_
    refine dwp_cond rfl (fun cF_ => ?_) (fun cF_ => ?_)
    · have cF : f i ≠ f2 i := by simpa using cF_
      refine dwp_seq ?_
      refine dwp_region ?_
      refine walk_r rfl rfl rfl (op_move (.inr rfl) (ev1 rfl)) ?_
      refine walk_nil ?_
      refine dwp_ret ?_
      refine kend0 (rs1 rfl (rv_t rfl)) rfl ?_
      have hno : sameB f h w dn fu f2 h2 w2 dn2 fu2 = false := by unfold sameB; rw [fEq_no (by omega) cF]; rfl
      rw [hno]
    · have cF : f i = f2 i := by simpa using cF_
      refine dwp_skip ?_
      refine dwp_region ?_
      refine walk_r rfl rfl rfl (op_add' rfl (ev1 rfl) (ev1 rfl) (fun _ => IntWalk.i64_in _ (by omega))) ?_
      refine walk_r rfl rfl rfl (op_move (.inl rfl) (ev1 rfl)) ?_
      refine walk_nil ?_
      refine ⟨i + 1, [], ⟨by omega, fun j hj => by
      by_cases e : j = i
      · subst e; exact cF
      · exact hall j (by omega)⟩, by simp only []; omega, rfl, ⟨rfl, rfl, rfl, rfl, trivial⟩, trivial⟩
  · try simp only [decide_eq_true_eq, decide_eq_false_iff_not, beq_iff_eq, bne_iff_ne, beq_eq_false_iff_ne, bne_eq_false_iff_eq, Bool.not_eq_true', Bool.not_eq_false', Bool.and_eq_true, Bool.or_eq_true, Bool.or_eq_false_iff, ne_eq, Decidable.not_not, Int.not_lt, Int.not_le] at c1
    refine dwp_exit ?_
    refine dwp_seq ?_
    refine dwp_seq ?_
    have hfe : fEq f f2 = true := fEq_yes fun j hj => hall j (by omega)
    refine dwp_region ?_
    refine walk_r rfl rfl rfl (op_fadm rfl fo26_1 (ev1 rfl)) ?_
    refine walk_r rfl rfl rfl (op_lddm rfl tb3 (ev1 rfl) rfl) ?_
    refine walk_r rfl rfl rfl (op_fadm rfl fo26_1 (ev1 rfl)) ?_
    refine walk_r rfl rfl rfl (op_lddm rfl tb3 (ev1 rfl) rfl) ?_
    refine walk_r rfl rfl rfl (op_neq rfl (ev1 rfl) (ev1 rfl)) ?_
    refine walk_r rfl rfl rfl (op_move (.inl rfl) (ev1 rfl)) ?_
    refine walk_gr (gd_f rfl rfl rfl) rfl rfl rfl (op_fadm rfl fo26_3 (ev1 rfl)) ?_
    refine walk_gr (gd_f rfl rfl rfl) rfl rfl rfl (op_lddm rfl tb4 (ev2 rfl) rfl) ?_
    refine walk_gr (gd_f rfl rfl rfl) rfl rfl rfl (op_fadm rfl fo26_3 (ev1 rfl)) ?_
    refine walk_gr (gd_f rfl rfl rfl) rfl rfl rfl (op_lddm rfl tb4 (ev2 rfl) rfl) ?_
    refine walk_gr (gd_f rfl rfl rfl) rfl rfl rfl (op_neb rfl un4 (ev2 rfl) (ev2 rfl)) ?_
    refine walk_r rfl rfl rfl (op_or rfl (ev1 rfl) (ev3 rfl id)) ?_
    refine walk_r rfl rfl rfl (op_move (.inl rfl) (ev1 rfl)) ?_
    refine walk_gr (gd_f rfl rfl rfl) rfl rfl rfl (op_fadm rfl fo26_4 (ev1 rfl)) ?_
    refine walk_gr (gd_f rfl rfl rfl) rfl rfl rfl (op_lddm rfl tb3 (ev2 rfl) rfl) ?_
    refine walk_gr (gd_f rfl rfl rfl) rfl rfl rfl (op_fadm rfl fo26_4 (ev1 rfl)) ?_
    refine walk_gr (gd_f rfl rfl rfl) rfl rfl rfl (op_lddm rfl tb3 (ev2 rfl) rfl) ?_
    refine walk_gr (gd_f rfl rfl rfl) rfl rfl rfl (op_neq rfl (ev2 rfl) (ev2 rfl)) ?_
    refine walk_r rfl rfl rfl (op_or rfl (ev1 rfl) (ev3 rfl id)) ?_
    refine walk_r rfl rfl rfl (op_move (.inl rfl) (ev1 rfl)) ?_
    refine walk_gr (gd_f rfl rfl rfl) rfl rfl rfl (op_fadm rfl fo26_2 (ev1 rfl)) ?_
    refine walk_gr (gd_f rfl rfl rfl) rfl rfl rfl (op_lddm rfl tb24 (ev2 rfl) rfl) ?_
    refine walk_gr (gd_f rfl rfl rfl) rfl rfl rfl (op_lenm rfl sl24 (ev2 rfl)) ?_
    refine walk_gr (gd_f rfl rfl rfl) rfl rfl rfl (op_fadm rfl fo26_2 (ev1 rfl)) ?_
    refine walk_gr (gd_f rfl rfl rfl) rfl rfl rfl (op_lddm rfl tb24 (ev2 rfl) rfl) ?_
    refine walk_gr (gd_f rfl rfl rfl) rfl rfl rfl (op_lenm rfl sl24 (ev2 rfl)) ?_
    refine walk_gr (gd_f rfl rfl rfl) rfl rfl rfl (op_neq rfl (ev2 rfl) (ev2 rfl)) ?_
    refine walk_r rfl rfl rfl (op_or rfl (ev1 rfl) (ev3 rfl id)) ?_
    refine walk_nil ?_
    refine dwp_cond rfl (fun cR => ?_) (fun cR => ?_)
    · refine dwp_seq ?_
      refine dwp_region ?_
      refine walk_r rfl rfl rfl (op_move (.inr rfl) (ev1 rfl)) ?_
      refine walk_nil ?_
      refine dwp_ret ?_
      refine kend0 (rs1 rfl (rv_t rfl)) rfl ?_
      rw [sameB_rest cR]
    · have cR1 : ((h = h2 ∧ dn = dn2) ∧ fu = fu2) ∧ w.length = w2.length := by
        simp at cR
        obtain ⟨⟨⟨r1, r2⟩, r3⟩, r4⟩ := cR
        exact ⟨⟨⟨r1, by cases dn <;> cases dn2 <;> simp_all⟩, r3⟩, by omega⟩
      have hlen := cR1.2
      refine dwp_skip ?_
      refine dwp_seq ?_
      refine dwp_seq ?_
      refine dwp_region ?_
      refine walk_r rfl rfl rfl (op_fadm rfl fo26_2 (ev1 rfl)) ?_
      refine walk_r rfl rfl rfl (op_lddm rfl tb24 (ev1 rfl) rfl) ?_
      refine walk_r rfl rfl rfl (op_lenm rfl sl24 (ev1 rfl)) ?_
      refine walk_r rfl rfl rfl (op_move (.inl rfl) (ev1 rfl)) ?_
      refine walk_nil ?_
      refine dwp_block ?_
      refine dwp_loopS ⟨hs0, rfl⟩ (α := Nat) (fun k => [(55, .val (.int .i64 (k : Int)))]) [(3, _), (53, _), (54, _)] (fun k => []) [] (fun k => k ≤ w.length ∧ w.take k = w2.take k) (fun k => w.length - k) 0 [] (by simp) rfl ⟨rfl, rfl, rfl, trivial⟩ ⟨rfl, trivial⟩ trivial ?_
      intro k hx
      simp only [upd, List.set_cons_zero, List.set_cons_succ, List.cons_append, List.nil_append]
      obtain ⟨hk, he⟩ := hx
      refine dwp_seq ?_
      refine dwp_region ?_
      refine walk_r rfl rfl rfl (op_lss rfl (ev1 rfl) (ev1 rfl)) ?_
      refine walk_nil ?_
      refine dwp_seq ?_
      refine dwp_cond rfl (fun c4 => ?_) (fun c4 => ?_)
      · try simp only [decide_eq_true_eq, decide_eq_false_iff_not, beq_iff_eq, bne_iff_ne, beq_eq_false_iff_ne, bne_eq_false_iff_eq, Bool.not_eq_true', Bool.not_eq_false', Bool.and_eq_true, Bool.or_eq_true, Bool.or_eq_false_iff, ne_eq, Decidable.not_not, Int.not_lt, Int.not_le] at c4
        refine dwp_skip ?_
        refine dwp_seq ?_
        refine dwp_block ?_
        refine dwp_seq ?_
        refine dwp_holes 1 (by simp only [holes, List.cons_append, List.nil_append]; exact rfl) ?_
        refine dwp_region ?_
        refine walk_r rfl rfl rfl (op_move (.inl rfl) (ev1 rfl)) ?_
        refine walk_r rfl rfl rfl (op_ixmr (k) (by decide) rfl sl24 (ev1 rfl) (ev1 rfl) (fun _ => rfl) (by omega) (fun _ => rfl)) ?_
        refine walk_r rfl rfl rfl (op_lddr rfl tb44 (ev1 rfl) rfl rfl) ?_
        refine walk_w rfl rfl rfl (op_alloc 0 rfl zr44 rfl) (by simp only [upd, List.set_cons_zero, List.set_cons_succ]; exact rfl) ?_
        refine walk_r rfl rfl rfl (op_move (.inr rfl) (ev1 rfl)) ?_
        refine walk_s rfl rfl (op_stam rfl tb44 (ev1 rfl) (ev1 rfl) rfl rfl rfl rfl) (by simp only [upd, List.set_cons_zero, List.set_cons_succ]; exact rfl) ?_
        refine walk_nil ?_
        refine dwp_seq ?_
        refine dwp_holes 1 (by simp only [holes, List.cons_append, List.nil_append]; exact rfl) ?_
        refine dwp_region ?_
        refine walk_r rfl rfl rfl (op_fadm rfl fo26_2 (ev1 rfl)) ?_
        refine walk_r rfl rfl rfl (op_lddm rfl tb24 (ev1 rfl) rfl) ?_
        refine walk_r rfl rfl rfl (op_move (.inl rfl) (ev1 rfl)) ?_
        refine walk_r rfl rfl rfl (op_ixmr (k) (by decide) rfl sl24 (ev1 rfl) (ev1 rfl) (fun _ => rfl) (by omega) (fun _ => rfl)) ?_
        refine walk_r rfl rfl rfl (op_lddr rfl tb44 (ev1 rfl) rfl rfl) ?_
        refine walk_w rfl rfl rfl (op_alloc 1 rfl zr44 rfl) (by simp only [upd, List.set_cons_zero, List.set_cons_succ]; exact rfl) ?_
        refine walk_s rfl rfl (op_stam rfl tb44 (ev1 rfl) (ev1 rfl) rfl rfl rfl rfl) (by simp only [upd, List.set_cons_zero, List.set_cons_succ]; exact rfl) ?_
        refine walk_nil ?_
        refine dwp_seq ?_
        refine dwp_region ?_
        refine walk_r rfl rfl rfl (op_fa rfl fo44_0 (ev1 rfl)) ?_
        refine walk_r rfl rfl rfl (op_ldm rfl tb3 (ev1 rfl) rfl rfl) ?_
        refine walk_r rfl rfl rfl (op_fa rfl fo44_0 (ev1 rfl)) ?_
        refine walk_r rfl rfl rfl (op_ldm rfl tb3 (ev1 rfl) rfl rfl) ?_
        refine walk_r rfl rfl rfl (op_neq rfl (ev1 rfl) (ev1 rfl)) ?_
        refine walk_r rfl rfl rfl (op_move (.inl rfl) (ev1 rfl)) ?_
        refine walk_gr (gd_f rfl rfl rfl) rfl rfl rfl (op_fa rfl fo44_1 (ev1 rfl)) ?_
        refine walk_gr (gd_f rfl rfl rfl) rfl rfl rfl (op_ldm rfl tb3 (ev2 rfl) rfl rfl) ?_
        refine walk_gr (gd_f rfl rfl rfl) rfl rfl rfl (op_fa rfl fo44_1 (ev1 rfl)) ?_
        refine walk_gr (gd_f rfl rfl rfl) rfl rfl rfl (op_ldm rfl tb3 (ev2 rfl) rfl rfl) ?_
        refine walk_gr (gd_f rfl rfl rfl) rfl rfl rfl (op_neq rfl (ev2 rfl) (ev2 rfl)) ?_
        refine walk_r rfl rfl rfl (op_or rfl (ev1 rfl) (ev3 rfl id)) ?_
        refine walk_r rfl rfl rfl (op_move (.inl rfl) (ev1 rfl)) ?_
        refine walk_gr (gd_f rfl rfl rfl) rfl rfl rfl (op_fa rfl fo44_2 (ev1 rfl)) ?_
        refine walk_gr (gd_f rfl rfl rfl) rfl rfl rfl (op_ldm rfl tb22 (ev2 rfl) rfl rfl) ?_
        refine walk_gr (gd_f rfl rfl rfl) rfl rfl rfl (op_fa rfl fo44_2 (ev1 rfl)) ?_
        refine walk_gr (gd_f rfl rfl rfl) rfl rfl rfl (op_ldm rfl tb22 (ev2 rfl) rfl rfl) ?_
        refine walk_gr (gd_f rfl rfl rfl) rfl rfl rfl (dop_call [] [] [] rfl (ev1 rfl) (ec (ev2 rfl) (ec (ev2 rfl) en)) rfl rfl (rbytes_d _ _) rfl rfl rfl rfl rfl rfl) ?_
        refine walk_gr (gd_f rfl rfl rfl) rfl rfl rfl (op_not rfl (ev2 rfl)) ?_
        refine walk_r rfl rfl rfl (op_or rfl (ev1 rfl) (ev3 rfl id)) ?_
        refine walk_nil ?_
        refine dwp_cond rfl (fun c2_ => ?_) (fun c2_ => ?_)
        · have c3_ : w[k] ≠ w2[k] := fun e => by rw [e] at c2_; simp at c2_
          refine dwp_seq ?_
          refine dwp_region ?_
          refine walk_r rfl rfl rfl (op_move (.inr rfl) (ev1 rfl)) ?_
          refine walk_nil ?_
          refine dwp_ret ?_
          refine kend0 (rs1 rfl (rv_t rfl)) rfl ?_
          have hne : w ≠ w2 := fun e => by subst e; exact c3_ rfl
          have hno : sameB f h w dn fu f2 h2 w2 dn2 fu2 = false := by unfold sameB; rw [decide_eq_false hne, Bool.and_false, Bool.and_false]
          rw [hno]
        · have c3_ : w[k] = w2[k] := by
            have := (opB_eq (p := w[k]) (q := w2[k])).1 (by unfold opB; simpa using c2_)
            exact this
          refine dwp_skip ?_
          refine dwp_region ?_
          refine walk_r rfl rfl rfl (op_add' rfl (ev1 rfl) (ev1 rfl) (fun _ => IntWalk.i64_in _ (by omega))) ?_
          refine walk_r rfl rfl rfl (op_move (.inl rfl) (ev1 rfl)) ?_
          refine walk_nil ?_
          refine ⟨k + 1, [], ⟨by omega, by rw [List.take_succ_eq_append_getElem (by omega), List.take_succ_eq_append_getElem (by omega), he, c3_]⟩, by simp only []; omega, rfl, ⟨rfl, rfl, rfl, rfl, trivial⟩, trivial⟩
      · try simp only [decide_eq_true_eq, decide_eq_false_iff_not, beq_iff_eq, bne_iff_ne, beq_eq_false_iff_ne, bne_eq_false_iff_eq, Bool.not_eq_true', Bool.not_eq_false', Bool.and_eq_true, Bool.or_eq_true, Bool.or_eq_false_iff, ne_eq, Decidable.not_not, Int.not_lt, Int.not_le] at c4
        refine dwp_exit ?_
        refine dwp_seq ?_
        refine dwp_region ?_
        refine walk_r rfl rfl rfl (op_move (.inr rfl) (ev1 rfl)) ?_
        refine walk_nil ?_
        refine dwp_ret ?_
        refine kend0 (rs1 rfl (rv_t rfl)) rfl ?_
        have e : w = w2 := by
          have h := he
          rw [List.take_of_length_le (by omega), List.take_of_length_le (by omega)] at h
          exact h
        have hyes : sameB f h w dn fu f2 h2 w2 dn2 fu2 = true := by unfold sameB; rw [hfe, e, cR1.1.1.1, cR1.1.1.2, cR1.1.2]; simp
        rw [hyes]
end Go.Proofs.Ytjecmkaggobcjaa

namespace Go.Proofs.Ytjecmkaggobcjaa
set_option linter.unusedVariables false
set_option linter.unusedSimpArgs false
open Go.RowKit
theorem chk0_eq2 (h : Int) (w : List DOpn) (dn : Bool) (fu : Int) : ((((!fileB h || decide (4096 < (w.length : Int))) || decide (fu < 0)) || decide (4096 < fu)) || (dn && decide (0 < fu))) = !chk0 h w dn fu := by
  unfold chk0 fileB
  have e3 : decide (fu < 0) = !decide (0 ≤ fu) := by rw [← decide_not]; exact decide_eq_decide.2 (by omega)
  have e4 : decide (4096 < fu) = !decide (fu ≤ 4096) := by rw [← decide_not]; exact decide_eq_decide.2 (by omega)
  have e6 : decide (4096 < (w.length : Int)) = !decide (w.length ≤ 4096) := by rw [← decide_not]; exact decide_eq_decide.2 (by omega)
  by_cases h0 : 0 ≤ fu
  · have e5 : decide (0 < fu) = decide (fu ≠ 0) := decide_eq_decide.2 (by omega)
    rw [e3, e4, e5, e6]
    generalize decide (0 ≤ h) = a1
    generalize decide (h < 4) = a2
    generalize decide (0 ≤ fu) = a3
    generalize decide (fu ≤ 4096) = a4
    generalize decide (fu ≠ 0) = a5
    generalize decide (w.length ≤ 4096) = a6
    cases a1 <;> cases a2 <;> cases a3 <;> cases a4 <;> cases a5 <;> cases a6 <;> cases dn <;> rfl
  · rw [e3, decide_eq_false h0]
    simp
theorem len0 {o : DOpn} (h : mayW o = true) (hk : o.kd ≠ 1) : o.b.length = 0 := by
  unfold mayW at h
  simp only [Bool.and_eq_true] at h
  have h1 := h.2
  rw [show (o.kd == 1) = false by simpa using hk] at h1
  have h2 : ¬ (0 < (o.b.length : Int)) := by simpa using h1
  omega
theorem r_aft2 {l : List Nat} {o : DOpn} (h : mayW o = true) (hk : o.kd = 2) : (l.set o.fl.toNat 0).set o.fl.toNat ((l.set o.fl.toNat 0).getD o.fl.toNat 0 + o.b.length) = aft l o := by
  have h0 := len0 h (by omega)
  unfold aft
  rw [if_neg (by omega), if_pos hk, h0, List.set_set]
  congr 1
  rw [List.getD_eq_getElem?_getD]
  by_cases hi : o.fl.toNat < l.length
  · simp [hi]
  · simp [List.getElem?_eq_none (Nat.le_of_not_lt hi), hi]
theorem r_aft1 {l : List Nat} {o : DOpn} (h : mayW o = true) (hk : o.kd ≠ 2) : l.set o.fl.toNat (l.getD o.fl.toNat 0 + o.b.length) = aft l o := by
  unfold aft
  by_cases k1 : o.kd = 1
  · rw [if_pos k1]
  · rw [if_neg k1, if_neg hk, len0 h k1, Nat.add_zero]
    refine List.ext_getElem? fun i => ?_
    by_cases e : o.fl.toNat = i
    · subst e
      by_cases hi : o.fl.toNat < l.length
      · rw [List.getElem?_set_self hi, List.getD_eq_getElem?_getD, List.getElem?_eq_getElem hi]; rfl
      · rw [List.getElem?_eq_none (by simp; omega), List.getElem?_eq_none (by omega)]
    · rw [List.getElem?_set_ne e]
theorem allF_no {f : Nat → List Nat} {i : Nat} (hi : i < 4) (h : 4194304 < ((f i).length : Int)) : allF f = false := by
  have : i = 0 ∨ i = 1 ∨ i = 2 ∨ i = 3 := by omega
  unfold allF
  rcases this with rfl | rfl | rfl | rfl <;> simp <;> omega
theorem allF_yes {f : Nat → List Nat} (h : ∀ i, i < 4 → ((f i).length : Int) ≤ 4194304) : allF f = true := by
  unfold allF; simp [h]
theorem getD_set0 (l : List Nat) (j : Nat) : (l.set j 0).getD j 0 = 0 := by
  rw [List.getD_eq_getElem?_getD]
  by_cases hi : j < l.length
  · simp [hi]
  · simp [List.getElem?_eq_none (Nat.le_of_not_lt hi), hi]
set_option maxRecDepth 4000 in
set_option maxHeartbeats 1000000 in
theorem rright_d (f : Nat → List Nat) (h : Int) (w : List DOpn) (dn : Bool) (fu : Int) (hb : fewB (szs f) w) : DFun Try.prog 11 [.agg (dD f h w dn fu)] [] (.val (.bool (chkB f h w dn fu))) [] := by
  refine dcalls_go (N := 92) 0 (by kernel_rfl) Try.func11 rfl rfl rfl (by simp only [fr0, Nat.zero_add, Nat.reduceAdd]; exact rfl) rfl fun s0 hs0 => ?_
  refine dwp_seq ?_
  refine dwp_region ?_
  refine walk_r rfl rfl rfl (op_boxf rfl rfl (ev1 rfl)) ?_
  refine walk_r rfl rfl rfl (op_move (.inr rfl) (ev1 rfl)) ?_
  refine walk_nil ?_
  refine dwp_seq ?_
  refine dwp_seq ?_
  refine dwp_region ?_
  refine walk_r rfl rfl rfl (op_fadm rfl fo26_1 (ev1 rfl)) ?_
  refine walk_r rfl rfl rfl (op_lddm rfl tb3 (ev1 rfl) rfl) ?_
  refine walk_r rfl rfl rfl (dop_call [] [] [] rfl (ev1 rfl) (ec (ev1 rfl) en) rfl rfl (rfile_d h) rfl rfl rfl rfl rfl rfl) ?_
  refine walk_r rfl rfl rfl (op_not rfl (ev1 rfl)) ?_
  refine walk_r rfl rfl rfl (op_move (.inl rfl) (ev1 rfl)) ?_
  refine walk_gr (gd_f rfl rfl rfl) rfl rfl rfl (op_fadm rfl fo26_2 (ev1 rfl)) ?_
  refine walk_gr (gd_f rfl rfl rfl) rfl rfl rfl (op_lddm rfl tb24 (ev2 rfl) rfl) ?_
  refine walk_gr (gd_f rfl rfl rfl) rfl rfl rfl (op_lenm rfl sl24 (ev2 rfl)) ?_
  refine walk_gr (gd_f rfl rfl rfl) rfl rfl rfl (op_gtr rfl (ev2 rfl) (ev1 rfl)) ?_
  refine walk_r rfl rfl rfl (op_or rfl (ev1 rfl) (ev3 rfl id)) ?_
  refine walk_r rfl rfl rfl (op_move (.inl rfl) (ev1 rfl)) ?_
  refine walk_gr (gd_f rfl rfl rfl) rfl rfl rfl (op_fadm rfl fo26_4 (ev1 rfl)) ?_
  refine walk_gr (gd_f rfl rfl rfl) rfl rfl rfl (op_lddm rfl tb3 (ev2 rfl) rfl) ?_
  refine walk_gr (gd_f rfl rfl rfl) rfl rfl rfl (op_lss rfl (ev2 rfl) (ev1 rfl)) ?_
  refine walk_r rfl rfl rfl (op_or rfl (ev1 rfl) (ev3 rfl id)) ?_
  refine walk_r rfl rfl rfl (op_move (.inl rfl) (ev1 rfl)) ?_
  refine walk_gr (gd_f rfl rfl rfl) rfl rfl rfl (op_fadm rfl fo26_4 (ev1 rfl)) ?_
  refine walk_gr (gd_f rfl rfl rfl) rfl rfl rfl (op_lddm rfl tb3 (ev2 rfl) rfl) ?_
  refine walk_gr (gd_f rfl rfl rfl) rfl rfl rfl (op_gtr rfl (ev2 rfl) (ev1 rfl)) ?_
  refine walk_r rfl rfl rfl (op_or rfl (ev1 rfl) (ev3 rfl id)) ?_
  refine walk_r rfl rfl rfl (op_move (.inl rfl) (ev1 rfl)) ?_
  refine walk_gr (gd_f rfl rfl rfl) rfl rfl rfl (op_fadm rfl fo26_3 (ev1 rfl)) ?_
  refine walk_gr (gd_f rfl rfl rfl) rfl rfl rfl (op_lddm rfl tb4 (ev2 rfl) rfl) ?_
  refine walk_gr (gd_f rfl rfl rfl) rfl rfl rfl (op_move (.inl rfl) (ev2 rfl)) ?_
  refine walk_gr (gd_tt rfl rfl rfl) rfl rfl rfl (op_fadm rfl fo26_4 (ev1 rfl)) ?_
  refine walk_gr (gd_tt rfl rfl rfl) rfl rfl rfl (op_lddm rfl tb3 (ev2 rfl) rfl) ?_
  refine walk_gr (gd_tt rfl rfl rfl) rfl rfl rfl (op_gtr rfl (ev2 rfl) (ev1 rfl)) ?_
  refine walk_gr (gd_f rfl rfl rfl) rfl rfl rfl (op_and rfl (ev2 rfl) (ev2 rfl)) ?_
  refine walk_r rfl rfl rfl (op_or rfl (ev1 rfl) (ev3 rfl id)) ?_
  refine walk_nil ?_
  refine dwp_cond rfl (fun cA => ?_) (fun cA => ?_)
  · have cA1 : chk0 h w dn fu = false := by simpa using (chk0_eq2 h w dn fu).symm.trans cA
    refine dwp_seq ?_
    refine dwp_region ?_
    refine walk_r rfl rfl rfl (op_move (.inr rfl) (ev1 rfl)) ?_
    refine walk_nil ?_
    refine dwp_ret ?_
    refine kend0 (rs1 rfl (rv_t rfl)) rfl ?_
    have hno : chkB f h w dn fu = false := by unfold chkB; rw [cA1]; rfl
    rw [hno]
  · have cA1 : chk0 h w dn fu = true := by simpa using (chk0_eq2 h w dn fu).symm.trans cA
    refine dwp_skip ?_
    refine dwp_seq ?_
    refine dwp_holes 1 (by simp only [holes, List.cons_append, List.nil_append]; exact rfl) ?_
    refine dwp_region ?_
    refine walk_w rfl rfl rfl (op_alloc 0 rfl zr62 rfl) (by simp only [upd, List.set_cons_zero, List.set_cons_succ]; exact rfl) ?_
    refine walk_nil ?_
    refine dwp_seq ?_
    refine dwp_seq ?_
    refine dwp_region ?_
    refine walk_r rfl rfl rfl (op_fadm rfl fo26_0 (ev1 rfl)) ?_
    refine walk_r rfl rfl rfl (op_lddr rfl tb23 (ev1 rfl) rfl rfl) ?_
    refine walk_r rfl rfl rfl (op_move (.inl rfl) (ev1 rfl)) ?_
    refine walk_nil ?_
    refine dwp_block ?_
    refine dwp_loopS ⟨hs0, rfl⟩ (α := Nat) (fun i => [(41, .val (.int .i64 (i : Int)))]) [(1, _), (3, _), (40, _)] (fun i => [(0, .flat 62 ((szK f i).flatMap inN))]) [.hole] (fun i => i ≤ 4) (fun i => 4 - i) 0 [0] (by simp) rfl ⟨rfl, rfl, rfl, trivial⟩ ⟨rfl, trivial⟩ ⟨rfl, trivial⟩ ?_
    intro i hx
    simp only [upd, List.set_cons_zero, List.set_cons_succ, List.cons_append, List.nil_append]
    have hi := hx
    have hsl : (szK f i).length = 4 := rfl
    refine dwp_seq ?_
    refine dwp_region ?_
    refine walk_r rfl rfl rfl (op_lss rfl (ev1 rfl) (ev1 rfl)) ?_
    refine walk_nil ?_
    refine dwp_seq ?_
    refine dwp_cond rfl (fun c2 => ?_) (fun c2 => ?_)
    · try simp only [decide_eq_true_eq, decide_eq_false_iff_not, beq_iff_eq, bne_iff_ne, beq_eq_false_iff_ne, bne_eq_false_iff_eq, Bool.not_eq_true', Bool.not_eq_false', Bool.and_eq_true, Bool.or_eq_true, Bool.or_eq_false_iff, ne_eq, Decidable.not_not, Int.not_lt, Int.not_le] at c2
      refine dwp_skip ?_
      refine dwp_seq ?_
      refine dwp_block ?_
      refine dwp_seq ?_
      have hi4 : i < 4 := by omega
      refine dwp_region ?_
      refine walk_r rfl rfl rfl (op_move (.inl rfl) (ev1 rfl)) ?_
      refine walk_r rfl rfl rfl (op_ixw (i) rfl aw23 (ev1 rfl) (ev1 rfl) (fun _ => rfl) (by omega) (fcell hi4)) ?_
      refine walk_r rfl rfl rfl (op_move (.inr rfl) (ev1 rfl)) ?_
      refine walk_r rfl rfl rfl (op_move (.inr rfl) (ev1 rfl)) ?_
      refine walk_nil ?_
      refine dwp_region ?_
      refine walk_r rfl rfl rfl (op_move (.inl rfl) (ev1 rfl)) ?_
      refine walk_r rfl rfl rfl (op_move (.inl rfl) (ev1 rfl)) ?_
      refine walk_r rfl rfl rfl (op_len rfl sl22 (ev1 rfl)) ?_
      refine walk_r rfl rfl rfl (op_ixfr (j := i) rfl ar62 (ev1 rfl) (ev1 rfl) (fun _ => by omega) (fun _ => by omega)) ?_
      refine walk_s rfl rfl (op_stfr (q := (f i).length) rfl tb3 (ev1 rfl) (ev1 rfl) rfl rfl rfl (fun _ => rfl) (fun _ => by omega)) (by simp only [upd, List.set_cons_zero, List.set_cons_succ]; exact rfl) ?_
      refine walk_nil ?_
      refine dwp_region ?_
      refine walk_r rfl rfl rfl (op_add' rfl (ev1 rfl) (ev1 rfl) (fun _ => IntWalk.i64_in _ (by omega))) ?_
      refine walk_r rfl rfl rfl (op_move (.inl rfl) (ev1 rfl)) ?_
      refine walk_nil ?_
      refine ⟨i + 1, [0], by omega, by simp only []; omega, rfl, ⟨rfl, rfl, rfl, rfl, trivial⟩, ⟨congrArg (fun l : List Nat => some (Blk.flat 62 (l.flatMap inN))) (szK_set hi4), trivial⟩⟩
    · try simp only [decide_eq_true_eq, decide_eq_false_iff_not, beq_iff_eq, bne_iff_ne, beq_eq_false_iff_ne, bne_eq_false_iff_eq, Bool.not_eq_true', Bool.not_eq_false', Bool.and_eq_true, Bool.or_eq_true, Bool.or_eq_false_iff, ne_eq, Decidable.not_not, Int.not_lt, Int.not_le] at c2
      refine dwp_exit ?_
      refine dwp_seq ?_
      refine dwp_seq ?_
      obtain rfl : i = 4 := by omega
      refine dwp_region ?_
      refine walk_r rfl rfl rfl (op_fadm rfl fo26_2 (ev1 rfl)) ?_
      refine walk_r rfl rfl rfl (op_lddm rfl tb24 (ev1 rfl) rfl) ?_
      refine walk_r rfl rfl rfl (op_lenm rfl sl24 (ev1 rfl)) ?_
      refine walk_r rfl rfl rfl (op_move (.inl rfl) (ev1 rfl)) ?_
      refine walk_nil ?_
      refine dwp_block ?_
      refine dwp_loopS ⟨hs0, rfl⟩ (α := Nat) (fun k => [(53, .val (.int .i64 (k : Int)))]) [(1, _), (3, _), (51, _), (52, _)] (fun k => [(0, .flat 62 ((afts (szs f) (w.take k)).flatMap inN))]) [.hole] (fun k => k ≤ w.length ∧ (∀ i, ∀ hi : i < w.length, i < k → (afts (szs f) (w.take (i + 1))).getD (w[i]).fl.toNat 0 ≤ 4194304) ∧ ∀ i, ∀ hi : i < w.length, i < k → mayW w[i] = true) (fun k => w.length - k) 0 [0] (⟨by omega, fun i _ hi => absurd hi (Nat.not_lt_zero i), fun i _ hi => absurd hi (Nat.not_lt_zero i)⟩) rfl ⟨rfl, rfl, rfl, rfl, trivial⟩ ⟨rfl, trivial⟩ ⟨rfl, trivial⟩ ?_
      intro k hx
      simp only [upd, List.set_cons_zero, List.set_cons_succ, List.cons_append, List.nil_append]
      obtain ⟨hk, hall, hmw⟩ := hx
      have hwl := hb.2.1
      refine dwp_seq ?_
      refine dwp_region ?_
      refine walk_r rfl rfl rfl (op_lss rfl (ev1 rfl) (ev1 rfl)) ?_
      refine walk_nil ?_
      refine dwp_seq ?_
      refine dwp_cond rfl (fun c3 => ?_) (fun c3 => ?_)
      · try simp only [decide_eq_true_eq, decide_eq_false_iff_not, beq_iff_eq, bne_iff_ne, beq_eq_false_iff_ne, bne_eq_false_iff_eq, Bool.not_eq_true', Bool.not_eq_false', Bool.and_eq_true, Bool.or_eq_true, Bool.or_eq_false_iff, ne_eq, Decidable.not_not, Int.not_lt, Int.not_le] at c3
        refine dwp_skip ?_
        refine dwp_seq ?_
        refine dwp_block ?_
        refine dwp_seq ?_
        have hkl : k < w.length := by omega
        have hsl : (afts (szs f) (w.take k)).length = 4 := afts_len _ _
        have habd := afts_bd hb hkl (w[k]).fl.toNat
        refine dwp_holes 1 (by simp only [holes, List.cons_append, List.nil_append]; exact rfl) ?_
        refine dwp_region ?_
        refine walk_r rfl rfl rfl (op_ixmr (k) (by decide) rfl sl24 (ev1 rfl) (ev1 rfl) (fun _ => rfl) (by omega) (fun _ => rfl)) ?_
        refine walk_r rfl rfl rfl (op_lddr rfl tb44 (ev1 rfl) rfl rfl) ?_
        refine walk_w rfl rfl rfl (op_alloc 1 rfl zr44 rfl) (by simp only [upd, List.set_cons_zero, List.set_cons_succ]; exact rfl) ?_
        refine walk_s rfl rfl (op_stam rfl tb44 (ev1 rfl) (ev1 rfl) rfl rfl rfl rfl) (by simp only [upd, List.set_cons_zero, List.set_cons_succ]; exact rfl) ?_
        refine walk_nil ?_
        refine dwp_seq ?_
        refine dwp_seq ?_
        refine dwp_region ?_
        refine walk_r rfl rfl rfl (op_ldmw rfl tb44 (ev1 rfl) rfl rfl) ?_
        refine walk_r rfl rfl rfl (dop_call [] [] [] rfl (ev1 rfl) (ec (ev1 rfl) en) rfl rfl (rmay_d w[k]) rfl rfl rfl rfl rfl rfl) ?_
        refine walk_r rfl rfl rfl (op_not rfl (ev1 rfl)) ?_
        refine walk_nil ?_
        refine dwp_cond rfl (fun cM_ => ?_) (fun cM_ => ?_)
        · have cM : mayW w[k] = false := by simpa using cM_
          refine dwp_seq ?_
          refine dwp_region ?_
          refine walk_r rfl rfl rfl (op_move (.inr rfl) (ev1 rfl)) ?_
          refine walk_nil ?_
          refine dwp_ret ?_
          refine kend0 (rs1 rfl (rv_t rfl)) rfl ?_
          have hno : chkB f h w dn fu = false := by
            have h1 : w.all mayW = false := List.all_eq_false.2 ⟨_, List.getElem_mem hkl, by simp [cM]⟩
            unfold chkB; rw [h1, Bool.false_and, Bool.and_false]
          rw [hno]
        · have hwk : mayW w[k] = true := by simpa using cM_
          obtain ⟨hkd, hfl⟩ := mayW_in hwk
          refine dwp_skip ?_
          refine dwp_seq ?_
          refine dwp_seq ?_
          refine dwp_region ?_
          refine walk_r rfl rfl rfl (op_fa rfl fo44_0 (ev1 rfl)) ?_
          refine walk_r rfl rfl rfl (op_ldm rfl tb3 (ev1 rfl) rfl rfl) ?_
          refine walk_r rfl rfl rfl (op_eql rfl (ev1 rfl) (ev1 rfl)) ?_
          refine walk_nil ?_
          refine dwp_cond rfl (fun cK_ => ?_) (fun cK_ => ?_)
          · have cK : w[k].kd = 2 := by simpa using cK_
            have hg0 := getD_set0 (afts (szs f) (w.take k)) (w[k]).fl.toNat
            have hl0 := len0 hwk (by omega)
            refine dwp_region ?_
            refine walk_r rfl rfl rfl (op_fa rfl fo44_1 (ev1 rfl)) ?_
            refine walk_r rfl rfl rfl (op_ldm rfl tb3 (ev1 rfl) rfl rfl) ?_
            refine walk_r rfl rfl rfl (op_ixfr (j := (w[k]).fl.toNat) rfl ar62 (ev1 rfl) (ev1 rfl) (fun _ => by omega) (fun _ => by omega)) ?_
            refine walk_s rfl rfl (op_stfr (q := 0) rfl tb3 (ev1 rfl) (ev1 rfl) rfl rfl rfl (fun _ => rfl) (fun _ => by omega)) (by simp only [upd, List.set_cons_zero, List.set_cons_succ]; exact rfl) ?_
            refine walk_nil ?_
            refine dwp_seq ?_
            refine dwp_draw [([], []), ([1], []), ([], []), ([1], []), ([], []), ([0], []), ([], []), ([1], []), ([], []), ([], []), ([], []), ([0], [0])] mixed (by kernel_rfl) ?_
            refine lex_r rfl rfl (op_fa rfl fo44_1 (ev1 rfl)) ?_
            refine lex_r rfl rfl (op_ldm rfl tb3 (ev1 rfl) rfl rfl) ?_
            refine lex_r rfl rfl (op_fa rfl fo44_1 (ev1 rfl)) ?_
            refine lex_r rfl rfl (op_ldm rfl tb3 (ev1 rfl) rfl rfl) ?_
            refine lex_r rfl rfl (op_ixfr (j := (w[k]).fl.toNat) rfl ar62 (ev1 rfl) (ev1 rfl) (fun _ => by omega) (fun _ => by omega)) ?_
            refine lex_r rfl rfl (op_ldf1 (0) rfl tb3 (ev1 rfl) rfl (fun _ => rfl) (by decide) (fun _ => by first | omega | (simp only [List.length_set]; omega)) rfl) ?_
            refine lex_r rfl rfl (op_fa rfl fo44_2 (ev1 rfl)) ?_
            refine lex_r rfl rfl (op_ldm rfl tb22 (ev1 rfl) rfl rfl) ?_
            refine lex_r rfl rfl (op_len rfl sl22 (ev1 rfl)) ?_
            refine lex_r rfl rfl (op_add' rfl (ev1 rfl) (ev1 rfl) (fun _ => IntWalk.i64_in _ (by omega))) ?_
            refine lex_r rfl rfl (op_ixfr (j := (w[k]).fl.toNat) rfl ar62 (ev1 rfl) (ev1 rfl) (fun _ => by omega) (fun _ => by omega)) ?_
            refine lex_s rfl rfl (op_stfr (q := ((afts (szs f) (w.take k)).set (w[k]).fl.toNat 0).getD (w[k]).fl.toNat 0 + (w[k]).b.length) rfl tb3 (ev1 rfl) (ev1 rfl) rfl rfl rfl (fun _ => rfl) (fun _ => by simp; omega)) rfl (by simp only [upd, List.set_cons_zero, List.set_cons_succ]; exact rfl) ?_
            refine lex_nil ?_
            refine dwp_seq ?_
            refine dwp_region ?_
            refine walk_r rfl rfl rfl (op_fa rfl fo44_1 (ev1 rfl)) ?_
            refine walk_r rfl rfl rfl (op_ldm rfl tb3 (ev1 rfl) rfl rfl) ?_
            refine walk_r rfl rfl rfl (op_ixfr (j := (w[k]).fl.toNat) rfl ar62 (ev1 rfl) (ev1 rfl) (fun _ => by omega) (fun _ => by omega)) ?_
            refine walk_r rfl rfl rfl (op_ldf1 (0) rfl tb3 (ev1 rfl) rfl (fun _ => rfl) (by decide) (fun _ => by first | omega | (simp only [List.length_set]; omega)) rfl) ?_
            refine walk_r rfl rfl rfl (op_gtr rfl (ev1 rfl) (ev1 rfl)) ?_
            refine walk_nil ?_
            refine dwp_cond rfl (fun cZ => ?_) (fun cZ => ?_)
            · have cZ1 : 4194304 < (afts (szs f) (w.take (k + 1))).getD (w[k]).fl.toNat 0 := by rw [afts_succ hkl, ← r_aft2 hwk cK]; have := of_decide_eq_true cZ; omega
              refine dwp_seq ?_
              refine dwp_region ?_
              refine walk_r rfl rfl rfl (op_move (.inr rfl) (ev1 rfl)) ?_
              refine walk_nil ?_
              refine dwp_ret ?_
              refine kend0 (rs1 rfl (rv_t rfl)) rfl ?_
              have hno : chkB f h w dn fu = false := by unfold chkB; rw [szB_no hkl cZ1, Bool.and_false, Bool.and_false]
              rw [hno]
            · have cZ1 : (afts (szs f) (w.take (k + 1))).getD (w[k]).fl.toNat 0 ≤ 4194304 := by rw [afts_succ hkl, ← r_aft2 hwk cK]; have := of_decide_eq_false cZ; omega
              refine dwp_skip ?_
              refine dwp_region ?_
              refine walk_r rfl rfl rfl (op_add' rfl (ev1 rfl) (ev1 rfl) (fun _ => IntWalk.i64_in _ (by omega))) ?_
              refine walk_r rfl rfl rfl (op_move (.inl rfl) (ev1 rfl)) ?_
              refine walk_nil ?_
              refine ⟨k + 1, [0], ⟨by omega, fun i hi hi2 => by
      by_cases e : i = k
      · subst e; omega
      · exact hall i hi (by omega), fun i hi hi2 => by
      by_cases e : i = k
      · subst e; exact hwk
      · exact hmw i hi (by omega)⟩, by simp only []; omega, rfl, ⟨rfl, rfl, rfl, rfl, rfl, trivial⟩, ⟨by rw [afts_succ hkl, ← r_aft2 hwk cK]; rfl, trivial⟩⟩
          · have cK : ¬ w[k].kd = 2 := by simpa using cK_
            refine dwp_skip ?_
            refine dwp_seq ?_
            refine dwp_draw [([], []), ([1], []), ([], []), ([1], []), ([], []), ([0], []), ([], []), ([1], []), ([], []), ([], []), ([], []), ([0], [0])] mixed (by kernel_rfl) ?_
            refine lex_r rfl rfl (op_fa rfl fo44_1 (ev1 rfl)) ?_
            refine lex_r rfl rfl (op_ldm rfl tb3 (ev1 rfl) rfl rfl) ?_
            refine lex_r rfl rfl (op_fa rfl fo44_1 (ev1 rfl)) ?_
            refine lex_r rfl rfl (op_ldm rfl tb3 (ev1 rfl) rfl rfl) ?_
            refine lex_r rfl rfl (op_ixfr (j := (w[k]).fl.toNat) rfl ar62 (ev1 rfl) (ev1 rfl) (fun _ => by omega) (fun _ => by omega)) ?_
            refine lex_r rfl rfl (op_ldf1 (0) rfl tb3 (ev1 rfl) rfl (fun _ => rfl) (by decide) (fun _ => by first | omega | (simp only [List.length_set]; omega)) rfl) ?_
            refine lex_r rfl rfl (op_fa rfl fo44_2 (ev1 rfl)) ?_
            refine lex_r rfl rfl (op_ldm rfl tb22 (ev1 rfl) rfl rfl) ?_
            refine lex_r rfl rfl (op_len rfl sl22 (ev1 rfl)) ?_
            refine lex_r rfl rfl (op_add' rfl (ev1 rfl) (ev1 rfl) (fun _ => IntWalk.i64_in _ (by omega))) ?_
            refine lex_r rfl rfl (op_ixfr (j := (w[k]).fl.toNat) rfl ar62 (ev1 rfl) (ev1 rfl) (fun _ => by omega) (fun _ => by omega)) ?_
            refine lex_s rfl rfl (op_stfr (q := (afts (szs f) (w.take k)).getD (w[k]).fl.toNat 0 + (w[k]).b.length) rfl tb3 (ev1 rfl) (ev1 rfl) rfl rfl rfl (fun _ => rfl) (fun _ => by omega)) rfl (by simp only [upd, List.set_cons_zero, List.set_cons_succ]; exact rfl) ?_
            refine lex_nil ?_
            refine dwp_seq ?_
            refine dwp_region ?_
            refine walk_r rfl rfl rfl (op_fa rfl fo44_1 (ev1 rfl)) ?_
            refine walk_r rfl rfl rfl (op_ldm rfl tb3 (ev1 rfl) rfl rfl) ?_
            refine walk_r rfl rfl rfl (op_ixfr (j := (w[k]).fl.toNat) rfl ar62 (ev1 rfl) (ev1 rfl) (fun _ => by omega) (fun _ => by omega)) ?_
            refine walk_r rfl rfl rfl (op_ldf1 (0) rfl tb3 (ev1 rfl) rfl (fun _ => rfl) (by decide) (fun _ => by first | omega | (simp only [List.length_set]; omega)) rfl) ?_
            refine walk_r rfl rfl rfl (op_gtr rfl (ev1 rfl) (ev1 rfl)) ?_
            refine walk_nil ?_
            refine dwp_cond rfl (fun cZ => ?_) (fun cZ => ?_)
            · have cZ1 : 4194304 < (afts (szs f) (w.take (k + 1))).getD (w[k]).fl.toNat 0 := by rw [afts_succ hkl, ← r_aft1 hwk cK]; have := of_decide_eq_true cZ; omega
              refine dwp_seq ?_
              refine dwp_region ?_
              refine walk_r rfl rfl rfl (op_move (.inr rfl) (ev1 rfl)) ?_
              refine walk_nil ?_
              refine dwp_ret ?_
              refine kend0 (rs1 rfl (rv_t rfl)) rfl ?_
              have hno : chkB f h w dn fu = false := by unfold chkB; rw [szB_no hkl cZ1, Bool.and_false, Bool.and_false]
              rw [hno]
            · have cZ1 : (afts (szs f) (w.take (k + 1))).getD (w[k]).fl.toNat 0 ≤ 4194304 := by rw [afts_succ hkl, ← r_aft1 hwk cK]; have := of_decide_eq_false cZ; omega
              refine dwp_skip ?_
              refine dwp_region ?_
              refine walk_r rfl rfl rfl (op_add' rfl (ev1 rfl) (ev1 rfl) (fun _ => IntWalk.i64_in _ (by omega))) ?_
              refine walk_r rfl rfl rfl (op_move (.inl rfl) (ev1 rfl)) ?_
              refine walk_nil ?_
              refine ⟨k + 1, [0], ⟨by omega, fun i hi hi2 => by
      by_cases e : i = k
      · subst e; omega
      · exact hall i hi (by omega), fun i hi hi2 => by
      by_cases e : i = k
      · subst e; exact hwk
      · exact hmw i hi (by omega)⟩, by simp only []; omega, rfl, ⟨rfl, rfl, rfl, rfl, rfl, trivial⟩, ⟨by rw [afts_succ hkl, ← r_aft1 hwk cK]; rfl, trivial⟩⟩
      · try simp only [decide_eq_true_eq, decide_eq_false_iff_not, beq_iff_eq, bne_iff_ne, beq_eq_false_iff_ne, bne_eq_false_iff_eq, Bool.not_eq_true', Bool.not_eq_false', Bool.and_eq_true, Bool.or_eq_true, Bool.or_eq_false_iff, ne_eq, Decidable.not_not, Int.not_lt, Int.not_le] at c3
        refine dwp_exit ?_
        refine dwp_seq ?_
        refine dwp_seq ?_
        have hmv : w.all mayW = true := List.all_eq_true.2 fun o ho => by
          obtain ⟨i, hi, rfl⟩ := List.getElem_of_mem ho
          exact hmw i hi (by omega)
        have hsz := szB_all fun i hi => hall i hi (by omega)
        refine dwp_region ?_
        refine walk_r rfl rfl rfl (op_fadm rfl fo26_0 (ev1 rfl)) ?_
        refine walk_r rfl rfl rfl (op_lddr rfl tb23 (ev1 rfl) rfl rfl) ?_
        refine walk_r rfl rfl rfl (op_move (.inl rfl) (ev1 rfl)) ?_
        refine walk_nil ?_
        refine dwp_block ?_
        refine dwp_loopS ⟨hs0, rfl⟩ (α := Nat) (fun i => [(85, .val (.int .i64 (i : Int)))]) [(84, _)] (fun i => []) [_] (fun i => i ≤ 4 ∧ ∀ j, j < i → ((f j).length : Int) ≤ 4194304) (fun i => 4 - i) 0 [0] (⟨by omega, fun j hj => absurd hj (Nat.not_lt_zero j)⟩) rfl ⟨rfl, trivial⟩ ⟨rfl, trivial⟩ ⟨rfl, trivial⟩ ?_
        intro i hx
        simp only [upd, List.set_cons_zero, List.set_cons_succ, List.cons_append, List.nil_append]
        obtain ⟨hi, hfl⟩ := hx
        refine dwp_seq ?_
        refine dwp_region ?_
        refine walk_r rfl rfl rfl (op_lss rfl (ev1 rfl) (ev1 rfl)) ?_
        refine walk_nil ?_
        refine dwp_seq ?_
        refine dwp_cond rfl (fun c8 => ?_) (fun c8 => ?_)
        · try simp only [decide_eq_true_eq, decide_eq_false_iff_not, beq_iff_eq, bne_iff_ne, beq_eq_false_iff_ne, bne_eq_false_iff_eq, Bool.not_eq_true', Bool.not_eq_false', Bool.and_eq_true, Bool.or_eq_true, Bool.or_eq_false_iff, ne_eq, Decidable.not_not, Int.not_lt, Int.not_le] at c8
          refine dwp_skip ?_
          refine dwp_seq ?_
          refine dwp_block ?_
          refine dwp_seq ?_
          have hi4 : i < 4 := by omega
          refine dwp_region ?_
          refine walk_r rfl rfl rfl (op_ixw (i) rfl aw23 (ev1 rfl) (ev1 rfl) (fun _ => rfl) (by omega) (fcell hi4)) ?_
          refine walk_r rfl rfl rfl (op_move (.inr rfl) (ev1 rfl)) ?_
          refine walk_nil ?_
          refine dwp_seq ?_
          refine dwp_region ?_
          refine walk_r rfl rfl rfl (op_move (.inl rfl) (ev1 rfl)) ?_
          refine walk_r rfl rfl rfl (op_len rfl sl22 (ev1 rfl)) ?_
          refine walk_r rfl rfl rfl (op_gtr rfl (ev1 rfl) (ev1 rfl)) ?_
          refine walk_nil ?_
          refine dwp_cond rfl (fun cL_ => ?_) (fun cL_ => ?_)
          · have cL : 4194304 < ((f i).length : Int) := of_decide_eq_true cL_
            refine dwp_seq ?_
            refine dwp_region ?_
            refine walk_r rfl rfl rfl (op_move (.inr rfl) (ev1 rfl)) ?_
            refine walk_nil ?_
            refine dwp_ret ?_
            refine kend0 (rs1 rfl (rv_t rfl)) rfl ?_
            have hno : chkB f h w dn fu = false := by unfold chkB; rw [allF_no hi4 cL, Bool.and_false]; rfl
            rw [hno]
          · have cL : ((f i).length : Int) ≤ 4194304 := by have := of_decide_eq_false cL_; omega
            refine dwp_skip ?_
            refine dwp_region ?_
            refine walk_r rfl rfl rfl (op_add' rfl (ev1 rfl) (ev1 rfl) (fun _ => IntWalk.i64_in _ (by omega))) ?_
            refine walk_r rfl rfl rfl (op_move (.inl rfl) (ev1 rfl)) ?_
            refine walk_nil ?_
            refine ⟨i + 1, [0], ⟨by omega, fun j hj => by
      by_cases e : j = i
      · subst e; omega
      · exact hfl j (by omega)⟩, by simp only []; omega, rfl, ⟨rfl, rfl, trivial⟩, ⟨rfl, trivial⟩⟩
        · try simp only [decide_eq_true_eq, decide_eq_false_iff_not, beq_iff_eq, bne_iff_ne, beq_eq_false_iff_ne, bne_eq_false_iff_eq, Bool.not_eq_true', Bool.not_eq_false', Bool.and_eq_true, Bool.or_eq_true, Bool.or_eq_false_iff, ne_eq, Decidable.not_not, Int.not_lt, Int.not_le] at c8
          refine dwp_exit ?_
          refine dwp_seq ?_
          refine dwp_region ?_
          refine walk_r rfl rfl rfl (op_move (.inr rfl) (ev1 rfl)) ?_
          refine walk_nil ?_
          refine dwp_ret ?_
          refine kend0 (rs1 rfl (rv_t rfl)) rfl ?_
          have hyes : chkB f h w dn fu = true := by unfold chkB; rw [cA1, allF_yes fun j hj => hfl j (by omega), hmv, hsz]; rfl
          rw [hyes]
end Go.Proofs.Ytjecmkaggobcjaa

namespace Go.Proofs.Ytjecmkaggobcjaa
set_option linter.unusedVariables false
set_option linter.unusedSimpArgs false
open Go.RowKit
theorem frz_arr {P : Program} {f : FuncId} {args : List D} {T : TypeId} {sz n : Nat} {l : List D} (h : DFun P f args [] (.arr 0) [.arx T sz n l]) (hl : D.nlL l = true) : DFun P f args [] (.slm sz n l) [] := freeze h (by
  have e := vwArr_nl (σ := []) (M := [Blk.arx T sz n l]) (i := 0) rfl hl
  simpa [vw, pos] using e)
def cutO (o : DOpn) : DOpn := ⟨o.kd, o.fl, o.b.take (min o.b.length 100)⟩
def sixO (l : List DOpn) : List DOpn := l.take (min l.length 30)
def opsL (l : List DOpn) : List DOpn := (sixO l).map cutO
def fsO (l : List DOpn) (k : Nat) : List DOpn := ((sixO l).take k).map cutO
theorem sixO_len (l : List DOpn) : (sixO l).length ≤ 30 := by unfold sixO; rw [List.length_take]; omega
theorem opsL_len (l : List DOpn) : (opsL l).length ≤ 30 := by unfold opsL; rw [List.length_map]; exact sixO_len l
theorem fsO_succ {l : List DOpn} {k : Nat} (h : k < (sixO l).length) : fsO l (k + 1) = fsO l k ++ [cutO (sixO l)[k]] := by
  unfold fsO; rw [List.take_succ_eq_append_getElem h, List.map_append]; rfl
theorem fsO_len {l : List DOpn} {k : Nat} (h : k ≤ (sixO l).length) : (fsO l k).length = k := by
  unfold fsO; rw [List.length_map, List.length_take]; omega
theorem fsO_all (l : List DOpn) : fsO l (sixO l).length = opsL l := by unfold fsO opsL; rw [List.take_length]
theorem cutOn (o : DOpn) : (cutO o).b.length ≤ 100 := by unfold cutO; simp only [List.length_take]; omega
def ownF (f : Nat → List Nat) : Nat → List Nat := fun i => (f i).take (min (f i).length 300)
theorem ownF_len (f : Nat → List Nat) (i : Nat) : (ownF f i).length ≤ 300 := by unfold ownF; rw [List.length_take]; omega
theorem own_few (f : Nat → List Nat) (w : List DOpn) : fewB (szs (ownF f)) (opsL w) := by
  refine ⟨fun i => ?_, by have := opsL_len w; omega, fun o ho => ?_⟩
  · have h0 := ownF_len f 0
    have h1 := ownF_len f 1
    have h2 := ownF_len f 2
    have h3 := ownF_len f 3
    unfold szs
    match i with
    | 0 => simp; omega
    | 1 => simp; omega
    | 2 => simp; omega
    | 3 => simp; omega
    | i + 4 => simp
  · obtain ⟨q, _, rfl⟩ := List.mem_map.1 ho
    have := cutOn q
    omega
def fK (f : Nat → List Nat) (h : Int) (w : List DOpn) (dn : Bool) (fu : Int) (i : Nat) : List D := [if 0 < i then rB (f 0) else .val (.slice none 0 0), if 1 < i then rB (f 1) else .val (.slice none 0 0), if 2 < i then rB (f 2) else .val (.slice none 0 0), if 3 < i then rB (f 3) else .val (.slice none 0 0), .val (.int .i64 h), .slm 3 w.length (w.flatMap oD), .val (.bool dn), .val (.int .i64 fu)]
theorem fK_set {f : Nat → List Nat} {h : Int} {w : List DOpn} {dn : Bool} {fu : Int} {i : Nat} (hi : i < 4) : (fK f h w dn fu i).set (0 + 0 + ((i : Int)).toNat * 1) (rB (f i)) = fK f h w dn fu (i + 1) := by
  have : i = 0 ∨ i = 1 ∨ i = 2 ∨ i = 3 := by omega
  rcases this with rfl | rfl | rfl | rfl <;> rfl
theorem ite_nl {c : Prop} [Decidable c] {a b : D} (ha : a.nl = true) (hb : b.nl = true) : (if c then a else b).nl = true := by split <;> assumption
theorem fK_nl (f : Nat → List Nat) (h : Int) (w : List DOpn) (dn : Bool) (fu : Int) (i : Nat) : D.nlL (fK f h w dn fu i) = true := by
  unfold fK
  simp only [D.nlL, Bool.and_eq_true]
  exact ⟨ite_nl rfl rfl, ite_nl rfl rfl, ite_nl rfl rfl, ite_nl rfl rfl, rfl, rfl, rfl, rfl, trivial⟩
theorem mixk_fits {σ : List Nat} {V : Nat → Bool} {M : List Blk} {T : TypeId} {l l' : List D} (h : l = l') (hn : D.nlL l' = true) : (vwL σ V M l).map (Blk.mix T) = some (Blk.mix T l') := by
  subst h
  rw [vwL_nl σ V M l hn]; rfl
set_option maxRecDepth 4000 in
set_option maxHeartbeats 1000000 in
theorem ops_o (l : List DOpn) : DFun Try.prog 22 [.slm 3 (l).length ((l).flatMap oD)] [] (.arr 0) [.arx 44 3 ((opsL l)).length (((opsL l)).flatMap oD)] := by
  refine dcalls_go (N := 34) 0 (by kernel_rfl) Try.func22 rfl rfl rfl (by simp only [fr0, Nat.zero_add, Nat.reduceAdd]; exact rfl) rfl fun s0 hs0 => ?_
  refine dwp_lenm (t := 0) rfl fun hl0 hL0 => ?_
  refine dwp_seq ?_
  refine dwp_region ?_
  refine walk_r rfl rfl rfl (op_move (.inr rfl) (ev1 rfl)) ?_
  refine walk_nil ?_
  refine dwp_seq ?_
  refine dwp_region ?_
  refine walk_r rfl rfl rfl (op_move (.inr rfl) (ev1 rfl)) ?_
  refine walk_nil ?_
  refine dwp_seq ?_
  refine dwp_seq ?_
  have hs6 := sixO_len l
  have hs6e : (l.take (min l.length 30)).length = (sixO l).length := rfl
  refine dwp_region ?_
  refine walk_r rfl rfl rfl (op_move (.inl rfl) (ev1 rfl)) ?_
  refine walk_r rfl rfl rfl (op_move (.inl rfl) (ev1 rfl)) ?_
  refine walk_r rfl rfl rfl (op_lenm rfl sl24 (ev1 rfl)) ?_
  refine walk_r rfl rfl rfl (op_min rfl (ev1 rfl) (ev1 rfl)) ?_
  refine walk_r rfl rfl rfl (op_slmtk (j := min l.length 30) rfl sl24 (ev1 rfl) (bd_some (ev1 rfl)) (fun _ => by omega) (fun _ => by omega) (fun _ => rfl)) ?_
  refine walk_r rfl rfl rfl (op_lenm rfl sl24 (ev1 rfl)) ?_
  refine walk_r rfl rfl rfl (op_move (.inl rfl) (ev1 rfl)) ?_
  refine walk_nil ?_
  refine dwp_block ?_
  refine dwp_adoptx 3 44 3 rfl rfl rfl ?_
  refine dwp_loopS ⟨hs0, rfl⟩ (α := Nat) (fun k => [(12, .val (.int .i64 (k : Int)))]) [(3, _), (10, _), (11, _)] (fun k => [(0, .arx 44 3 ((fsO l k)).length (((fsO l k)).flatMap oD))]) [.hole] (fun k => k ≤ (sixO l).length) (fun k => (sixO l).length - k) 0 [0] (by simp) rfl ⟨rfl, rfl, rfl, trivial⟩ ⟨rfl, trivial⟩ ⟨rfl, trivial⟩ ?_
  intro k hx
  simp only [upd, List.set_cons_zero, List.set_cons_succ, List.cons_append, List.nil_append]
  have hk := hx
  have hfl := fsO_len hk
  refine dwp_seq ?_
  refine dwp_region ?_
  refine walk_r rfl rfl rfl (op_lss rfl (ev1 rfl) (ev1 rfl)) ?_
  refine walk_nil ?_
  refine dwp_seq ?_
  refine dwp_cond rfl (fun c1 => ?_) (fun c1 => ?_)
  · try simp only [decide_eq_true_eq, decide_eq_false_iff_not, beq_iff_eq, bne_iff_ne, beq_eq_false_iff_ne, bne_eq_false_iff_eq, Bool.not_eq_true', Bool.not_eq_false', Bool.and_eq_true, Bool.or_eq_true, Bool.or_eq_false_iff, ne_eq, Decidable.not_not, Int.not_lt, Int.not_le] at c1
    refine dwp_skip ?_
    refine dwp_seq ?_
    refine dwp_block ?_
    refine dwp_seq ?_
    have hk6 : k < (sixO l).length := by omega
    refine dwp_holes 1 (by simp only [holes, List.cons_append, List.nil_append]; exact rfl) ?_
    refine dwp_region ?_
    refine walk_r rfl rfl rfl (op_ixmr (k) (by decide) rfl sl24 (ev1 rfl) (ev1 rfl) (fun _ => rfl) ((show k < (sixO l).length by omega)) (fun _ => rfl)) ?_
    refine walk_r rfl rfl rfl (op_lddr rfl tb44 (ev1 rfl) rfl rfl) ?_
    refine walk_w rfl rfl rfl (op_alloc 1 rfl zr44 rfl) (by simp only [upd, List.set_cons_zero, List.set_cons_succ]; exact rfl) ?_
    refine walk_s rfl rfl (op_stam rfl tb44 (ev1 rfl) (ev1 rfl) rfl rfl rfl rfl) (by simp only [upd, List.set_cons_zero, List.set_cons_succ]; exact rfl) ?_
    refine walk_nil ?_
    refine dwp_holes 1 (by simp only [holes, List.cons_append, List.nil_append]; exact rfl) ?_
    refine dwp_draw [([], []), ([], []), ([1], []), ([], []), ([1], []), ([], []), ([1], []), ([], []), ([1], []), ([], []), ([], []), ([], []), ([], []), ([], []), ([], []), ([0, 2], [0, 2]), ([], [])] mixed (by kernel_rfl) ?_
    refine lex_r rfl rfl (op_move (.inl rfl) (ev1 rfl)) ?_
    refine lex_r rfl rfl (op_fa rfl fo44_0 (ev1 rfl)) ?_
    refine lex_r rfl rfl (op_ldm rfl tb3 (ev1 rfl) rfl rfl) ?_
    refine lex_r rfl rfl (op_fa rfl fo44_1 (ev1 rfl)) ?_
    refine lex_r rfl rfl (op_ldm rfl tb3 (ev1 rfl) rfl rfl) ?_
    refine lex_r rfl rfl (op_fa rfl fo44_2 (ev1 rfl)) ?_
    refine lex_r rfl rfl (op_ldm rfl tb22 (ev1 rfl) rfl rfl) ?_
    refine lex_r rfl rfl (op_fa rfl fo44_2 (ev1 rfl)) ?_
    refine lex_r rfl rfl (op_ldm rfl tb22 (ev1 rfl) rfl rfl) ?_
    refine lex_r rfl rfl (op_len rfl sl22 (ev1 rfl)) ?_
    refine lex_r rfl rfl (op_min rfl (ev1 rfl) (ev1 rfl)) ?_
    refine lex_r rfl rfl (op_sltk (j := min ((sixO l)[k]).b.length 100) rfl sl22 (ev1 rfl) (bd_some (ev1 rfl)) (fun _ => by omega) (fun _ => by omega) (fun _ => rfl)) ?_
    refine lex_r rfl rfl (dop_call [] [] [] rfl (ev1 rfl) (ec (ev1 rfl) en) rfl rfl (cloneN_f (cutO (sixO l)[k]).b (by have := cutOn (sixO l)[k]; omega)) rfl rfl rfl rfl rfl rfl) ?_
    refine lex_r rfl rfl (op_bldD (ps := [(0, .tmp 18), (1, .tmp 20), (2, .tmp 28)]) rfl fl44 zr44 (ec (ev1 rfl) (ec (ev1 rfl) (ec (ev1 rfl) en))) rfl rfl rfl) ?_
    refine lex_r rfl rfl (op_bsr (ps := [(0, .tmp 29)]) rfl sl24 zr44 rfl (ec (ev1 rfl) en) rfl rfl rfl (by rfl) rfl (by decide) (by decide)) ?_
    refine lex_w rfl rfl (op_appr (j := 2) rfl sl24 zr44 rfl (ev1 rfl) (ev1 rfl) rfl rfl (rfl) (fun _ => ⟨by omega, by omega⟩)) rfl (by simp only [upd, List.set_cons_zero, List.set_cons_succ]; exact rfl) ?_
    refine lex_r rfl rfl (op_move (.inr rfl) (ev1 rfl)) ?_
    refine lex_nil ?_
    refine dwp_region ?_
    refine walk_r rfl rfl rfl (op_add' rfl (ev1 rfl) (ev1 rfl) (fun _ => IntWalk.i64_in _ (by omega))) ?_
    refine walk_r rfl rfl rfl (op_move (.inl rfl) (ev1 rfl)) ?_
    refine walk_nil ?_
    refine ⟨k + 1, [2], by omega, by simp only []; omega, rfl, ⟨rfl, rfl, rfl, rfl, trivial⟩, ⟨arxr_fits (by rw [fsO_succ (by omega), List.length_append]; rfl) (by rw [fsO_succ (by omega), List.flatMap_append]; rfl) (ol_nl _), trivial⟩⟩
  · try simp only [decide_eq_true_eq, decide_eq_false_iff_not, beq_iff_eq, bne_iff_ne, beq_eq_false_iff_ne, bne_eq_false_iff_eq, Bool.not_eq_true', Bool.not_eq_false', Bool.and_eq_true, Bool.or_eq_true, Bool.or_eq_false_iff, ne_eq, Decidable.not_not, Int.not_lt, Int.not_le] at c1
    refine dwp_exit ?_
    refine dwp_seq ?_
    refine dwp_region ?_
    refine walk_r rfl rfl rfl (op_move (.inl rfl) (ev1 rfl)) ?_
    refine walk_r rfl rfl rfl (op_move (.inr rfl) (ev1 rfl)) ?_
    refine walk_nil ?_
    refine dwp_ret ?_
    obtain rfl : k = (sixO l).length := by omega
    refine kend [0] (rs1 rfl (rv_t rfl)) rfl rfl ?_ ⟨?_, trivial⟩
    rfl
    exact arxr_fits (by rw [fsO_all]) (by rw [fsO_all]) (ol_nl _)
theorem ops_f (l : List DOpn) : DFun Try.prog 22 [.slm 3 l.length (l.flatMap oD)] [] (.slm 3 (opsL l).length ((opsL l).flatMap oD)) [] := frz_arr (ops_o l) (ol_nl _)
set_option maxRecDepth 4000 in
set_option maxHeartbeats 1000000 in
theorem own_d (f : Nat → List Nat) (h : Int) (w : List DOpn) (dn : Bool) (fu : Int) : DFun Try.prog 10 [.agg (dD f h w dn fu)] [] (.agg (dD (ownF f) h (opsL w) dn fu)) [] := by
  refine dcalls_go (N := 33) 0 (by kernel_rfl) Try.func10 rfl rfl rfl (by simp only [fr0, Nat.zero_add, Nat.reduceAdd]; exact rfl) rfl fun s0 hs0 => ?_
  refine dwp_seq ?_
  refine dwp_holes 1 (by simp only [holes, List.cons_append, List.nil_append]; exact rfl) ?_
  refine dwp_region ?_
  refine walk_r rfl rfl rfl (op_boxf rfl rfl (ev1 rfl)) ?_
  refine walk_w rfl rfl rfl (op_alloc 0 rfl zr26 rfl) (by simp only [upd, List.set_cons_zero, List.set_cons_succ]; exact rfl) ?_
  refine walk_nil ?_
  refine dwp_seq ?_
  refine dwp_holes 1 (by simp only [holes, List.cons_append, List.nil_append]; exact rfl) ?_
  refine dwp_draw [([], []), ([], []), ([], []), ([], []), ([], []), ([], []), ([], []), ([], []), ([], []), ([], []), ([1], [1]), ([1], [1])] mixed (by kernel_rfl) ?_
  refine lex_r rfl rfl (op_fadm rfl fo26_1 (ev1 rfl)) ?_
  refine lex_r rfl rfl (op_lddm rfl tb3 (ev1 rfl) rfl) ?_
  refine lex_r rfl rfl (op_fadm rfl fo26_3 (ev1 rfl)) ?_
  refine lex_r rfl rfl (op_lddm rfl tb4 (ev1 rfl) rfl) ?_
  refine lex_r rfl rfl (op_fadm rfl fo26_4 (ev1 rfl)) ?_
  refine lex_r rfl rfl (op_lddm rfl tb3 (ev1 rfl) rfl) ?_
  refine lex_r rfl rfl (op_fadm rfl fo26_2 (ev1 rfl)) ?_
  refine lex_r rfl rfl (op_lddm rfl tb24 (ev1 rfl) rfl) ?_
  refine lex_r rfl rfl (dop_call [] [] [] rfl (ev1 rfl) (ec (ev1 rfl) en) rfl rfl (ops_f w) rfl rfl rfl rfl rfl rfl) ?_
  refine lex_r rfl rfl (op_bldD (ps := [(1, .tmp 7), (3, .tmp 9), (4, .tmp 11), (2, .tmp 14)]) rfl fl26 zr26 (ec (ev1 rfl) (ec (ev1 rfl) (ec (ev1 rfl) (ec (ev1 rfl) en)))) rfl rfl rfl) ?_
  refine lex_w rfl rfl (op_alloc 1 rfl zr26 rfl) rfl (by simp only [upd, List.set_cons_zero, List.set_cons_succ]; exact rfl) ?_
  refine lex_s rfl rfl (op_stam rfl tb26 (ev1 rfl) (ev1 rfl) rfl rfl rfl rfl) rfl (by simp only [upd, List.set_cons_zero, List.set_cons_succ]; exact rfl) ?_
  refine lex_nil ?_
  refine dwp_seq ?_
  refine dwp_seq ?_
  refine dwp_region ?_
  refine walk_r rfl rfl rfl (op_fadm rfl fo26_0 (ev1 rfl)) ?_
  refine walk_r rfl rfl rfl (op_lddr rfl tb23 (ev1 rfl) rfl rfl) ?_
  refine walk_r rfl rfl rfl (op_move (.inl rfl) (ev1 rfl)) ?_
  refine walk_nil ?_
  refine dwp_block ?_
  refine dwp_loopS ⟨hs0, rfl⟩ (α := Nat) (fun i => [(18, .val (.int .i64 (i : Int)))]) [(2, _), (3, _), (17, _)] (fun i => [(1, .mix 26 (fK (ownF f) h (opsL w) dn fu i))]) [_, .hole] (fun i => i ≤ 4) (fun i => 4 - i) 0 [0, 1] (by simp) rfl ⟨rfl, rfl, rfl, trivial⟩ ⟨rfl, trivial⟩ ⟨rfl, rfl, trivial⟩ ?_
  intro i hx
  simp only [upd, List.set_cons_zero, List.set_cons_succ, List.cons_append, List.nil_append]
  have hi := hx
  refine dwp_seq ?_
  refine dwp_region ?_
  refine walk_r rfl rfl rfl (op_lss rfl (ev1 rfl) (ev1 rfl)) ?_
  refine walk_nil ?_
  refine dwp_seq ?_
  refine dwp_cond rfl (fun c1 => ?_) (fun c1 => ?_)
  · try simp only [decide_eq_true_eq, decide_eq_false_iff_not, beq_iff_eq, bne_iff_ne, beq_eq_false_iff_ne, bne_eq_false_iff_eq, Bool.not_eq_true', Bool.not_eq_false', Bool.and_eq_true, Bool.or_eq_true, Bool.or_eq_false_iff, ne_eq, Decidable.not_not, Int.not_lt, Int.not_le] at c1
    refine dwp_skip ?_
    refine dwp_seq ?_
    refine dwp_block ?_
    refine dwp_seq ?_
    have hi4 : i < 4 := by omega
    refine dwp_region ?_
    refine walk_r rfl rfl rfl (op_move (.inl rfl) (ev1 rfl)) ?_
    refine walk_r rfl rfl rfl (op_ixw (i) rfl aw23 (ev1 rfl) (ev1 rfl) (fun _ => rfl) (by omega) (fcell hi4)) ?_
    refine walk_r rfl rfl rfl (op_move (.inr rfl) (ev1 rfl)) ?_
    refine walk_r rfl rfl rfl (op_move (.inr rfl) (ev1 rfl)) ?_
    refine walk_nil ?_
    refine dwp_region ?_
    refine walk_r rfl rfl rfl (op_move (.inl rfl) (ev1 rfl)) ?_
    refine walk_r rfl rfl rfl (op_move (.inl rfl) (ev1 rfl)) ?_
    refine walk_r rfl rfl rfl (op_move (.inl rfl) (ev1 rfl)) ?_
    refine walk_r rfl rfl rfl (op_len rfl sl22 (ev1 rfl)) ?_
    refine walk_r rfl rfl rfl (op_min rfl (ev1 rfl) (ev1 rfl)) ?_
    refine walk_r rfl rfl rfl (op_sltk (j := min (f i).length 300) rfl sl22 (ev1 rfl) (bd_some (ev1 rfl)) (fun _ => by omega) (fun _ => by omega) (fun _ => rfl)) ?_
    refine walk_r rfl rfl rfl (dop_call [] [] [] rfl (ev1 rfl) (ec (ev1 rfl) en) rfl rfl (cloneN_f (ownF f i) (by have := ownF_len f i; omega)) rfl rfl rfl rfl rfl rfl) ?_
    refine walk_r rfl rfl rfl (op_fa rfl fo26_0 (ev1 rfl)) ?_
    refine walk_r rfl rfl rfl (op_ixl rfl ar23 (ev1 rfl) (ev1 rfl) (fun _ => by omega)) ?_
    refine walk_s rfl rfl (op_stm rfl tb22 (ev1 rfl) (ev1 rfl) (fun s v h => by cases h <;> exact ⟨rfl, rfl⟩) rfl (by unfold fK; simp; omega)) (by simp only [upd, List.set_cons_zero, List.set_cons_succ]; exact rfl) ?_
    refine walk_nil ?_
    refine dwp_region ?_
    refine walk_r rfl rfl rfl (op_add' rfl (ev1 rfl) (ev1 rfl) (fun _ => IntWalk.i64_in _ (by omega))) ?_
    refine walk_r rfl rfl rfl (op_move (.inl rfl) (ev1 rfl)) ?_
    refine walk_nil ?_
    refine ⟨i + 1, [0, 1], by omega, by simp only []; omega, rfl, ⟨rfl, rfl, rfl, rfl, trivial⟩, ⟨rfl, mixk_fits (fK_set hi4) (fK_nl _ _ _ _ _ _), trivial⟩⟩
  · try simp only [decide_eq_true_eq, decide_eq_false_iff_not, beq_iff_eq, bne_iff_ne, beq_eq_false_iff_ne, bne_eq_false_iff_eq, Bool.not_eq_true', Bool.not_eq_false', Bool.and_eq_true, Bool.or_eq_true, Bool.or_eq_false_iff, ne_eq, Decidable.not_not, Int.not_lt, Int.not_le] at c1
    refine dwp_exit ?_
    refine dwp_seq ?_
    obtain rfl : i = 4 := by omega
    refine dwp_region ?_
    refine walk_r rfl rfl rfl (op_ldmw rfl tb26 (ev1 rfl) rfl rfl) ?_
    refine walk_s rfl rfl (op_stam rfl tb26 (ev1 rfl) (ev1 rfl) rfl rfl rfl rfl) (by simp only [upd, List.set_cons_zero, List.set_cons_succ]; exact rfl) ?_
    refine walk_nil ?_
    refine dwp_ret ?_
    refine kend0 (rs1 rfl (rv_mw tb26 rfl rfl rfl)) rfl ?_
    rfl
end Go.Proofs.Ytjecmkaggobcjaa

namespace Go.Proofs.Ytjecmkaggobcjaa
set_option linter.unusedVariables false
set_option linter.unusedSimpArgs false
open Go.RowKit
set_option maxRecDepth 4000 in
set_option maxHeartbeats 1000000 in
theorem readf_idle (e : Int) : DDef Try.prog 49 [.loc 0 0] [.flat 31 [.int .i64 e]] none none [.flat 31 [.int .i64 0]] := by
  refine ddef_go1 (dr := .tup []) (t := 1) (N := 3) 1 (by kernel_rfl) Try.func49 rfl rfl rfl (by simp only [fr0, Nat.zero_add, Nat.reduceAdd]; exact rfl) rfl rfl rfl rfl rfl fun s0 hs0 => ?_
  refine walk_r rfl rfl rfl (dop_call [] [] [] rfl (ev1 rfl) (ec (ev1 rfl) en) rfl rfl (told_no) rfl rfl rfl rfl rfl rfl) ?_
  refine walk_s rfl rfl (op_stwi rfl tb31 (ev1 rfl) (ev1 rfl) rfl) (by simp only [upd, List.set_cons_zero, List.set_cons_succ]; exact rfl) ?_
  refine walk_nil ?_
  refine kend [0] (res_none rfl) rfl rfl ?_ ⟨rfl, trivial⟩
  rfl
set_option maxRecDepth 4000 in
set_option maxHeartbeats 1000000 in
theorem armf_idle (e : Int) : DDef Try.prog 58 [.loc 0 0] [.flat 31 [.int .i64 e]] none none [.flat 31 [.int .i64 0]] := by
  refine ddef_go1 (dr := .tup []) (t := 1) (N := 3) 1 (by kernel_rfl) Try.func58 rfl rfl rfl (by simp only [fr0, Nat.zero_add, Nat.reduceAdd]; exact rfl) rfl rfl rfl rfl rfl fun s0 hs0 => ?_
  refine walk_r rfl rfl rfl (dop_call [] [] [] rfl (ev1 rfl) (ec (ev1 rfl) en) rfl rfl (told_no) rfl rfl rfl rfl rfl rfl) ?_
  refine walk_s rfl rfl (op_stwi rfl tb31 (ev1 rfl) (ev1 rfl) rfl) (by simp only [upd, List.set_cons_zero, List.set_cons_succ]; exact rfl) ?_
  refine walk_nil ?_
  refine kend [0] (res_none rfl) rfl rfl ?_ ⟨rfl, trivial⟩
  rfl
set_option maxRecDepth 4000 in
set_option maxHeartbeats 1000000 in
theorem armf_caught (e n : Int) : DDef Try.prog 58 [.loc 0 0] [.flat 31 [.int .i64 e]] (some (.ifc 93 (.val (.agg #[.int .i64 n])))) none [.flat 31 [.int .i64 n]] := by
  refine ddef_go1 (dr := .tup []) (t := 1) (N := 3) 1 (by kernel_rfl) Try.func58 rfl rfl rfl (by simp only [fr0, Nat.zero_add, Nat.reduceAdd]; exact rfl) rfl rfl rfl rfl rfl fun s0 hs0 => ?_
  refine walk_r rfl rfl rfl (dop_call [] [] [] rfl (ev1 rfl) (ec (ev1 rfl) en) rfl rfl (told_w n) rfl rfl rfl rfl rfl rfl) ?_
  refine walk_s rfl rfl (op_stwi rfl tb31 (ev1 rfl) (ev1 rfl) rfl) (by simp only [upd, List.set_cons_zero, List.set_cons_succ]; exact rfl) ?_
  refine walk_nil ?_
  refine kend [0] (res_none rfl) rfl rfl ?_ ⟨rfl, trivial⟩
  rfl
set_option maxRecDepth 4000 in
set_option maxHeartbeats 1000000 in
theorem fallf_idle (e : Int) : DDef Try.prog 59 [.loc 0 0] [.flat 31 [.int .i64 e]] none none [.flat 31 [.int .i64 0]] := by
  refine ddef_go1 (dr := .tup []) (t := 1) (N := 3) 1 (by kernel_rfl) Try.func59 rfl rfl rfl (by simp only [fr0, Nat.zero_add, Nat.reduceAdd]; exact rfl) rfl rfl rfl rfl rfl fun s0 hs0 => ?_
  refine walk_r rfl rfl rfl (dop_call [] [] [] rfl (ev1 rfl) (ec (ev1 rfl) en) rfl rfl (told_no) rfl rfl rfl rfl rfl rfl) ?_
  refine walk_s rfl rfl (op_stwi rfl tb31 (ev1 rfl) (ev1 rfl) rfl) (by simp only [upd, List.set_cons_zero, List.set_cons_succ]; exact rfl) ?_
  refine walk_nil ?_
  refine kend [0] (res_none rfl) rfl rfl ?_ ⟨rfl, trivial⟩
  rfl
set_option maxRecDepth 4000 in
set_option maxHeartbeats 1000000 in
theorem fallf_caught (e n : Int) : DDef Try.prog 59 [.loc 0 0] [.flat 31 [.int .i64 e]] (some (.ifc 93 (.val (.agg #[.int .i64 n])))) none [.flat 31 [.int .i64 n]] := by
  refine ddef_go1 (dr := .tup []) (t := 1) (N := 3) 1 (by kernel_rfl) Try.func59 rfl rfl rfl (by simp only [fr0, Nat.zero_add, Nat.reduceAdd]; exact rfl) rfl rfl rfl rfl rfl fun s0 hs0 => ?_
  refine walk_r rfl rfl rfl (dop_call [] [] [] rfl (ev1 rfl) (ec (ev1 rfl) en) rfl rfl (told_w n) rfl rfl rfl rfl rfl rfl) ?_
  refine walk_s rfl rfl (op_stwi rfl tb31 (ev1 rfl) (ev1 rfl) rfl) (by simp only [upd, List.set_cons_zero, List.set_cons_succ]; exact rfl) ?_
  refine walk_nil ?_
  refine kend [0] (res_none rfl) rfl rfl ?_ ⟨rfl, trivial⟩
  rfl
set_option maxRecDepth 4000 in
set_option maxHeartbeats 1000000 in
theorem risef_idle (e : Int) : DDef Try.prog 63 [.loc 0 0] [.flat 31 [.int .i64 e]] none none [.flat 31 [.int .i64 0]] := by
  refine ddef_go1 (dr := .tup []) (t := 1) (N := 3) 1 (by kernel_rfl) Try.func63 rfl rfl rfl (by simp only [fr0, Nat.zero_add, Nat.reduceAdd]; exact rfl) rfl rfl rfl rfl rfl fun s0 hs0 => ?_
  refine walk_r rfl rfl rfl (dop_call [] [] [] rfl (ev1 rfl) (ec (ev1 rfl) en) rfl rfl (told_no) rfl rfl rfl rfl rfl rfl) ?_
  refine walk_s rfl rfl (op_stwi rfl tb31 (ev1 rfl) (ev1 rfl) rfl) (by simp only [upd, List.set_cons_zero, List.set_cons_succ]; exact rfl) ?_
  refine walk_nil ?_
  refine kend [0] (res_none rfl) rfl rfl ?_ ⟨rfl, trivial⟩
  rfl
set_option maxRecDepth 4000 in
set_option maxHeartbeats 1000000 in
theorem risef_caught (e n : Int) : DDef Try.prog 63 [.loc 0 0] [.flat 31 [.int .i64 e]] (some (.ifc 93 (.val (.agg #[.int .i64 n])))) none [.flat 31 [.int .i64 n]] := by
  refine ddef_go1 (dr := .tup []) (t := 1) (N := 3) 1 (by kernel_rfl) Try.func63 rfl rfl rfl (by simp only [fr0, Nat.zero_add, Nat.reduceAdd]; exact rfl) rfl rfl rfl rfl rfl fun s0 hs0 => ?_
  refine walk_r rfl rfl rfl (dop_call [] [] [] rfl (ev1 rfl) (ec (ev1 rfl) en) rfl rfl (told_w n) rfl rfl rfl rfl rfl rfl) ?_
  refine walk_s rfl rfl (op_stwi rfl tb31 (ev1 rfl) (ev1 rfl) rfl) (by simp only [upd, List.set_cons_zero, List.set_cons_succ]; exact rfl) ?_
  refine walk_nil ?_
  refine kend [0] (res_none rfl) rfl rfl ?_ ⟨rfl, trivial⟩
  rfl
def setB (b : List Nat) (o : DOpn) : List Nat := if o.kd = 1 then b ++ o.b else if o.kd = 2 then [] else b
def seenB (n : Int) (b : List Nat) (w : List DOpn) : List Nat := w.foldl (fun b o => if o.fl = n then setB b o else b) b
theorem seenB_succ {n : Int} {b : List Nat} {w : List DOpn} {k : Nat} (hk : k < w.length) : seenB n b (w.take (k + 1)) = if w[k].fl = n then setB (seenB n b (w.take k)) w[k] else seenB n b (w.take k) := by
  unfold seenB
  rw [List.take_succ_eq_append_getElem hk, List.foldl_append]
  rfl
theorem setB_len (b : List Nat) (o : DOpn) : (setB b o).length ≤ b.length + o.b.length := by
  unfold setB
  split
  · simp
  · split
    · simp
    · omega
theorem seenB_le {n : Int} {b : List Nat} {l : List Nat} {w : List DOpn} (h : fewB l w) (hb : b.length ≤ 10000000000) : ∀ k, k ≤ w.length → (seenB n b (w.take k)).length ≤ 10000000000 + k * 10000000
  | 0, _ => by simpa [seenB] using hb
  | k + 1, hk => by
    have hk' : k < w.length := by omega
    have h2 := seenB_le (n := n) h hb k (by omega)
    have h3 := h.2.2 _ (List.getElem_mem hk')
    rw [seenB_succ hk']
    split
    · have h4 := setB_len (seenB n b (w.take k)) w[k]
      rw [Nat.succ_mul]
      exact Nat.le_trans h4 (by omega)
    · exact Nat.le_trans h2 (Nat.add_le_add_left (Nat.mul_le_mul_right _ (Nat.le_succ k)) _)
theorem seenB_bd {n : Int} {b : List Nat} {l : List Nat} {w : List DOpn} (h : fewB l w) (hb : b.length ≤ 10000000000) {k : Nat} (hk : k < w.length) : (seenB n b (w.take k)).length + w[k].b.length ≤ 1000000000000 := by
  have h2 := seenB_le (n := n) h hb k (by omega)
  have h3 := h.2.2 _ (List.getElem_mem hk)
  have h4 := h.2.1
  have h5 : k * 10000000 ≤ 10000 * 10000000 := Nat.mul_le_mul_right _ (by omega)
  omega
theorem few_f {f : Nat → List Nat} {w : List DOpn} (h : fewB (szs f) w) {i : Nat} (hi : i < 4) : (f i).length ≤ 10000000000 := by
  have h0 := h.1 i
  have : i = 0 ∨ i = 1 ∨ i = 2 ∨ i = 3 := by omega
  rcases this with rfl | rfl | rfl | rfl <;> exact h0
set_option maxRecDepth 4000 in
set_option maxHeartbeats 1000000 in
theorem settled_1 (b : List Nat) (o : DOpn) (hk : o.kd = 1) (hb : b.length + o.b.length ≤ 1000000000000) : DFun Try.prog 53 [.arr 0, .agg (oD o)] [.arr 5 1 (b).length ((b).flatMap un8)] (.arr 1) [.gone, .arr 5 1 ((setB b o)).length (((setB b o)).flatMap un8)] := by
  refine dcalls_go (N := 16) 1 (by kernel_rfl) Try.func53 rfl rfl rfl (by simp only [fr0, Nat.zero_add, Nat.reduceAdd]; exact rfl) rfl fun s0 hs0 => ?_
  refine dwp_lena (i := 0) rfl fun hl0 hL0 => ?_
  refine dwp_seq ?_
  refine dwp_holes 1 (by simp only [holes, List.cons_append, List.nil_append]; exact rfl) ?_
  refine dwp_region ?_
  refine walk_w rfl rfl rfl (op_boxam 1 rfl (ev1 rfl) rfl) (by simp only [upd, List.set_cons_zero, List.set_cons_succ]; exact rfl) ?_
  refine walk_r rfl rfl rfl (op_move (.inr rfl) (ev1 rfl)) ?_
  refine walk_nil ?_
  refine dwp_seq ?_
  refine dwp_seq ?_
  refine dwp_region ?_
  refine walk_r rfl rfl rfl (op_fa rfl fo44_0 (ev1 rfl)) ?_
  refine walk_r rfl rfl rfl (op_ldm rfl tb3 (ev1 rfl) rfl rfl) ?_
  refine walk_nil ?_
  refine dwp_block ?_
  refine dwp_seq ?_
  refine dwp_region ?_
  refine walk_r rfl rfl rfl (op_eql rfl (ev1 rfl) (ev1 rfl)) ?_
  refine walk_r rfl rfl rfl (op_move (.inr rfl) (ev1 rfl)) ?_
  refine walk_nil ?_
  refine dwp_if_t rfl (by simp [hk]) ?_
  refine dwp_seq ?_
  refine dwp_holes 1 (by simp only [holes, List.cons_append, List.nil_append]; exact rfl) ?_
  refine dwp_region ?_
  refine walk_r rfl rfl rfl (op_move (.inl rfl) (ev1 rfl)) ?_
  refine walk_r rfl rfl rfl (op_fa rfl fo44_2 (ev1 rfl)) ?_
  refine walk_r rfl rfl rfl (op_ldm rfl tb22 (ev1 rfl) rfl rfl) ?_
  refine walk_w rfl rfl rfl (op_app (j := 2) rfl sl22 zr5 rfl (ev1 rfl) (ev1 rfl) src_slf rfl rfl (fun _ => flat_oc (fun _ => rfl) _) (fun _ => ⟨by omega, by omega⟩)) (by simp only [upd, List.set_cons_zero, List.set_cons_succ]; exact rfl) ?_
  refine walk_r rfl rfl rfl (op_move (.inr rfl) (ev1 rfl)) ?_
  refine walk_nil ?_
  refine dwp_ret ?_
  refine kend [0, 2] (rs1 rfl (rv_t rfl)) rfl rfl ?_ ⟨?_, ?_, trivial⟩
  rfl
  all_goals first | exact rfl | (unfold setB; rw [if_pos hk]; exact arr_eq (by simp) (by simp))
set_option maxRecDepth 4000 in
set_option maxHeartbeats 1000000 in
theorem settled_2 (b : List Nat) (o : DOpn) (hk : o.kd = 2) : DFun Try.prog 53 [.arr 0, .agg (oD o)] [.arr 5 1 (b).length ((b).flatMap un8)] (.val (.slice none 0 0)) [.arr 5 1 (b).length ((b).flatMap un8)] := by
  refine dcalls_go (N := 16) 1 (by kernel_rfl) Try.func53 rfl rfl rfl (by simp only [fr0, Nat.zero_add, Nat.reduceAdd]; exact rfl) rfl fun s0 hs0 => ?_
  refine dwp_lena (i := 0) rfl fun hl0 hL0 => ?_
  refine dwp_seq ?_
  refine dwp_holes 1 (by simp only [holes, List.cons_append, List.nil_append]; exact rfl) ?_
  refine dwp_region ?_
  refine walk_w rfl rfl rfl (op_boxam 1 rfl (ev1 rfl) rfl) (by simp only [upd, List.set_cons_zero, List.set_cons_succ]; exact rfl) ?_
  refine walk_r rfl rfl rfl (op_move (.inr rfl) (ev1 rfl)) ?_
  refine walk_nil ?_
  refine dwp_seq ?_
  refine dwp_seq ?_
  refine dwp_region ?_
  refine walk_r rfl rfl rfl (op_fa rfl fo44_0 (ev1 rfl)) ?_
  refine walk_r rfl rfl rfl (op_ldm rfl tb3 (ev1 rfl) rfl rfl) ?_
  refine walk_nil ?_
  refine dwp_block ?_
  refine dwp_seq ?_
  refine dwp_region ?_
  refine walk_r rfl rfl rfl (op_eql rfl (ev1 rfl) (ev1 rfl)) ?_
  refine walk_r rfl rfl rfl (op_move (.inr rfl) (ev1 rfl)) ?_
  refine walk_nil ?_
  refine dwp_if_f rfl (by simp [hk]) ?_
  refine dwp_seq ?_
  refine dwp_region ?_
  refine walk_r rfl rfl rfl (op_eql rfl (ev1 rfl) (ev1 rfl)) ?_
  refine walk_r rfl rfl rfl (op_move (.inr rfl) (ev1 rfl)) ?_
  refine walk_nil ?_
  refine dwp_if_t rfl (by simp [hk]) ?_
  refine dwp_seq ?_
  refine dwp_region ?_
  refine walk_r rfl rfl rfl (op_move (.inr rfl) (ev1 rfl)) ?_
  refine walk_nil ?_
  refine dwp_ret ?_
  refine kend [0] (rs1 rfl (rv_t rfl)) rfl rfl ?_ ⟨rfl, trivial⟩
  rfl
set_option maxRecDepth 4000 in
set_option maxHeartbeats 1000000 in
theorem settled_3 (b : List Nat) (o : DOpn) (hk : o.kd ≠ 1) (hk2 : o.kd ≠ 2) : DFun Try.prog 53 [.arr 0, .agg (oD o)] [.arr 5 1 (b).length ((b).flatMap un8)] (.arr 0) [.arr 5 1 ((setB b o)).length (((setB b o)).flatMap un8)] := by
  refine dcalls_go (N := 16) 1 (by kernel_rfl) Try.func53 rfl rfl rfl (by simp only [fr0, Nat.zero_add, Nat.reduceAdd]; exact rfl) rfl fun s0 hs0 => ?_
  refine dwp_lena (i := 0) rfl fun hl0 hL0 => ?_
  refine dwp_seq ?_
  refine dwp_holes 1 (by simp only [holes, List.cons_append, List.nil_append]; exact rfl) ?_
  refine dwp_region ?_
  refine walk_w rfl rfl rfl (op_boxam 1 rfl (ev1 rfl) rfl) (by simp only [upd, List.set_cons_zero, List.set_cons_succ]; exact rfl) ?_
  refine walk_r rfl rfl rfl (op_move (.inr rfl) (ev1 rfl)) ?_
  refine walk_nil ?_
  refine dwp_seq ?_
  refine dwp_seq ?_
  refine dwp_region ?_
  refine walk_r rfl rfl rfl (op_fa rfl fo44_0 (ev1 rfl)) ?_
  refine walk_r rfl rfl rfl (op_ldm rfl tb3 (ev1 rfl) rfl rfl) ?_
  refine walk_nil ?_
  refine dwp_block ?_
  refine dwp_seq ?_
  refine dwp_region ?_
  refine walk_r rfl rfl rfl (op_eql rfl (ev1 rfl) (ev1 rfl)) ?_
  refine walk_r rfl rfl rfl (op_move (.inr rfl) (ev1 rfl)) ?_
  refine walk_nil ?_
  refine dwp_if_f rfl (by simp [hk]) ?_
  refine dwp_seq ?_
  refine dwp_region ?_
  refine walk_r rfl rfl rfl (op_eql rfl (ev1 rfl) (ev1 rfl)) ?_
  refine walk_r rfl rfl rfl (op_move (.inr rfl) (ev1 rfl)) ?_
  refine walk_nil ?_
  refine dwp_if_f rfl (by simp [hk2]) ?_
  refine dwp_skip ?_
  refine dwp_seq ?_
  refine dwp_region ?_
  refine walk_r rfl rfl rfl (op_move (.inl rfl) (ev1 rfl)) ?_
  refine walk_r rfl rfl rfl (op_move (.inr rfl) (ev1 rfl)) ?_
  refine walk_nil ?_
  refine dwp_ret ?_
  refine kend [0] (rs1 rfl (rv_t rfl)) rfl rfl ?_ ⟨?_, trivial⟩
  rfl
  all_goals first | exact rfl | (unfold setB; rw [if_neg hk, if_neg hk2]; exact rfl)
set_option maxRecDepth 4000 in
set_option maxHeartbeats 1000000 in
theorem read_o (f : Nat → List Nat) (h : Int) (w : List DOpn) (dn : Bool) (fu : Int) (n : Int) (hb : fewB (szs f) w) (hc : chkB f h w dn fu = true) (hn : fileB n = true) : DFun Try.prog 18 [.agg (dD f h w dn fu), .val (.int .i64 n)] [] (.tup [.arr 0, .val (.int .i64 0)]) [.arr 5 1 ((seenB n (f n.toNat) w)).length (((seenB n (f n.toNat) w)).flatMap un8)] := by
  refine dcalls_body (N := 37) 0 (by kernel_rfl) Try.func18 rfl rfl rfl (by simp only [fr0, Nat.zero_add, Nat.reduceAdd]; exact rfl) rfl fun s0 hs0 => ?_
  refine dbody_seq rfl hs0 ?_
  refine dwp_holes 1 (by simp only [holes, List.cons_append, List.nil_append]; exact rfl) ?_
  refine dwp_region ?_
  refine walk_r rfl rfl rfl (op_boxf rfl rfl (ev1 rfl)) ?_
  refine walk_r rfl rfl rfl (op_move (.inr rfl) (ev1 rfl)) ?_
  refine walk_w rfl rfl rfl (op_alloc 0 rfl zr31 rfl) (by simp only [upd, List.set_cons_zero, List.set_cons_succ]; exact rfl) ?_
  refine walk_nil ?_
  refine dbody_defer (l0 := [_]) rfl rfl rfl rfl rfl hs0 ?_
  refine walk_r rfl rfl rfl (op_mkf rfl en (ec (ev1 rfl) en)) ?_
  refine walk_nil ⟨_, _, _, 1, ev1 rfl, Nat.le_trans hs0 (by decide), rfl, ?_⟩
  have hs1 : s0.M.length ≤ 1 := Nat.le_trans hs0 (by decide)
  refine dbody_end rfl hs0 ?_
  refine dwp_seq ?_
  refine dwp_region ?_
  refine walk_r rfl rfl rfl (op_lddr rfl tb26 (ev1 rfl) rfl rfl) ?_
  refine walk_r rfl rfl rfl (dop_call [] [] [] rfl (ev1 rfl) (ec (ev1 rfl) en) rfl rfl (check_d f h w dn fu hb) rfl rfl rfl rfl rfl rfl) ?_
  refine walk_r rfl rfl rfl (op_eql rfl (ev1 rfl) (ev1 rfl)) ?_
  refine walk_r rfl rfl rfl (dop_call [] [] [] rfl (ev1 rfl) (ec (ev1 rfl) (ec (ev1 rfl) en)) rfl rfl (need_ok _ _ (by rw [if_pos hc]; rfl)) rfl rfl rfl rfl rfl rfl) ?_
  refine walk_nil ?_
  refine dwp_seq ?_
  refine dwp_region ?_
  refine walk_r rfl rfl rfl (op_move (.inl rfl) (ev1 rfl)) ?_
  refine walk_r rfl rfl rfl (dop_call [] [] [] rfl (ev1 rfl) (ec (ev1 rfl) en) rfl rfl (isfile_d n) rfl rfl rfl rfl rfl rfl) ?_
  refine walk_r rfl rfl rfl (dop_call [] [] [] rfl (ev1 rfl) (ec (ev1 rfl) (ec (ev1 rfl) en)) rfl rfl (need_ok _ _ (hn)) rfl rfl rfl rfl rfl rfl) ?_
  refine walk_nil ?_
  refine dwp_seq ?_
  have hfi := file_in hn
  have hn4 : n.toNat < 4 := by omega
  have hfl := few_f hb hn4
  have hfl2 : (f n.toNat).length ≤ 4194304 := by
    have h1 := hc
    unfold chkB at h1
    simp only [Bool.and_eq_true] at h1
    have h2 : allF f = true := h1.1.2
    unfold allF at h2
    simp at h2
    have : n.toNat = 0 ∨ n.toNat = 1 ∨ n.toNat = 2 ∨ n.toNat = 3 := by omega
    rcases this with e | e | e | e <;> rw [e] <;> omega
  refine dwp_holes 1 (by simp only [holes, List.cons_append, List.nil_append]; exact rfl) ?_
  refine dwp_region ?_
  refine walk_r rfl rfl rfl (op_move (.inl rfl) (ev1 rfl)) ?_
  refine walk_r rfl rfl rfl (op_fadm rfl fo26_0 (ev1 rfl)) ?_
  refine walk_r rfl rfl rfl (op_ixpm (n.toNat) rfl ar23 (ev1 rfl) (ev1 rfl) (fun _ => by omega) (fun _ => hn4)) ?_
  refine walk_r rfl rfl rfl (op_lddm rfl tb22 (ev1 rfl) (fcell_d hn4)) ?_
  refine walk_w rfl rfl rfl (dop_call [] [] [1] rfl (ev1 rfl) (ec (ev1 rfl) en) rfl rfl (cloneN (f n.toNat) (by omega)) rfl rfl rfl rfl rfl rfl) (by simp only [upd, List.set_cons_zero, List.set_cons_succ]; exact rfl) ?_
  refine walk_r rfl rfl rfl (op_move (.inr rfl) (ev1 rfl)) ?_
  refine walk_nil ?_
  refine dwp_seq ?_
  refine dwp_seq ?_
  refine dwp_region ?_
  refine walk_r rfl rfl rfl (op_fadm rfl fo26_2 (ev1 rfl)) ?_
  refine walk_r rfl rfl rfl (op_lddm rfl tb24 (ev1 rfl) rfl) ?_
  refine walk_r rfl rfl rfl (op_lenm rfl sl24 (ev1 rfl)) ?_
  refine walk_r rfl rfl rfl (op_move (.inl rfl) (ev1 rfl)) ?_
  refine walk_nil ?_
  refine dwp_block ?_
  refine dwp_loopS ⟨hs1, rfl⟩ (α := Nat) (fun k => [(24, .val (.int .i64 (k : Int)))]) [(1, _), (4, _), (5, _), (22, _), (23, _)] (fun k => [(1, .arr 5 1 ((seenB n (f n.toNat) (w.take k))).length (((seenB n (f n.toNat) (w.take k))).flatMap un8))]) [_, .hole] (fun k => k ≤ w.length) (fun k => w.length - k) 0 [0, 1] (by simp) rfl ⟨rfl, rfl, rfl, rfl, rfl, trivial⟩ ⟨rfl, trivial⟩ ⟨rfl, rfl, trivial⟩ ?_
  intro k hx
  simp only [upd, List.set_cons_zero, List.set_cons_succ, List.cons_append, List.nil_append]
  have hk := hx
  have hwl := hb.2.1
  refine dwp_seq ?_
  refine dwp_region ?_
  refine walk_r rfl rfl rfl (op_lss rfl (ev1 rfl) (ev1 rfl)) ?_
  refine walk_nil ?_
  refine dwp_seq ?_
  refine dwp_cond rfl (fun c1 => ?_) (fun c1 => ?_)
  · try simp only [decide_eq_true_eq, decide_eq_false_iff_not, beq_iff_eq, bne_iff_ne, beq_eq_false_iff_ne, bne_eq_false_iff_eq, Bool.not_eq_true', Bool.not_eq_false', Bool.and_eq_true, Bool.or_eq_true, Bool.or_eq_false_iff, ne_eq, Decidable.not_not, Int.not_lt, Int.not_le] at c1
    refine dwp_skip ?_
    refine dwp_seq ?_
    refine dwp_block ?_
    refine dwp_seq ?_
    have hkl : k < w.length := by omega
    have hbd := seenB_bd (n := n) hb hfl hkl
    refine dwp_holes 1 (by simp only [holes, List.cons_append, List.nil_append]; exact rfl) ?_
    refine dwp_region ?_
    refine walk_r rfl rfl rfl (op_ixmr (k) (by decide) rfl sl24 (ev1 rfl) (ev1 rfl) (fun _ => rfl) (by omega) (fun _ => rfl)) ?_
    refine walk_r rfl rfl rfl (op_lddr rfl tb44 (ev1 rfl) rfl rfl) ?_
    refine walk_w rfl rfl rfl (op_alloc 2 rfl zr44 rfl) (by simp only [upd, List.set_cons_zero, List.set_cons_succ]; exact rfl) ?_
    refine walk_s rfl rfl (op_stam rfl tb44 (ev1 rfl) (ev1 rfl) rfl rfl rfl rfl) (by simp only [upd, List.set_cons_zero, List.set_cons_succ]; exact rfl) ?_
    refine walk_nil ?_
    refine dwp_seq ?_
    by_cases k1 : w[k].kd = 1
    · refine dwp_region ?_
      refine walk_r rfl rfl rfl (op_fa rfl fo44_1 (ev1 rfl)) ?_
      refine walk_r rfl rfl rfl (op_ldm rfl tb3 (ev1 rfl) rfl rfl) ?_
      refine walk_r rfl rfl rfl (op_move (.inl rfl) (ev1 rfl)) ?_
      refine walk_r rfl rfl rfl (op_eql rfl (ev1 rfl) (ev1 rfl)) ?_
      refine walk_nil ?_
      refine dwp_cond rfl (fun cE_ => ?_) (fun cE_ => ?_)
      · have cE : w[k].fl = n := by simpa using cE_
        refine dwp_holes 1 (by simp only [holes, List.cons_append, List.nil_append]; exact rfl) ?_
        refine dwp_region ?_
        refine walk_r rfl rfl rfl (op_move (.inl rfl) (ev1 rfl)) ?_
        refine walk_r rfl rfl rfl (op_ldmw rfl tb44 (ev1 rfl) rfl rfl) ?_
        refine walk_w rfl rfl rfl (dop_call [1] [] [3] rfl (ev1 rfl) (ec (ev1 rfl) (ec (ev1 rfl) en)) rfl rfl (settled_1 (seenB n (f n.toNat) (w.take k)) w[k] k1 hbd) rfl rfl rfl rfl rfl rfl) (by simp only [upd, List.set_cons_zero, List.set_cons_succ]; exact rfl) ?_
        refine walk_r rfl rfl rfl (op_move (.inr rfl) (ev1 rfl)) ?_
        refine walk_nil ?_
        refine dwp_region ?_
        refine walk_r rfl rfl rfl (op_add' rfl (ev1 rfl) (ev1 rfl) (fun _ => IntWalk.i64_in _ (by omega))) ?_
        refine walk_r rfl rfl rfl (op_move (.inl rfl) (ev1 rfl)) ?_
        refine walk_nil ?_
        refine ⟨k + 1, [0, 3], by omega, by simp only []; omega, rfl, ⟨rfl, rfl, rfl, rfl, rfl, rfl, trivial⟩, ⟨rfl, by rw [seenB_succ hkl, if_pos cE]; exact rfl, trivial⟩⟩
      · have cE : ¬ w[k].fl = n := by simpa using cE_
        refine dwp_skip ?_
        refine dwp_region ?_
        refine walk_r rfl rfl rfl (op_add' rfl (ev1 rfl) (ev1 rfl) (fun _ => IntWalk.i64_in _ (by omega))) ?_
        refine walk_r rfl rfl rfl (op_move (.inl rfl) (ev1 rfl)) ?_
        refine walk_nil ?_
        refine ⟨k + 1, [0, 1], by omega, by simp only []; omega, rfl, ⟨rfl, rfl, rfl, rfl, rfl, rfl, trivial⟩, ⟨rfl, by rw [seenB_succ hkl, if_neg cE]; exact rfl, trivial⟩⟩
    · refine dwp_region ?_
      refine walk_r rfl rfl rfl (op_fa rfl fo44_1 (ev1 rfl)) ?_
      refine walk_r rfl rfl rfl (op_ldm rfl tb3 (ev1 rfl) rfl rfl) ?_
      refine walk_r rfl rfl rfl (op_move (.inl rfl) (ev1 rfl)) ?_
      refine walk_r rfl rfl rfl (op_eql rfl (ev1 rfl) (ev1 rfl)) ?_
      refine walk_nil ?_
      refine dwp_cond rfl (fun cE_ => ?_) (fun cE_ => ?_)
      · have cE : w[k].fl = n := by simpa using cE_
        by_cases k2 : w[k].kd = 2
        · refine dwp_region ?_
          refine walk_r rfl rfl rfl (op_move (.inl rfl) (ev1 rfl)) ?_
          refine walk_r rfl rfl rfl (op_ldmw rfl tb44 (ev1 rfl) rfl rfl) ?_
          refine walk_w rfl rfl rfl (dop_call [1] [] [] rfl (ev1 rfl) (ec (ev1 rfl) (ec (ev1 rfl) en)) rfl rfl (settled_2 (seenB n (f n.toNat) (w.take k)) w[k] k2) rfl rfl rfl rfl rfl rfl) (by simp only [upd, List.set_cons_zero, List.set_cons_succ]; exact rfl) ?_
          refine walk_r rfl rfl rfl (op_move (.inr rfl) (ev1 rfl)) ?_
          refine walk_nil ?_
          refine dwp_adopt 4 5 1 rfl rfl rfl ?_
          refine dwp_region ?_
          refine walk_r rfl rfl rfl (op_add' rfl (ev1 rfl) (ev1 rfl) (fun _ => IntWalk.i64_in _ (by omega))) ?_
          refine walk_r rfl rfl rfl (op_move (.inl rfl) (ev1 rfl)) ?_
          refine walk_nil ?_
          refine ⟨k + 1, [0, 3], by omega, by simp only []; omega, rfl, ⟨rfl, rfl, rfl, rfl, rfl, rfl, trivial⟩, ⟨rfl, by rw [seenB_succ hkl, if_pos cE]; unfold setB; rw [if_neg k1, if_pos k2]; exact rfl, trivial⟩⟩
        · refine dwp_region ?_
          refine walk_r rfl rfl rfl (op_move (.inl rfl) (ev1 rfl)) ?_
          refine walk_r rfl rfl rfl (op_ldmw rfl tb44 (ev1 rfl) rfl rfl) ?_
          refine walk_w rfl rfl rfl (dop_call [1] [] [] rfl (ev1 rfl) (ec (ev1 rfl) (ec (ev1 rfl) en)) rfl rfl (settled_3 (seenB n (f n.toNat) (w.take k)) w[k] k1 k2) rfl rfl rfl rfl rfl rfl) (by simp only [upd, List.set_cons_zero, List.set_cons_succ]; exact rfl) ?_
          refine walk_r rfl rfl rfl (op_move (.inr rfl) (ev1 rfl)) ?_
          refine walk_nil ?_
          refine dwp_region ?_
          refine walk_r rfl rfl rfl (op_add' rfl (ev1 rfl) (ev1 rfl) (fun _ => IntWalk.i64_in _ (by omega))) ?_
          refine walk_r rfl rfl rfl (op_move (.inl rfl) (ev1 rfl)) ?_
          refine walk_nil ?_
          refine ⟨k + 1, [0, 1], by omega, by simp only []; omega, rfl, ⟨rfl, rfl, rfl, rfl, rfl, rfl, trivial⟩, ⟨rfl, by rw [seenB_succ hkl, if_pos cE]; exact rfl, trivial⟩⟩
      · have cE : ¬ w[k].fl = n := by simpa using cE_
        refine dwp_skip ?_
        refine dwp_region ?_
        refine walk_r rfl rfl rfl (op_add' rfl (ev1 rfl) (ev1 rfl) (fun _ => IntWalk.i64_in _ (by omega))) ?_
        refine walk_r rfl rfl rfl (op_move (.inl rfl) (ev1 rfl)) ?_
        refine walk_nil ?_
        refine ⟨k + 1, [0, 1], by omega, by simp only []; omega, rfl, ⟨rfl, rfl, rfl, rfl, rfl, rfl, trivial⟩, ⟨rfl, by rw [seenB_succ hkl, if_neg cE]; exact rfl, trivial⟩⟩
  · try simp only [decide_eq_true_eq, decide_eq_false_iff_not, beq_iff_eq, bne_iff_ne, beq_eq_false_iff_ne, bne_eq_false_iff_eq, Bool.not_eq_true', Bool.not_eq_false', Bool.and_eq_true, Bool.or_eq_true, Bool.or_eq_false_iff, ne_eq, Decidable.not_not, Int.not_lt, Int.not_le] at c1
    refine dwp_exit ?_
    refine dwp_seq ?_
    refine dwp_region ?_
    refine walk_r rfl rfl rfl (op_move (.inl rfl) (ev1 rfl)) ?_
    refine walk_r rfl rfl rfl (op_move (.inr rfl) (ev1 rfl)) ?_
    refine walk_s rfl rfl (op_stwi rfl tb31 (ev1 rfl) (ev1 rfl) rfl) (by simp only [upd, List.set_cons_zero, List.set_cons_succ]; exact rfl) ?_
    refine walk_nil ?_
    refine dwp_ret ?_
    obtain rfl : k = w.length := by omega
    rw [List.take_length]
    refine kdef (dturn_idle [0] [] rfl rfl (readf_idle _) rfl rfl rfl rfl rfl) ?_
    refine kend [1] (rs2 rfl (rv_t rfl) (rv_1 tb31 rfl rfl rfl)) rfl rfl ?_ ⟨?_, trivial⟩
    rfl
    all_goals exact rfl
end Go.Proofs.Ytjecmkaggobcjaa

namespace Go.Proofs.Ytjecmkaggobcjaa
set_option linter.unusedVariables false
set_option linter.unusedSimpArgs false
open Go.RowKit
def updF (f : Nat → List Nat) (j : Nat) (v : List Nat) : Nat → List Nat := fun i => if i = j then v else f i
theorem dD_set {f : Nat → List Nat} {h : Int} {w : List DOpn} {dn : Bool} {fu : Int} {z : Int} (v : List Nat) (hz : 0 ≤ z ∧ z < 4) : (dD f h w dn fu).set (0 + 0 + z.toNat * 1) (rB v) = dD (updF f z.toNat v) h w dn fu := by
  have : z = 0 ∨ z = 1 ∨ z = 2 ∨ z = 3 := by omega
  rcases this with rfl | rfl | rfl | rfl <;> rfl
theorem fcell_m {f : Nat → List Nat} {h : Int} {w : List DOpn} {dn : Bool} {fu : Int} {z : Int} (hz : 0 ≤ z ∧ z < 4) : (dD f h w dn fu)[0 + 0 + z.toNat * 1]? = some (rB (f z.toNat)) := by
  have : z = 0 ∨ z = 1 ∨ z = 2 ∨ z = 3 := by omega
  rcases this with rfl | rfl | rfl | rfl <;> rfl
def doF (f : Nat → List Nat) (o : DOpn) : Nat → List Nat := if o.kd = 1 then updF f o.fl.toNat (f o.fl.toNat ++ o.b) else if o.kd = 2 then updF f o.fl.toNat [] else f
def doH (h : Int) (o : DOpn) : Int := if o.kd = 1 then h else if o.kd = 2 then h else o.fl
set_option maxRecDepth 4000 in
set_option maxHeartbeats 1000000 in
theorem rdone_1 (f : Nat → List Nat) (h : Int) (w : List DOpn) (dn : Bool) (fu : Int) (o : DOpn) (hk : o.kd = 1) (hf : 0 ≤ o.fl ∧ o.fl < 4) (hb : (f o.fl.toNat).length + o.b.length ≤ 1000000000000) : DFun Try.prog 48 [.agg (dD f h w dn fu), .agg (oD o)] [] (.agg (dD (updF f o.fl.toNat (f o.fl.toNat ++ o.b)) h w dn fu)) [] := by
  refine dcalls_go (N := 33) 0 (by kernel_rfl) Try.func48 rfl rfl rfl (by simp only [fr0, Nat.zero_add, Nat.reduceAdd]; exact rfl) rfl fun s0 hs0 => ?_
  refine dwp_seq ?_
  refine dwp_holes 3 (by simp only [holes, List.cons_append, List.nil_append]; exact rfl) ?_
  refine dwp_region ?_
  refine walk_w rfl rfl rfl (op_boxam 0 rfl (ev1 rfl) rfl) (by simp only [upd, List.set_cons_zero, List.set_cons_succ]; exact rfl) ?_
  refine walk_w rfl rfl rfl (op_boxam 1 rfl (ev1 rfl) rfl) (by simp only [upd, List.set_cons_zero, List.set_cons_succ]; exact rfl) ?_
  refine walk_w rfl rfl rfl (op_alloc 2 rfl zr26 rfl) (by simp only [upd, List.set_cons_zero, List.set_cons_succ]; exact rfl) ?_
  refine walk_nil ?_
  refine dwp_seq ?_
  refine dwp_seq ?_
  refine dwp_region ?_
  refine walk_r rfl rfl rfl (op_fa rfl fo44_0 (ev1 rfl)) ?_
  refine walk_r rfl rfl rfl (op_ldm rfl tb3 (ev1 rfl) rfl rfl) ?_
  refine walk_nil ?_
  refine dwp_block ?_
  refine dwp_seq ?_
  refine dwp_region ?_
  refine walk_r rfl rfl rfl (op_eql rfl (ev1 rfl) (ev1 rfl)) ?_
  refine walk_r rfl rfl rfl (op_move (.inr rfl) (ev1 rfl)) ?_
  refine walk_nil ?_
  refine dwp_if_t rfl (by simp [hk]) ?_
  refine dwp_holes 3 (by simp only [holes, List.cons_append, List.nil_append]; exact rfl) ?_
  refine dwp_draw [([], []), ([1], []), ([3], [3]), ([], []), ([1], []), ([], []), ([], []), ([0], []), ([3, 4], [3, 4]), ([], []), ([1], []), ([4, 5], [4, 5]), ([], []), ([], []), ([0], [0])] mixed (by kernel_rfl) ?_
  refine lex_r rfl rfl (op_fa rfl fo44_1 (ev1 rfl)) ?_
  refine lex_r rfl rfl (op_ldm rfl tb3 (ev1 rfl) rfl rfl) ?_
  refine lex_w rfl rfl (op_bsa (ps := []) 3 rfl sl22 zr5 rfl vn rfl (by decide) (by decide) rfl) rfl (by simp only [upd, List.set_cons_zero, List.set_cons_succ]; exact rfl) ?_
  refine lex_r rfl rfl (op_fa rfl fo44_1 (ev1 rfl)) ?_
  refine lex_r rfl rfl (op_ldm rfl tb3 (ev1 rfl) rfl rfl) ?_
  refine lex_r rfl rfl (op_fa rfl fo26_0 (ev1 rfl)) ?_
  refine lex_r rfl rfl (op_ixl rfl ar23 (ev1 rfl) (ev1 rfl) (fun _ => by omega)) ?_
  refine lex_r rfl rfl (op_ldm rfl tb22 (ev1 rfl) rfl (fcell_m hf)) ?_
  refine lex_w rfl rfl (op_app (j := 4) rfl sl22 zr5 rfl (ev1 rfl) (ev1 rfl) src_slf rfl rfl (fun _ => flat_oc (fun _ => rfl) _) (fun _ => ⟨by omega, by omega⟩)) rfl (by simp only [upd, List.set_cons_zero, List.set_cons_succ]; exact rfl) ?_
  refine lex_r rfl rfl (op_fa rfl fo44_2 (ev1 rfl)) ?_
  refine lex_r rfl rfl (op_ldm rfl tb22 (ev1 rfl) rfl rfl) ?_
  refine lex_w rfl rfl ((op_app (j := 5) rfl sl22 zr5 rfl (ev1 rfl) (ev1 rfl) src_slf rfl rfl (fun _ => flat_oc (fun _ => rfl) _) (fun _ => ⟨by omega, by omega⟩)).giveA2 rfl rfl) rfl (by simp only [upd, List.set_cons_zero, List.set_cons_succ]; exact rfl) ?_
  refine lex_r rfl rfl (op_fa rfl fo26_0 (ev1 rfl)) ?_
  refine lex_r rfl rfl (op_ixl rfl ar23 (ev1 rfl) (ev1 rfl) (fun _ => by omega)) ?_
  refine lex_s rfl rfl (op_stm rfl tb22 (ev1 rfl) (ev1 rfl) (fun s v h => by cases h <;> exact ⟨rfl, rfl⟩) rfl (by show 0 + 0 + o.fl.toNat * 1 < 8; omega)) rfl (by simp only [upd, List.set_cons_zero, List.set_cons_succ]; exact rfl) ?_
  refine lex_nil ?_
  refine dwp_seq ?_
  rw [show (0 + (f o.fl.toNat).length + o.b.length) = (f o.fl.toNat ++ o.b).length by simp, show (List.flatMap (fun v : Value => v.cells.toList) [] ++ List.flatMap un8 (f o.fl.toNat) ++ List.flatMap un8 o.b) = (f o.fl.toNat ++ o.b).flatMap un8 by simp, dD_set _ hf]
  refine dwp_region ?_
  refine walk_r rfl rfl rfl (op_ldmw rfl tb26 (ev1 rfl) rfl rfl) ?_
  refine walk_s rfl rfl (op_stam rfl tb26 (ev1 rfl) (ev1 rfl) rfl rfl rfl rfl) (by simp only [upd, List.set_cons_zero, List.set_cons_succ]; exact rfl) ?_
  refine walk_nil ?_
  refine dwp_ret ?_
  refine kend0 (rs1 rfl (rv_mw tb26 rfl rfl rfl)) rfl ?_
  rfl
set_option maxRecDepth 4000 in
set_option maxHeartbeats 1000000 in
theorem rdone_2 (f : Nat → List Nat) (h : Int) (w : List DOpn) (dn : Bool) (fu : Int) (o : DOpn) (hk : o.kd = 2) (hf : 0 ≤ o.fl ∧ o.fl < 4) : DFun Try.prog 48 [.agg (dD f h w dn fu), .agg (oD o)] [] (.agg (dD (updF f o.fl.toNat []) h w dn fu)) [] := by
  refine dcalls_go (N := 33) 0 (by kernel_rfl) Try.func48 rfl rfl rfl (by simp only [fr0, Nat.zero_add, Nat.reduceAdd]; exact rfl) rfl fun s0 hs0 => ?_
  refine dwp_seq ?_
  refine dwp_holes 3 (by simp only [holes, List.cons_append, List.nil_append]; exact rfl) ?_
  refine dwp_region ?_
  refine walk_w rfl rfl rfl (op_boxam 0 rfl (ev1 rfl) rfl) (by simp only [upd, List.set_cons_zero, List.set_cons_succ]; exact rfl) ?_
  refine walk_w rfl rfl rfl (op_boxam 1 rfl (ev1 rfl) rfl) (by simp only [upd, List.set_cons_zero, List.set_cons_succ]; exact rfl) ?_
  refine walk_w rfl rfl rfl (op_alloc 2 rfl zr26 rfl) (by simp only [upd, List.set_cons_zero, List.set_cons_succ]; exact rfl) ?_
  refine walk_nil ?_
  refine dwp_seq ?_
  refine dwp_seq ?_
  refine dwp_region ?_
  refine walk_r rfl rfl rfl (op_fa rfl fo44_0 (ev1 rfl)) ?_
  refine walk_r rfl rfl rfl (op_ldm rfl tb3 (ev1 rfl) rfl rfl) ?_
  refine walk_nil ?_
  refine dwp_block ?_
  refine dwp_seq ?_
  refine dwp_region ?_
  refine walk_r rfl rfl rfl (op_eql rfl (ev1 rfl) (ev1 rfl)) ?_
  refine walk_r rfl rfl rfl (op_move (.inr rfl) (ev1 rfl)) ?_
  refine walk_nil ?_
  refine dwp_if_f rfl (by simp [hk]) ?_
  refine dwp_seq ?_
  refine dwp_region ?_
  refine walk_r rfl rfl rfl (op_eql rfl (ev1 rfl) (ev1 rfl)) ?_
  refine walk_r rfl rfl rfl (op_move (.inr rfl) (ev1 rfl)) ?_
  refine walk_nil ?_
  refine dwp_if_t rfl (by simp [hk]) ?_
  refine dwp_region ?_
  refine walk_r rfl rfl rfl (op_fa rfl fo44_1 (ev1 rfl)) ?_
  refine walk_r rfl rfl rfl (op_ldm rfl tb3 (ev1 rfl) rfl rfl) ?_
  refine walk_r rfl rfl rfl (op_fa rfl fo26_0 (ev1 rfl)) ?_
  refine walk_r rfl rfl rfl (op_ixl rfl ar23 (ev1 rfl) (ev1 rfl) (fun _ => by omega)) ?_
  refine walk_s rfl rfl (op_stm rfl tb22 (ev1 rfl) (evnil 1 (ev1 rfl)) (fun s v h => by cases h <;> exact ⟨rfl, rfl⟩) rfl (by show 0 + 0 + o.fl.toNat * 1 < 8; omega)) (by simp only [upd, List.set_cons_zero, List.set_cons_succ]; exact rfl) ?_
  refine walk_nil ?_
  refine dwp_seq ?_
  rw [show D.slf 1 0 [] = rB [] from rfl, dD_set [] hf]
  refine dwp_region ?_
  refine walk_r rfl rfl rfl (op_ldmw rfl tb26 (ev1 rfl) rfl rfl) ?_
  refine walk_s rfl rfl (op_stam rfl tb26 (ev1 rfl) (ev1 rfl) rfl rfl rfl rfl) (by simp only [upd, List.set_cons_zero, List.set_cons_succ]; exact rfl) ?_
  refine walk_nil ?_
  refine dwp_ret ?_
  refine kend0 (rs1 rfl (rv_mw tb26 rfl rfl rfl)) rfl ?_
  rfl
set_option maxRecDepth 4000 in
set_option maxHeartbeats 1000000 in
theorem rdone_3 (f : Nat → List Nat) (h : Int) (w : List DOpn) (dn : Bool) (fu : Int) (o : DOpn) (hk : o.kd ≠ 1) (hk2 : o.kd ≠ 2) : DFun Try.prog 48 [.agg (dD f h w dn fu), .agg (oD o)] [] (.agg (dD f o.fl w dn fu)) [] := by
  refine dcalls_go (N := 33) 0 (by kernel_rfl) Try.func48 rfl rfl rfl (by simp only [fr0, Nat.zero_add, Nat.reduceAdd]; exact rfl) rfl fun s0 hs0 => ?_
  refine dwp_seq ?_
  refine dwp_holes 3 (by simp only [holes, List.cons_append, List.nil_append]; exact rfl) ?_
  refine dwp_region ?_
  refine walk_w rfl rfl rfl (op_boxam 0 rfl (ev1 rfl) rfl) (by simp only [upd, List.set_cons_zero, List.set_cons_succ]; exact rfl) ?_
  refine walk_w rfl rfl rfl (op_boxam 1 rfl (ev1 rfl) rfl) (by simp only [upd, List.set_cons_zero, List.set_cons_succ]; exact rfl) ?_
  refine walk_w rfl rfl rfl (op_alloc 2 rfl zr26 rfl) (by simp only [upd, List.set_cons_zero, List.set_cons_succ]; exact rfl) ?_
  refine walk_nil ?_
  refine dwp_seq ?_
  refine dwp_seq ?_
  refine dwp_region ?_
  refine walk_r rfl rfl rfl (op_fa rfl fo44_0 (ev1 rfl)) ?_
  refine walk_r rfl rfl rfl (op_ldm rfl tb3 (ev1 rfl) rfl rfl) ?_
  refine walk_nil ?_
  refine dwp_block ?_
  refine dwp_seq ?_
  refine dwp_region ?_
  refine walk_r rfl rfl rfl (op_eql rfl (ev1 rfl) (ev1 rfl)) ?_
  refine walk_r rfl rfl rfl (op_move (.inr rfl) (ev1 rfl)) ?_
  refine walk_nil ?_
  refine dwp_if_f rfl (by simp [hk]) ?_
  refine dwp_seq ?_
  refine dwp_region ?_
  refine walk_r rfl rfl rfl (op_eql rfl (ev1 rfl) (ev1 rfl)) ?_
  refine walk_r rfl rfl rfl (op_move (.inr rfl) (ev1 rfl)) ?_
  refine walk_nil ?_
  refine dwp_if_f rfl (by simp [hk2]) ?_
  refine dwp_region ?_
  refine walk_r rfl rfl rfl (op_fa rfl fo44_1 (ev1 rfl)) ?_
  refine walk_r rfl rfl rfl (op_ldm rfl tb3 (ev1 rfl) rfl rfl) ?_
  refine walk_r rfl rfl rfl (op_fa rfl fo26_1 (ev1 rfl)) ?_
  refine walk_s rfl rfl (op_stm rfl tb3 (ev1 rfl) (ev1 rfl) (fun s v h => by cases h <;> exact ⟨rfl, rfl⟩) rfl (by first | decide | exact Nat.le_of_ble_eq_true rfl | simp)) (by simp only [upd, List.set_cons_zero, List.set_cons_succ]; exact rfl) ?_
  refine walk_nil ?_
  refine dwp_seq ?_
  refine dwp_region ?_
  refine walk_r rfl rfl rfl (op_ldmw rfl tb26 (ev1 rfl) rfl rfl) ?_
  refine walk_s rfl rfl (op_stam rfl tb26 (ev1 rfl) (ev1 rfl) rfl rfl rfl rfl) (by simp only [upd, List.set_cons_zero, List.set_cons_succ]; exact rfl) ?_
  refine walk_nil ?_
  refine dwp_ret ?_
  refine kend0 (rs1 rfl (rv_mw tb26 rfl rfl rfl)) rfl ?_
  rfl
theorem rdone_d (f : Nat → List Nat) (h : Int) (w : List DOpn) (dn : Bool) (fu : Int) (o : DOpn) (ho : mayW o = true) (hb : ∀ i, i < 4 → (f i).length + o.b.length ≤ 1000000000000) : DFun Try.prog 48 [.agg (dD f h w dn fu), .agg (oD o)] [] (.agg (dD (doF f o) (doH h o) w dn fu)) [] := by
  obtain ⟨_, hf⟩ := mayW_in ho
  unfold doF doH
  by_cases k1 : o.kd = 1
  · rw [if_pos k1, if_pos k1]
    exact rdone_1 f h w dn fu o k1 hf (hb _ (by omega))
  · rw [if_neg k1, if_neg k1]
    by_cases k2 : o.kd = 2
    · rw [if_pos k2, if_pos k2]
      exact rdone_2 f h w dn fu o k2 hf
    · rw [if_neg k2, if_neg k2]
      exact rdone_3 f h w dn fu o k1 k2
theorem doF_at {f : Nat → List Nat} {o : DOpn} (ho : mayW o = true) (i : Nat) : doF f o i = if o.fl = (i : Int) then setB (f i) o else f i := by
  obtain ⟨_, hf⟩ := mayW_in ho
  unfold doF setB updF
  by_cases e : o.fl = (i : Int)
  · have e2 : o.fl.toNat = i := by omega
    rw [if_pos e, e2]
    by_cases k1 : o.kd = 1
    · rw [if_pos k1, if_pos k1, if_pos rfl]
    · rw [if_neg k1, if_neg k1]
      by_cases k2 : o.kd = 2
      · rw [if_pos k2, if_pos k2, if_pos rfl]
      · rw [if_neg k2, if_neg k2]
  · have e2 : ¬ i = o.fl.toNat := by omega
    rw [if_neg e]
    by_cases k1 : o.kd = 1
    · rw [if_pos k1, if_neg e2]
    · rw [if_neg k1]
      by_cases k2 : o.kd = 2
      · rw [if_pos k2, if_neg e2]
      · rw [if_neg k2]
def seF (f : Nat → List Nat) (w : List DOpn) : Nat → List Nat := w.foldl doF f
def seH (h : Int) (w : List DOpn) : Int := w.foldl doH h
theorem seF_succ {f : Nat → List Nat} {w : List DOpn} {k : Nat} (hk : k < w.length) : seF f (w.take (k + 1)) = doF (seF f (w.take k)) w[k] := by
  unfold seF
  rw [List.take_succ_eq_append_getElem hk, List.foldl_append]
  rfl
theorem seH_succ {h : Int} {w : List DOpn} {k : Nat} (hk : k < w.length) : seH h (w.take (k + 1)) = doH (seH h (w.take k)) w[k] := by
  unfold seH
  rw [List.take_succ_eq_append_getElem hk, List.foldl_append]
  rfl
theorem seF_seen (i : Nat) : ∀ (w : List DOpn) (f : Nat → List Nat), (∀ o ∈ w, mayW o = true) → seF f w i = seenB (i : Int) (f i) w
  | [], _, _ => rfl
  | o :: w, f, h => by
    have h1 := seF_seen i w (doF f o) fun q hq => h q (List.mem_cons_of_mem _ hq)
    have h2 := doF_at (f := f) (h o (List.mem_cons_self ..)) i
    show seF (doF f o) w i = seenB (i : Int) (if o.fl = (i : Int) then setB (f i) o else f i) w
    rw [h1, h2]
set_option maxRecDepth 4000 in
set_option maxHeartbeats 1000000 in
theorem rseen_d (f : Nat → List Nat) (h : Int) (w : List DOpn) (dn : Bool) (fu : Int) (hw : ∀ o ∈ w, mayW o = true) (hb : fewB (szs f) w) : DFun Try.prog 15 [.agg (dD f h w dn fu)] [] (.agg (dD (seF f w) (seH h w) w dn fu)) [] := by
  refine dcalls_go (N := 17) 0 (by kernel_rfl) Try.func15 rfl rfl rfl (by simp only [fr0, Nat.zero_add, Nat.reduceAdd]; exact rfl) rfl fun s0 hs0 => ?_
  refine dwp_seq ?_
  refine dwp_holes 2 (by simp only [holes, List.cons_append, List.nil_append]; exact rfl) ?_
  refine dwp_region ?_
  refine walk_w rfl rfl rfl (op_boxam 0 rfl (ev1 rfl) rfl) (by simp only [upd, List.set_cons_zero, List.set_cons_succ]; exact rfl) ?_
  refine walk_w rfl rfl rfl (op_alloc 1 rfl zr26 rfl) (by simp only [upd, List.set_cons_zero, List.set_cons_succ]; exact rfl) ?_
  refine walk_nil ?_
  refine dwp_seq ?_
  refine dwp_seq ?_
  refine dwp_region ?_
  refine walk_r rfl rfl rfl (op_fa rfl fo26_2 (ev1 rfl)) ?_
  refine walk_r rfl rfl rfl (op_ldm rfl tb24 (ev1 rfl) rfl rfl) ?_
  refine walk_r rfl rfl rfl (op_lenm rfl sl24 (ev1 rfl)) ?_
  refine walk_r rfl rfl rfl (op_move (.inl rfl) (ev1 rfl)) ?_
  refine walk_nil ?_
  refine dwp_block ?_
  refine dwp_loopS ⟨hs0, rfl⟩ (α := Nat) (fun k => [(8, .val (.int .i64 (k : Int)))]) [(1, _), (2, _), (6, _), (7, _)] (fun k => [(0, .mix 26 (dD (seF f (w.take k)) (seH h (w.take k)) w dn fu))]) [.hole, _] (fun k => k ≤ w.length) (fun k => w.length - k) 0 [0, 1] (by simp) rfl ⟨rfl, rfl, rfl, rfl, trivial⟩ ⟨rfl, trivial⟩ ⟨rfl, rfl, trivial⟩ ?_
  intro k hx
  simp only [upd, List.set_cons_zero, List.set_cons_succ, List.cons_append, List.nil_append]
  have hk := hx
  have hwl := hb.2.1
  refine dwp_seq ?_
  refine dwp_region ?_
  refine walk_r rfl rfl rfl (op_lss rfl (ev1 rfl) (ev1 rfl)) ?_
  refine walk_nil ?_
  refine dwp_seq ?_
  refine dwp_cond rfl (fun c1 => ?_) (fun c1 => ?_)
  · try simp only [decide_eq_true_eq, decide_eq_false_iff_not, beq_iff_eq, bne_iff_ne, beq_eq_false_iff_ne, bne_eq_false_iff_eq, Bool.not_eq_true', Bool.not_eq_false', Bool.and_eq_true, Bool.or_eq_true, Bool.or_eq_false_iff, ne_eq, Decidable.not_not, Int.not_lt, Int.not_le] at c1
    refine dwp_skip ?_
    refine dwp_seq ?_
    refine dwp_block ?_
    refine dwp_seq ?_
    have hkl : k < w.length := by omega
    refine dwp_holes 1 (by simp only [holes, List.cons_append, List.nil_append]; exact rfl) ?_
    refine dwp_region ?_
    refine walk_r rfl rfl rfl (op_ixmr (k) (by decide) rfl sl24 (ev1 rfl) (ev1 rfl) (fun _ => rfl) (by omega) (fun _ => rfl)) ?_
    refine walk_r rfl rfl rfl (op_lddr rfl tb44 (ev1 rfl) rfl rfl) ?_
    refine walk_w rfl rfl rfl (op_alloc 2 rfl zr44 rfl) (by simp only [upd, List.set_cons_zero, List.set_cons_succ]; exact rfl) ?_
    refine walk_s rfl rfl (op_stam rfl tb44 (ev1 rfl) (ev1 rfl) rfl rfl rfl rfl) (by simp only [upd, List.set_cons_zero, List.set_cons_succ]; exact rfl) ?_
    refine walk_nil ?_
    have hbd : ∀ i, i < 4 → (seF f (w.take k) i).length + (w[k]).b.length ≤ 1000000000000 := fun i hi => by
      rw [seF_seen i _ _ fun o ho => hw o (List.mem_of_mem_take ho)]
      exact seenB_bd hb (few_f hb hi) hkl
    refine dwp_region ?_
    refine walk_r rfl rfl rfl (op_ldmw rfl tb26 (ev1 rfl) rfl rfl) ?_
    refine walk_r rfl rfl rfl (op_ldmw rfl tb44 (ev1 rfl) rfl rfl) ?_
    refine walk_r rfl rfl rfl (dop_call [] [] [] rfl (ev1 rfl) (ec (ev1 rfl) (ec (ev1 rfl) en)) rfl rfl (rdone_d (seF f (w.take k)) (seH h (w.take k)) w dn fu w[k] (hw _ (List.getElem_mem hkl)) hbd) rfl rfl rfl rfl rfl rfl) ?_
    refine walk_s rfl rfl (op_stmw rfl tb26 (ev1 rfl) (ev1 rfl) rfl rfl rfl rfl) (by simp only [upd, List.set_cons_zero, List.set_cons_succ]; exact rfl) ?_
    refine walk_nil ?_
    refine dwp_region ?_
    refine walk_r rfl rfl rfl (op_add' rfl (ev1 rfl) (ev1 rfl) (fun _ => IntWalk.i64_in _ (by omega))) ?_
    refine walk_r rfl rfl rfl (op_move (.inl rfl) (ev1 rfl)) ?_
    refine walk_nil ?_
    refine ⟨k + 1, [0, 1], by omega, by simp only []; omega, rfl, ⟨rfl, rfl, rfl, rfl, rfl, trivial⟩, ⟨by rw [seF_succ hkl, seH_succ hkl]; rfl, rfl, trivial⟩⟩
  · try simp only [decide_eq_true_eq, decide_eq_false_iff_not, beq_iff_eq, bne_iff_ne, beq_eq_false_iff_ne, bne_eq_false_iff_eq, Bool.not_eq_true', Bool.not_eq_false', Bool.and_eq_true, Bool.or_eq_true, Bool.or_eq_false_iff, ne_eq, Decidable.not_not, Int.not_lt, Int.not_le] at c1
    refine dwp_exit ?_
    refine dwp_seq ?_
    obtain rfl : k = w.length := by omega
    rw [List.take_length]
    refine dwp_region ?_
    refine walk_r rfl rfl rfl (op_ldmw rfl tb26 (ev1 rfl) rfl rfl) ?_
    refine walk_s rfl rfl (op_stam rfl tb26 (ev1 rfl) (ev1 rfl) rfl rfl rfl rfl) (by simp only [upd, List.set_cons_zero, List.set_cons_succ]; exact rfl) ?_
    refine walk_nil ?_
    refine dwp_ret ?_
    refine kend0 (rs1 rfl (rv_mw tb26 rfl rfl rfl)) rfl ?_
    rfl
set_option maxRecDepth 4000 in
set_option maxHeartbeats 1000000 in
theorem new_d : DFun Try.prog 17 [] [] (.val (.agg #[.slice none 0 0, .slice none 0 0, .slice none 0 0, .slice none 0 0, .int .i64 0, .slice none 0 0, .bool false, .int .i64 0])) [] := by
  refine dcalls_go (N := 2) 0 (by kernel_rfl) Try.func17 rfl rfl rfl (by simp only [fr0, Nat.zero_add, Nat.reduceAdd]; exact rfl) rfl fun s0 hs0 => ?_
  refine dwp_seq ?_
  refine dwp_holes 1 (by simp only [holes, List.cons_append, List.nil_append]; exact rfl) ?_
  refine dwp_region ?_
  refine walk_w rfl rfl rfl (op_alloc 0 rfl zr26 rfl) (by simp only [upd, List.set_cons_zero, List.set_cons_succ]; exact rfl) ?_
  refine walk_nil ?_
  refine dwp_seq ?_
  refine dwp_region ?_
  refine walk_r rfl rfl rfl (op_build0 rfl fl26 zr26) ?_
  refine walk_s rfl rfl (op_stwa rfl tb26 (ev1 rfl) (ev1 rfl) rfl rfl rfl rfl) (by simp only [upd, List.set_cons_zero, List.set_cons_succ]; exact rfl) ?_
  refine walk_nil ?_
  refine dwp_ret ?_
  refine kend0 (rs1 rfl (rv_w tb26 rfl rfl rfl)) rfl ?_
  rfl
end Go.Proofs.Ytjecmkaggobcjaa

namespace Go.Proofs.Ytjecmkaggobcjaa
set_option linter.unusedVariables false
set_option linter.unusedSimpArgs false
open Go.RowKit
def rowB (l : List Nat) : Mem := .arr 5 1 l.length (l.flatMap un8)
theorem clone_F (l : List Nat) (h : l.length ≤ 100000000) (Bs : List Mem) {k : Nat} (hk : Bs.length = k) : DFun Try.prog 38 [rB (l.take l.length)] [.fam Bs] (.farr 0 k) [.fam (Bs ++ [rowB l])] := by
  subst hk
  rw [List.take_length]
  exact DFun.absR (Min := []) (Mout := []) Bs 0 (cloneN l h) rfl rfl rfl rfl rfl rfl rfl rfl rfl
set_option maxRecDepth 4000 in
set_option maxHeartbeats 1000000 in
theorem copied_o (p : DOpn) (h : p.b.length ≤ 100000000) : DFun Try.prog 68 [.agg (oD p)] [] (.agg [.val (.int .i64 p.kd), .val (.int .i64 p.fl), .arr 0]) [.arr 5 1 p.b.length (p.b.flatMap un8)] := by
  refine dcalls_go (N := 8) 0 (by kernel_rfl) Try.func68 rfl rfl rfl (by simp only [fr0, Nat.zero_add, Nat.reduceAdd]; exact rfl) rfl fun s0 hs0 => ?_
  refine dwp_seq ?_
  refine dwp_holes 2 (by simp only [holes, List.cons_append, List.nil_append]; exact rfl) ?_
  refine dwp_region ?_
  refine walk_w rfl rfl rfl (op_boxam 0 rfl (ev1 rfl) rfl) (by simp only [upd, List.set_cons_zero, List.set_cons_succ]; exact rfl) ?_
  refine walk_w rfl rfl rfl (op_alloc 1 rfl zr44 rfl) (by simp only [upd, List.set_cons_zero, List.set_cons_succ]; exact rfl) ?_
  refine walk_nil ?_
  refine dwp_seq ?_
  refine dwp_holes 1 (by simp only [holes, List.cons_append, List.nil_append]; exact rfl) ?_
  refine dwp_region ?_
  refine walk_r rfl rfl rfl (op_fa rfl fo44_2 (ev1 rfl)) ?_
  refine walk_r rfl rfl rfl (op_ldm rfl tb22 (ev1 rfl) rfl rfl) ?_
  refine walk_w rfl rfl rfl (dop_call [] [] [2] rfl (ev1 rfl) (ec (ev1 rfl) en) rfl rfl (cloneN p.b h) rfl rfl rfl rfl rfl rfl) (by simp only [upd, List.set_cons_zero, List.set_cons_succ]; exact rfl) ?_
  refine walk_r rfl rfl rfl (op_fa rfl fo44_2 (ev1 rfl)) ?_
  refine walk_s rfl rfl (op_stm rfl tb22 (ev1 rfl) (ev1 rfl) (fun s v h => by cases h <;> exact ⟨rfl, rfl⟩) rfl (by first | decide | exact Nat.le_of_ble_eq_true rfl | simp)) (by simp only [upd, List.set_cons_zero, List.set_cons_succ]; exact rfl) ?_
  refine walk_nil ?_
  refine dwp_seq ?_
  refine dwp_region ?_
  refine walk_r rfl rfl rfl (op_ldmw rfl tb44 (ev1 rfl) rfl rfl) ?_
  refine walk_s rfl rfl (op_stam rfl tb44 (ev1 rfl) (ev1 rfl) rfl rfl rfl rfl) (by simp only [upd, List.set_cons_zero, List.set_cons_succ]; exact rfl) ?_
  refine walk_nil ?_
  refine dwp_ret ?_
  refine kend [2] (rs1 rfl (rv_mw tb44 rfl rfl rfl)) rfl rfl ?_ ⟨rfl, trivial⟩
  rfl
abbrev oF (i : Nat) (q : DOpn × Nat) : List D := [.val (.int .i64 q.1.kd), .val (.int .i64 q.1.fl), .farr i q.2]
theorem copied_F (p : DOpn) (h : p.b.length ≤ 100000000) (Bs : List Mem) {k : Nat} (hk : Bs.length = k) : DFun Try.prog 68 [.agg (oD p)] [.fam Bs] (.agg [.val (.int .i64 p.kd), .val (.int .i64 p.fl), .farr 0 k]) [.fam (Bs ++ [rowB p.b])] := by
  subst hk
  exact DFun.abs (B := rowB p.b) (Bs := Bs) (Min := []) (Mout := []) (g := fun i k => .agg [.val (.int .i64 p.kd), .val (.int .i64 p.fl), .farr i k]) (d' := .agg [.val (.int .i64 p.kd), .val (.int .i64 p.fl), .arr 1]) 0 (copied_o p h) rfl rfl rfl rfl rfl rfl rfl rfl rfl (fun s v hr _ hs h1 h2 => by
    cases hr with
    | @agg _ vs hl h =>
      refine .agg hl fun j d v hj hv => ?_
      match j, hj with
      | 0, hj => exact h 0 d v hj hv
      | 1, hj => exact h 1 d v hj hv
      | 2, hj =>
        cases hj
        have h3 := h 2 _ v rfl hv
        cases h3 with
        | arr hb => exact .farr h1 (h2 _ hb)
      | j + 3, hj => simp at hj) rfl rfl rfl rfl rfl
def fB (f : Nat → List Nat) (i : Nat) : List Mem := [rowB (f 0), rowB (f 1), rowB (f 2), rowB (f 3)].take i
theorem fB_len {f : Nat → List Nat} {i : Nat} (h : i ≤ 4) : (fB f i).length = i := by unfold fB; rw [List.length_take]; simp; omega
theorem fB_succ {f : Nat → List Nat} {i : Nat} (h : i < 4) : fB f i ++ [rowB (f i)] = fB f (i + 1) := by
  have : i = 0 ∨ i = 1 ∨ i = 2 ∨ i = 3 := by omega
  rcases this with rfl | rfl | rfl | rfl <;> rfl
def gK (f : Nat → List Nat) (h : Int) (w : List DOpn) (dn : Bool) (fu : Int) (i : Nat) : List D := [if 0 < i then .farr 0 0 else rB (f 0), if 1 < i then .farr 0 1 else rB (f 1), if 2 < i then .farr 0 2 else rB (f 2), if 3 < i then .farr 0 3 else rB (f 3), .val (.int .i64 h), .slm 3 w.length (w.flatMap oD), .val (.bool dn), .val (.int .i64 fu)]
theorem gK_set {f : Nat → List Nat} {h : Int} {w : List DOpn} {dn : Bool} {fu : Int} {i : Nat} (hi : i < 4) : (gK f h w dn fu i).set (0 + 0 + ((i : Int)).toNat * 1) (.farr 0 i) = gK f h w dn fu (i + 1) := by
  have : i = 0 ∨ i = 1 ∨ i = 2 ∨ i = 3 := by omega
  rcases this with rfl | rfl | rfl | rfl <;> rfl
theorem ite_lt {m : Nat} {c : Prop} [Decidable c] {a b : D} (ha : a.lt m = true) (hb : b.lt m = true) : (if c then a else b).lt m = true := by split <;> assumption
theorem gK_lt (f : Nat → List Nat) (h : Int) (w : List DOpn) (dn : Bool) (fu : Int) (i : Nat) : D.ltL 1 (gK f h w dn fu i) = true := by
  unfold gK
  simp only [D.ltL, Bool.and_eq_true]
  exact ⟨ite_lt rfl rfl, ite_lt rfl rfl, ite_lt rfl rfl, ite_lt rfl rfl, rfl, rfl, rfl, rfl, trivial⟩
theorem mixl_fits {m : Nat} {σ : List Nat} {V : Nat → Bool} {M : List Blk} {T : TypeId} {l l' : List D} (hσ : okσ m σ = true) (h : l = l') (hn : D.ltL m l' = true) : (vwL σ V M l).map (Blk.mix T) = some (Blk.mix T l') := by
  subst h
  rw [vwL_lt hσ l hn]; rfl
def famO (w : List DOpn) : List Mem := w.map fun o => rowB o.b
theorem famO_succ {w : List DOpn} {k : Nat} (h : k < w.length) : famO (w.take k) ++ [rowB w[k].b] = famO (w.take (k + 1)) := by
  unfold famO; rw [List.take_succ_eq_append_getElem h, List.map_append]; rfl
theorem ox_snoc (i n : Nat) (P : List DOpn) (p : DOpn) {k : Nat} (hk : n + P.length = k) : (P.zipIdx n).flatMap (oF i) ++ [.val (.int .i64 p.kd), .val (.int .i64 p.fl), .farr i k] = ((P ++ [p]).zipIdx n).flatMap (oF i) := by
  subst hk
  rw [List.zipIdx_append, List.flatMap_append]
  simp
theorem ox_fits {σ : List Nat} {V : Nat → Bool} {M : List Blk} {T : TypeId} {i j n n' : Nat} {l : List D} {Q : List (DOpn × Nat)} (hn : n = n') (hl : l = Q.flatMap (oF i)) (hp : pos σ i = some j) : (vwL σ V M l).map (Blk.arx T 3 n) = some (Blk.arx T 3 n' (Q.flatMap (oF j))) := by
  subst hl
  exact arxs_fits hn rfl fun a => by simp [vwL, vw, hp]
set_option maxRecDepth 4000 in
set_option maxHeartbeats 1000000 in
theorem chof_F (f : Nat → List Nat) (h : Int) (w : List DOpn) (dn : Bool) (fu : Int) (hF : ∀ i, i < 4 → (f i).length ≤ 100000000) (hb : fewB (szs f) w) : DFun Try.prog 56 [.agg (dD f h w dn fu)] [.fam []] (.loc 1 0) [.fam (fB f 4 ++ famO w), .mix 86 [.farr 0 0, .farr 0 1, .farr 0 2, .farr 0 3, .val (.int .i64 h), .arr 2, .val (.bool dn), .val (.int .i64 fu)], .arx 44 3 (w).length (((w).zipIdx 4).flatMap (oF 0))] := by
  refine dcalls_go (N := 48) 1 (by kernel_rfl) Try.func56 rfl rfl rfl (by simp only [fr0, Nat.zero_add, Nat.reduceAdd]; exact rfl) rfl fun s0 hs0 => ?_
  refine dwp_seq ?_
  refine dwp_holes 1 (by simp only [holes, List.cons_append, List.nil_append]; exact rfl) ?_
  refine dwp_region ?_
  refine walk_w rfl rfl rfl (op_boxam 1 rfl (ev1 rfl) rfl) (by simp only [upd, List.set_cons_zero, List.set_cons_succ]; exact rfl) ?_
  refine walk_r rfl rfl rfl (op_move (.inr rfl) (ev1 rfl)) ?_
  refine walk_nil ?_
  refine dwp_seq ?_
  refine dwp_seq ?_
  refine dwp_region ?_
  refine walk_r rfl rfl rfl (op_fa rfl fo26_0 (ev1 rfl)) ?_
  refine walk_r rfl rfl rfl (op_ldmp rfl tb23 (ev1 rfl) rfl rfl rfl) ?_
  refine walk_r rfl rfl rfl (op_move (.inl rfl) (ev1 rfl)) ?_
  refine walk_nil ?_
  refine dwp_block ?_
  refine dwp_loopS ⟨hs0, rfl⟩ (α := Nat) (fun i => [(10, .val (.int .i64 (i : Int)))]) [(1, _), (9, _)] (fun i => [(0, .fam (fB f i)), (1, .mix 26 (gK f h w dn fu i))]) [.hole, .hole] (fun i => i ≤ 4) (fun i => 4 - i) 0 [0, 1] (by simp) rfl ⟨rfl, rfl, trivial⟩ ⟨rfl, trivial⟩ ⟨rfl, rfl, trivial⟩ ?_
  intro i hx
  simp only [upd, List.set_cons_zero, List.set_cons_succ, List.cons_append, List.nil_append]
  have hi := hx
  refine dwp_seq ?_
  refine dwp_region ?_
  refine walk_r rfl rfl rfl (op_lss rfl (ev1 rfl) (ev1 rfl)) ?_
  refine walk_nil ?_
  refine dwp_seq ?_
  refine dwp_cond rfl (fun c1 => ?_) (fun c1 => ?_)
  · try simp only [decide_eq_true_eq, decide_eq_false_iff_not, beq_iff_eq, bne_iff_ne, beq_eq_false_iff_ne, bne_eq_false_iff_eq, Bool.not_eq_true', Bool.not_eq_false', Bool.and_eq_true, Bool.or_eq_true, Bool.or_eq_false_iff, ne_eq, Decidable.not_not, Int.not_lt, Int.not_le] at c1
    refine dwp_skip ?_
    refine dwp_seq ?_
    refine dwp_block ?_
    refine dwp_seq ?_
    have hi4 : i < 4 := by omega
    have hfl := hF i hi4
    refine dwp_region ?_
    refine walk_r rfl rfl rfl (op_move (.inl rfl) (ev1 rfl)) ?_
    refine walk_r rfl rfl rfl (op_ixw (i) rfl aw23 (ev1 rfl) (ev1 rfl) (fun _ => rfl) (by omega) (fcell hi4)) ?_
    refine walk_r rfl rfl rfl (op_move (.inr rfl) (ev1 rfl)) ?_
    refine walk_r rfl rfl rfl (op_move (.inr rfl) (ev1 rfl)) ?_
    refine walk_nil ?_
    refine dwp_region ?_
    refine walk_r rfl rfl rfl (op_move (.inl rfl) (ev1 rfl)) ?_
    refine walk_r rfl rfl rfl (op_move (.inl rfl) (ev1 rfl)) ?_
    refine walk_r rfl rfl rfl (op_move (.inl rfl) (ev1 rfl)) ?_
    refine walk_r rfl rfl rfl (op_len rfl sl22 (ev1 rfl)) ?_
    refine walk_r rfl rfl rfl (op_move (.inl rfl) (ev1 rfl)) ?_
    refine walk_r rfl rfl rfl (op_len rfl sl22 (ev1 rfl)) ?_
    refine walk_r rfl rfl rfl (op_sl3f (j := (f i).length) rfl sl22 (ev1 rfl) (ev1 rfl) (ev1 rfl) (fun hp => by first | omega | (simp at hp; omega)) (fun hp => by first | omega | (simp at hp; omega)) (fun hp => by first | omega | (simp at hp; omega)) (fun _ => rfl)) ?_
    refine walk_w rfl rfl rfl (dop_call [0] [] [] rfl (ev1 rfl) (ec (ev1 rfl) en) rfl rfl (clone_F (f i) (by omega) (fB f i) (k := i) (fB_len (by omega))) rfl rfl rfl rfl rfl rfl) (by simp only [upd, List.set_cons_zero, List.set_cons_succ]; exact rfl) ?_
    refine walk_r rfl rfl rfl (op_fa rfl fo26_0 (ev1 rfl)) ?_
    refine walk_r rfl rfl rfl (op_ixl rfl ar23 (ev1 rfl) (ev1 rfl) (fun _ => by omega)) ?_
    refine walk_s rfl rfl (op_stm rfl tb22 (ev1 rfl) (ev1 rfl) (fun s v h => by cases h <;> exact ⟨rfl, rfl⟩) rfl (by show 0 + 0 + ((i : Int)).toNat * 1 < 8; omega)) (by simp only [upd, List.set_cons_zero, List.set_cons_succ]; exact rfl) ?_
    refine walk_nil ?_
    refine dwp_region ?_
    refine walk_r rfl rfl rfl (op_add' rfl (ev1 rfl) (ev1 rfl) (fun _ => IntWalk.i64_in _ (by omega))) ?_
    refine walk_r rfl rfl rfl (op_move (.inl rfl) (ev1 rfl)) ?_
    refine walk_nil ?_
    refine ⟨i + 1, [0, 1], by omega, by simp only []; omega, rfl, ⟨rfl, rfl, rfl, trivial⟩, ⟨congrArg (fun b => some (Blk.fam b)) (fB_succ hi4), mixl_fits (m := 1) rfl (gK_set hi4) (gK_lt _ _ _ _ _ _), trivial⟩⟩
  · try simp only [decide_eq_true_eq, decide_eq_false_iff_not, beq_iff_eq, bne_iff_ne, beq_eq_false_iff_ne, bne_eq_false_iff_eq, Bool.not_eq_true', Bool.not_eq_false', Bool.and_eq_true, Bool.or_eq_true, Bool.or_eq_false_iff, ne_eq, Decidable.not_not, Int.not_lt, Int.not_le] at c1
    refine dwp_exit ?_
    refine dwp_seq ?_
    obtain rfl : i = 4 := by omega
    have hwl := hb.2.1
    rw [show gK f h w dn fu 4 = [.farr 0 0, .farr 0 1, .farr 0 2, .farr 0 3, .val (.int .i64 h), .slm 3 w.length (w.flatMap oD), .val (.bool dn), .val (.int .i64 fu)] from rfl]
    refine dwp_holes 1 (by simp only [holes, List.cons_append, List.nil_append]; exact rfl) ?_
    refine dwp_region ?_
    refine walk_r rfl rfl rfl (op_fa rfl fo26_2 (ev1 rfl)) ?_
    refine walk_r rfl rfl rfl (op_ldm rfl tb24 (ev1 rfl) rfl rfl) ?_
    refine walk_r rfl rfl rfl (op_lenm rfl sl24 (ev1 rfl)) ?_
    refine walk_r rfl rfl rfl (op_add' rfl (ev1 rfl) (ev1 rfl) (fun _ => IntWalk.i64_in _ (by omega))) ?_
    refine walk_w rfl rfl rfl (op_mk0 2 (w.length + 1) rfl sl24 zr44 (ev1 rfl) (ev1 rfl) (fun _ => rfl) (fun _ => rfl) rfl (fun _ => by omega)) (by simp only [upd, List.set_cons_zero, List.set_cons_succ]; exact rfl) ?_
    refine walk_r rfl rfl rfl (op_move (.inr rfl) (ev1 rfl)) ?_
    refine walk_nil ?_
    refine dwp_seq ?_
    refine dwp_seq ?_
    refine dwp_region ?_
    refine walk_r rfl rfl rfl (op_fa rfl fo26_2 (ev1 rfl)) ?_
    refine walk_r rfl rfl rfl (op_ldm rfl tb24 (ev1 rfl) rfl rfl) ?_
    refine walk_r rfl rfl rfl (op_lenm rfl sl24 (ev1 rfl)) ?_
    refine walk_r rfl rfl rfl (op_move (.inl rfl) (ev1 rfl)) ?_
    refine walk_nil ?_
    refine dwp_block ?_
    refine dwp_reb 2 reb_arx rfl rfl (by simp only [List.cons_append, List.nil_append, List.set_cons_zero, List.set_cons_succ, List.map]; exact rfl) ?_
    refine dwp_loopS ⟨hs0, rfl⟩ (α := Nat) (fun k => [(33, .val (.int .i64 (k : Int)))]) [(1, _), (5, _), (31, _), (32, _)] (fun k => [(0, .fam (fB f 4 ++ famO (w.take k))), (2, .arx 44 3 ((w.take k)).length ((((w.take k)).zipIdx 4).flatMap (oF 0)))]) [.hole, _, .hole] (fun k => k ≤ w.length) (fun k => w.length - k) 0 [0, 1, 2] (by simp) rfl ⟨rfl, rfl, rfl, rfl, trivial⟩ ⟨rfl, trivial⟩ ⟨rfl, rfl, rfl, trivial⟩ ?_
    intro k hx
    simp only [upd, List.set_cons_zero, List.set_cons_succ, List.cons_append, List.nil_append]
    have hk := hx
    have hql : (w.take k).length = k := by rw [List.length_take]; omega
    refine dwp_seq ?_
    refine dwp_region ?_
    refine walk_r rfl rfl rfl (op_lss rfl (ev1 rfl) (ev1 rfl)) ?_
    refine walk_nil ?_
    refine dwp_seq ?_
    refine dwp_cond rfl (fun c2 => ?_) (fun c2 => ?_)
    · try simp only [decide_eq_true_eq, decide_eq_false_iff_not, beq_iff_eq, bne_iff_ne, beq_eq_false_iff_ne, bne_eq_false_iff_eq, Bool.not_eq_true', Bool.not_eq_false', Bool.and_eq_true, Bool.or_eq_true, Bool.or_eq_false_iff, ne_eq, Decidable.not_not, Int.not_lt, Int.not_le] at c2
      refine dwp_skip ?_
      refine dwp_seq ?_
      refine dwp_block ?_
      refine dwp_seq ?_
      have hkl : k < w.length := by omega
      have hol := hb.2.2 _ (List.getElem_mem hkl)
      refine dwp_holes 1 (by simp only [holes, List.cons_append, List.nil_append]; exact rfl) ?_
      refine dwp_region ?_
      refine walk_r rfl rfl rfl (op_ixmr (k) (by decide) rfl sl24 (ev1 rfl) (ev1 rfl) (fun _ => rfl) (by omega) (fun _ => rfl)) ?_
      refine walk_r rfl rfl rfl (op_lddr rfl tb44 (ev1 rfl) rfl rfl) ?_
      refine walk_w rfl rfl rfl (op_alloc 3 rfl zr44 rfl) (by simp only [upd, List.set_cons_zero, List.set_cons_succ]; exact rfl) ?_
      refine walk_s rfl rfl (op_stam rfl tb44 (ev1 rfl) (ev1 rfl) rfl rfl rfl rfl) (by simp only [upd, List.set_cons_zero, List.set_cons_succ]; exact rfl) ?_
      refine walk_nil ?_
      refine dwp_holes 2 (by simp only [holes, List.cons_append, List.nil_append]; exact rfl) ?_
      refine dwp_region ?_
      refine walk_r rfl rfl rfl (op_move (.inl rfl) (ev1 rfl)) ?_
      refine walk_r rfl rfl rfl (op_ldmw rfl tb44 (ev1 rfl) rfl rfl) ?_
      refine walk_w rfl rfl rfl (dop_call [0] [] [] rfl (ev1 rfl) (ec (ev1 rfl) en) rfl rfl (copied_F w[k] (by omega) _ (k := 4 + k) (by simp [famO, fB]; omega)) rfl rfl rfl rfl rfl rfl) (by simp only [upd, List.set_cons_zero, List.set_cons_succ]; exact rfl) ?_
      refine walk_w rfl rfl rfl (op_bsxs (ps := [(0, .tmp 39)]) 4 rfl sl24 zr44 rfl (ec (ev1 rfl) en) rfl rfl rfl rfl (by decide) (by decide) rfl) (by simp only [upd, List.set_cons_zero, List.set_cons_succ]; exact rfl) ?_
      refine walk_w rfl rfl rfl (op_apprr (j := 5) rfl sl24 zr44 rfl (ev1 rfl) (ev1 rfl) rfl rfl rfl (rfl) (fun _ => ⟨by omega, by omega⟩)) (by simp only [upd, List.set_cons_zero, List.set_cons_succ]; exact rfl) ?_
      refine walk_r rfl rfl rfl (op_move (.inr rfl) (ev1 rfl)) ?_
      refine walk_nil ?_
      refine dwp_region ?_
      refine walk_r rfl rfl rfl (op_add' rfl (ev1 rfl) (ev1 rfl) (fun _ => IntWalk.i64_in _ (by omega))) ?_
      refine walk_r rfl rfl rfl (op_move (.inl rfl) (ev1 rfl)) ?_
      refine walk_nil ?_
      refine ⟨k + 1, [0, 1, 5], by omega, by simp only []; omega, rfl, ⟨rfl, rfl, rfl, rfl, rfl, trivial⟩, ⟨congrArg (fun b => some (Blk.fam b)) (by rw [List.append_assoc, famO_succ hkl]), rfl, ox_fits (by rw [List.length_take, List.length_take]; omega) ((ox_snoc 0 4 (w.take k) w[k] (by rw [hql])).trans (by rw [← List.take_succ_eq_append_getElem hkl])) rfl, trivial⟩⟩
    · try simp only [decide_eq_true_eq, decide_eq_false_iff_not, beq_iff_eq, bne_iff_ne, beq_eq_false_iff_ne, bne_eq_false_iff_eq, Bool.not_eq_true', Bool.not_eq_false', Bool.and_eq_true, Bool.or_eq_true, Bool.or_eq_false_iff, ne_eq, Decidable.not_not, Int.not_lt, Int.not_le] at c2
      refine dwp_exit ?_
      refine dwp_seq ?_
      obtain rfl : k = w.length := by omega
      rw [List.take_length]
      refine dwp_region ?_
      refine walk_r rfl rfl rfl (op_move (.inl rfl) (ev1 rfl)) ?_
      refine walk_r rfl rfl rfl (op_fa rfl fo26_2 (ev1 rfl)) ?_
      refine walk_s rfl rfl (op_stm rfl tb24 (ev1 rfl) (ev1 rfl) (fun s v h => by cases h <;> exact ⟨rfl, rfl⟩) rfl (by first | decide | exact Nat.le_of_ble_eq_true rfl | simp)) (by simp only [upd, List.set_cons_zero, List.set_cons_succ]; exact rfl) ?_
      refine walk_nil ?_
      refine dwp_seq ?_
      refine dwp_holes 1 (by simp only [holes, List.cons_append, List.nil_append]; exact rfl) ?_
      refine dwp_region ?_
      refine walk_r rfl rfl rfl (op_ldmw rfl tb26 (ev1 rfl) rfl rfl) ?_
      refine walk_r rfl rfl rfl (op_bldA rfl (ev1 rfl) fl86 zr86 rfl) ?_
      refine walk_w rfl rfl rfl (op_boxam 3 rfl (ev1 rfl) rfl) (by simp only [upd, List.set_cons_zero, List.set_cons_succ]; exact rfl) ?_
      refine walk_r rfl rfl rfl (op_move (.inr rfl) (ev1 rfl)) ?_
      refine walk_nil ?_
      refine dwp_ret ?_
      refine kend [0, 3, 2] (rs1 rfl (rv_t rfl)) rfl rfl ?_ ⟨?_, ?_, ?_, trivial⟩
      rfl
      all_goals first | exact rfl | exact ox_fits rfl rfl rfl
end Go.Proofs.Ytjecmkaggobcjaa

namespace Go.Proofs.Ytjecmkaggobcjaa
set_option linter.unusedVariables false
set_option linter.unusedSimpArgs false
open Go.RowKit
def oFam (i : Nat) (o : DOpn) (k : Nat) : List D := [.val (.int .i64 o.kd), .val (.int .i64 o.fl), .farr i k]
theorem fam_mem2 {Bs : List Mem} {a b : Nat} {B : Mem} (h : Bs[b]? = some B) (hne : a ≠ b) : (Bs.set a .gone)[b]? = some B := by
  rw [List.getElem?_set_ne hne]; exact h
theorem rowB_app {b : List Nat} {o : DOpn} (k1 : o.kd = 1) : Mem.arr 5 1 (b.length + o.b.length) (b.flatMap un8 ++ o.b.flatMap un8) = rowB (setB b o) := by
  unfold setB rowB
  rw [if_pos k1, List.length_append, List.flatMap_append]
theorem rowB_two {b : List Nat} {o : DOpn} (k2 : o.kd = 2) : Mem.arr 5 1 0 [] = rowB (setB b o) := by
  unfold setB rowB
  rw [if_neg (by omega), if_pos k2]; rfl
theorem rowB_oth {b : List Nat} {o : DOpn} (k1 : o.kd ≠ 1) (k2 : o.kd ≠ 2) : Mem.arr 5 1 b.length (b.flatMap un8) = rowB (setB b o) := by
  unfold setB rowB
  rw [if_neg k1, if_neg k2]
set_option maxRecDepth 4000 in
set_option maxHeartbeats 1000000 in
theorem settledF_1 (Bs : List Mem) (a k : Nat) (b : List Nat) (o : DOpn) (ha : Bs[a]? = some (rowB b)) (hk : Bs[k]? = some (rowB o.b)) (hne : a ≠ k) (k1 : o.kd = 1) (hb : b.length + o.b.length ≤ 1000000000000) : DFun Try.prog 53 [.farr 0 a, .agg (oFam 0 o k)] [.fam Bs] (.farr 0 Bs.length) [.fam (Bs.set a .gone ++ [rowB (setB b o)])] := by
  refine dcalls_go (N := 16) 1 (by kernel_rfl) Try.func53 rfl rfl rfl (by simp only [fr0, Nat.zero_add, Nat.reduceAdd]; exact rfl) rfl fun s0 hs0 => ?_
  refine dwp_seq ?_
  refine dwp_holes 1 (by simp only [holes, List.cons_append, List.nil_append]; exact rfl) ?_
  refine dwp_region ?_
  refine walk_w rfl rfl rfl (op_boxam 1 rfl (ev1 rfl) rfl) (by simp only [upd, List.set_cons_zero, List.set_cons_succ]; exact rfl) ?_
  refine walk_r rfl rfl rfl (op_move (.inr rfl) (ev1 rfl)) ?_
  refine walk_nil ?_
  refine dwp_seq ?_
  refine dwp_seq ?_
  refine dwp_region ?_
  refine walk_r rfl rfl rfl (op_fa rfl fo44_0 (ev1 rfl)) ?_
  refine walk_r rfl rfl rfl (op_ldm rfl tb3 (ev1 rfl) rfl rfl) ?_
  refine walk_nil ?_
  refine dwp_block ?_
  refine dwp_seq ?_
  refine dwp_region ?_
  refine walk_r rfl rfl rfl (op_eql rfl (ev1 rfl) (ev1 rfl)) ?_
  refine walk_r rfl rfl rfl (op_move (.inr rfl) (ev1 rfl)) ?_
  refine walk_nil ?_
  refine dwp_if_t rfl (by simp [k1]) ?_
  refine dwp_seq ?_
  refine dwp_hole ?_
  refine dwp_rel 0 0 (j := 2) rfl rfl (ha) rfl (by simp only [List.cons_append, List.nil_append, List.set_cons_zero, List.set_cons_succ]; exact rfl) ?_
  refine dwp_holes 1 (by simp only [holes, List.cons_append, List.nil_append]; exact rfl) ?_
  refine dwp_region ?_
  refine walk_r rfl rfl rfl (op_move (.inl rfl) (ev1 rfl)) ?_
  refine walk_r rfl rfl rfl (op_fa rfl fo44_2 (ev1 rfl)) ?_
  refine walk_r rfl rfl rfl (op_ldm rfl tb22 (ev1 rfl) rfl rfl) ?_
  refine walk_w rfl rfl rfl (op_app (j := 3) rfl sl22 zr5 rfl (ev1 rfl) (ev1 rfl) (src_farr rfl (fam_mem2 hk hne)) rfl rfl (fun _ => flat_oc (fun _ => rfl) _) (fun _ => ⟨by omega, by omega⟩)) (by simp only [upd, List.set_cons_zero, List.set_cons_succ]; exact rfl) ?_
  refine walk_r rfl rfl rfl (op_move (.inr rfl) (ev1 rfl)) ?_
  refine walk_nil ?_
  refine dwp_abs 4 0 rfl rfl rfl (by simp only [List.cons_append, List.nil_append, List.set_cons_zero, List.set_cons_succ]; exact rfl) ?_
  refine dwp_ret ?_
  refine kend [0] (rs1 rfl (rv_t rfl)) rfl rfl ?_ ⟨?_, trivial⟩
  exact congrArg (D.farr 0) (by rw [List.length_set])
  all_goals first | exact rfl | exact congrArg (fun B => some (Blk.fam (Bs.set a .gone ++ [B]))) (rowB_app k1)
set_option maxRecDepth 4000 in
set_option maxHeartbeats 1000000 in
theorem settledF_2 (Bs : List Mem) (a k : Nat) (b : List Nat) (o : DOpn) (ha : Bs[a]? = some (rowB b)) (hk : Bs[k]? = some (rowB o.b)) (hne : a ≠ k) (k2 : o.kd = 2) : DFun Try.prog 53 [.farr 0 a, .agg (oFam 0 o k)] [.fam Bs] (.farr 0 Bs.length) [.fam (Bs.set a .gone ++ [rowB (setB b o)])] := by
  refine dcalls_go (N := 16) 1 (by kernel_rfl) Try.func53 rfl rfl rfl (by simp only [fr0, Nat.zero_add, Nat.reduceAdd]; exact rfl) rfl fun s0 hs0 => ?_
  refine dwp_seq ?_
  refine dwp_holes 1 (by simp only [holes, List.cons_append, List.nil_append]; exact rfl) ?_
  refine dwp_region ?_
  refine walk_w rfl rfl rfl (op_boxam 1 rfl (ev1 rfl) rfl) (by simp only [upd, List.set_cons_zero, List.set_cons_succ]; exact rfl) ?_
  refine walk_r rfl rfl rfl (op_move (.inr rfl) (ev1 rfl)) ?_
  refine walk_nil ?_
  refine dwp_seq ?_
  refine dwp_seq ?_
  refine dwp_region ?_
  refine walk_r rfl rfl rfl (op_fa rfl fo44_0 (ev1 rfl)) ?_
  refine walk_r rfl rfl rfl (op_ldm rfl tb3 (ev1 rfl) rfl rfl) ?_
  refine walk_nil ?_
  refine dwp_block ?_
  refine dwp_seq ?_
  refine dwp_region ?_
  refine walk_r rfl rfl rfl (op_eql rfl (ev1 rfl) (ev1 rfl)) ?_
  refine walk_r rfl rfl rfl (op_move (.inr rfl) (ev1 rfl)) ?_
  refine walk_nil ?_
  refine dwp_if_f rfl (by simp [k2]) ?_
  refine dwp_seq ?_
  refine dwp_region ?_
  refine walk_r rfl rfl rfl (op_eql rfl (ev1 rfl) (ev1 rfl)) ?_
  refine walk_r rfl rfl rfl (op_move (.inr rfl) (ev1 rfl)) ?_
  refine walk_nil ?_
  refine dwp_if_t rfl (by simp [k2]) ?_
  refine dwp_seq ?_
  refine dwp_hole ?_
  refine dwp_rel 0 0 (j := 2) rfl rfl (ha) rfl (by simp only [List.cons_append, List.nil_append, List.set_cons_zero, List.set_cons_succ]; exact rfl) ?_
  refine dwp_region ?_
  refine walk_r rfl rfl rfl (op_move (.inr rfl) (ev1 rfl)) ?_
  refine walk_nil ?_
  refine dwp_adopt 4 5 1 rfl rfl rfl ?_
  refine dwp_abs 4 0 rfl rfl rfl (by simp only [List.cons_append, List.nil_append, List.set_cons_zero, List.set_cons_succ]; exact rfl) ?_
  refine dwp_ret ?_
  refine kend [0] (rs1 rfl (rv_t rfl)) rfl rfl ?_ ⟨?_, trivial⟩
  exact congrArg (D.farr 0) (by rw [List.length_set])
  all_goals first | exact rfl | exact congrArg (fun B => some (Blk.fam (Bs.set a .gone ++ [B]))) (rowB_two k2)
set_option maxRecDepth 4000 in
set_option maxHeartbeats 1000000 in
theorem settledF_3 (Bs : List Mem) (a k : Nat) (b : List Nat) (o : DOpn) (ha : Bs[a]? = some (rowB b)) (hk : Bs[k]? = some (rowB o.b)) (hne : a ≠ k) (k1 : o.kd ≠ 1) (k2 : o.kd ≠ 2) : DFun Try.prog 53 [.farr 0 a, .agg (oFam 0 o k)] [.fam Bs] (.farr 0 Bs.length) [.fam (Bs.set a .gone ++ [rowB (setB b o)])] := by
  refine dcalls_go (N := 16) 1 (by kernel_rfl) Try.func53 rfl rfl rfl (by simp only [fr0, Nat.zero_add, Nat.reduceAdd]; exact rfl) rfl fun s0 hs0 => ?_
  refine dwp_seq ?_
  refine dwp_holes 1 (by simp only [holes, List.cons_append, List.nil_append]; exact rfl) ?_
  refine dwp_region ?_
  refine walk_w rfl rfl rfl (op_boxam 1 rfl (ev1 rfl) rfl) (by simp only [upd, List.set_cons_zero, List.set_cons_succ]; exact rfl) ?_
  refine walk_r rfl rfl rfl (op_move (.inr rfl) (ev1 rfl)) ?_
  refine walk_nil ?_
  refine dwp_seq ?_
  refine dwp_seq ?_
  refine dwp_region ?_
  refine walk_r rfl rfl rfl (op_fa rfl fo44_0 (ev1 rfl)) ?_
  refine walk_r rfl rfl rfl (op_ldm rfl tb3 (ev1 rfl) rfl rfl) ?_
  refine walk_nil ?_
  refine dwp_block ?_
  refine dwp_seq ?_
  refine dwp_region ?_
  refine walk_r rfl rfl rfl (op_eql rfl (ev1 rfl) (ev1 rfl)) ?_
  refine walk_r rfl rfl rfl (op_move (.inr rfl) (ev1 rfl)) ?_
  refine walk_nil ?_
  refine dwp_if_f rfl (by simp [k1]) ?_
  refine dwp_seq ?_
  refine dwp_region ?_
  refine walk_r rfl rfl rfl (op_eql rfl (ev1 rfl) (ev1 rfl)) ?_
  refine walk_r rfl rfl rfl (op_move (.inr rfl) (ev1 rfl)) ?_
  refine walk_nil ?_
  refine dwp_if_f rfl (by simp [k2]) ?_
  refine dwp_skip ?_
  refine dwp_seq ?_
  refine dwp_hole ?_
  refine dwp_rel 0 0 (j := 2) rfl rfl (ha) rfl (by simp only [List.cons_append, List.nil_append, List.set_cons_zero, List.set_cons_succ]; exact rfl) ?_
  refine dwp_region ?_
  refine walk_r rfl rfl rfl (op_move (.inl rfl) (ev1 rfl)) ?_
  refine walk_r rfl rfl rfl (op_move (.inr rfl) (ev1 rfl)) ?_
  refine walk_nil ?_
  refine dwp_abs 4 0 rfl rfl rfl (by simp only [List.cons_append, List.nil_append, List.set_cons_zero, List.set_cons_succ]; exact rfl) ?_
  refine dwp_ret ?_
  refine kend [0] (rs1 rfl (rv_t rfl)) rfl rfl ?_ ⟨?_, trivial⟩
  exact congrArg (D.farr 0) (by rw [List.length_set])
  all_goals first | exact rfl | exact congrArg (fun B => some (Blk.fam (Bs.set a .gone ++ [B]))) (rowB_oth k1 k2)
theorem settledF (Bs : List Mem) (a k : Nat) (b : List Nat) (o : DOpn) (ha : Bs[a]? = some (rowB b)) (hk : Bs[k]? = some (rowB o.b)) (hne : a ≠ k) (hb : b.length + o.b.length ≤ 1000000000000) : DFun Try.prog 53 [.farr 0 a, .agg (oFam 0 o k)] [.fam Bs] (.farr 0 Bs.length) [.fam (Bs.set a .gone ++ [rowB (setB b o)])] := by
  by_cases k1 : o.kd = 1
  · exact settledF_1 Bs a k b o ha hk hne k1 hb
  · by_cases k2 : o.kd = 2
    · exact settledF_2 Bs a k b o ha hk hne k2
    · exact settledF_3 Bs a k b o ha hk hne k1 k2
def cG (g : Nat → Nat) (h : Int) (r : D) (dn : Bool) (fu : Int) : List D := [.farr 0 (g 0), .farr 0 (g 1), .farr 0 (g 2), .farr 0 (g 3), .val (.int .i64 h), r, .val (.bool dn), .val (.int .i64 fu)]
def updG (g : Nat → Nat) (j v : Nat) : Nat → Nat := fun i => if i = j then v else g i
theorem cG_cell {g : Nat → Nat} {h : Int} {r : D} {dn : Bool} {fu : Int} {z : Int} (hz : 0 ≤ z ∧ z < 4) : (cG g h r dn fu)[0 + 0 + z.toNat * 1]? = some (.farr 0 (g z.toNat)) := by
  have : z = 0 ∨ z = 1 ∨ z = 2 ∨ z = 3 := by omega
  rcases this with rfl | rfl | rfl | rfl <;> rfl
theorem cG_set {g : Nat → Nat} {h : Int} {r : D} {dn : Bool} {fu : Int} {z : Int} (v : Nat) (hz : 0 ≤ z ∧ z < 4) : (cG g h r dn fu).set (0 + 0 + z.toNat * 1) (.farr 0 v) = cG (updG g z.toNat v) h r dn fu := by
  have : z = 0 ∨ z = 1 ∨ z = 2 ∨ z = 3 := by omega
  rcases this with rfl | rfl | rfl | rfl <;> rfl
theorem cG_lt {m : Nat} {g : Nat → Nat} {h : Int} {r : D} {dn : Bool} {fu : Int} (h0 : 0 < m) (hr : r.lt m = true) : D.ltL m (cG g h r dn fu) = true := by
  have h1 : Nat.blt 0 m = true := by rw [Nat.blt_eq]; exact h0
  simp only [cG, D.ltL, D.lt, hr, h1, Bool.and_true, Bool.and_self]
set_option maxRecDepth 4000 in
set_option maxHeartbeats 1000000 in
theorem settle_3 (Bs : List Mem) (f : Nat → List Nat) (g : Nat → Nat) (h : Int) (dn : Bool) (fu : Int) (o : DOpn) (k nq : Nat) (Q : List (DOpn × Nat)) (hg : Bs[g o.fl.toNat]? = some (rowB (f o.fl.toNat))) (hk : Bs[k]? = some (rowB o.b)) (hne : g o.fl.toNat ≠ k) (hf : 0 ≤ o.fl ∧ o.fl < 4) (hb : (f o.fl.toNat).length + o.b.length ≤ 1000000000000) (k3 : o.kd = 3) : DFun Try.prog 62 [.loc 1 0, .agg (oFam 0 o k)] [.fam Bs, .mix 86 (cG (g) (h) (.arr 2) dn fu), .arx 44 3 nq (Q.flatMap (oF 0))] (.tup []) [.fam (Bs.set (g o.fl.toNat) .gone ++ [rowB (setB (f o.fl.toNat) o)]), .mix 86 (cG (updG g o.fl.toNat Bs.length) (o.fl) (.arr 2) dn fu), .arx 44 3 nq (Q.flatMap (oF 0))] := by
  refine dcalls_go (N := 30) 3 (by kernel_rfl) Try.func62 rfl rfl rfl (by simp only [fr0, Nat.zero_add, Nat.reduceAdd]; exact rfl) rfl fun s0 hs0 => ?_
  refine dwp_seq ?_
  refine dwp_holes 1 (by simp only [holes, List.cons_append, List.nil_append]; exact rfl) ?_
  refine dwp_region ?_
  refine walk_w rfl rfl rfl (op_boxam 3 rfl (ev1 rfl) rfl) (by simp only [upd, List.set_cons_zero, List.set_cons_succ]; exact rfl) ?_
  refine walk_nil ?_
  refine dwp_seq ?_
  refine dwp_draw [([], []), ([], []), ([3], []), ([], []), ([], []), ([3], []), ([], []), ([], []), ([], []), ([], []), ([1], []), ([3], []), ([0], [0]), ([], []), ([], []), ([], []), ([], []), ([1], [1])] mixed (by kernel_rfl) ?_
  refine lex_r rfl rfl (op_move (.inl rfl) (ev1 rfl)) ?_
  refine lex_r rfl rfl (op_fa rfl fo44_1 (ev1 rfl)) ?_
  refine lex_r rfl rfl (op_ldm rfl tb3 (ev1 rfl) rfl rfl) ?_
  refine lex_r rfl rfl (op_move (.inl rfl) (ev1 rfl)) ?_
  refine lex_r rfl rfl (op_fa rfl fo44_1 (ev1 rfl)) ?_
  refine lex_r rfl rfl (op_ldm rfl tb3 (ev1 rfl) rfl rfl) ?_
  refine lex_r rfl rfl (op_nc rfl (ev1 rfl) (fun s v h => by cases h; exact ⟨_, rfl⟩)) ?_
  refine lex_r rfl rfl (op_fa rfl fo86_0 (ev1 rfl)) ?_
  refine lex_r rfl rfl (op_fa rfl fo26_0 (ev1 rfl)) ?_
  refine lex_r rfl rfl (op_ixl rfl ar23 (ev1 rfl) (ev1 rfl) (fun _ => by omega)) ?_
  refine lex_r rfl rfl (op_ldm rfl tb22 (ev1 rfl) rfl (cG_cell hf)) ?_
  refine lex_r rfl rfl (op_ldmw rfl tb44 (ev1 rfl) rfl rfl) ?_
  refine lex_w rfl rfl (dop_call [0] [] [] rfl (ev1 rfl) (ec (ev1 rfl) (ec (ev1 rfl) en)) rfl rfl (settledF Bs (g o.fl.toNat) k (f o.fl.toNat) o hg hk hne hb) rfl rfl rfl rfl rfl rfl) rfl (by simp only [upd, List.set_cons_zero, List.set_cons_succ]; exact rfl) ?_
  refine lex_r rfl rfl (op_nc rfl (ev1 rfl) (fun s v h => by cases h; exact ⟨_, rfl⟩)) ?_
  refine lex_r rfl rfl (op_fa rfl fo86_0 (ev1 rfl)) ?_
  refine lex_r rfl rfl (op_fa rfl fo26_0 (ev1 rfl)) ?_
  refine lex_r rfl rfl (op_ixl rfl ar23 (ev1 rfl) (ev1 rfl) (fun _ => by omega)) ?_
  refine lex_s rfl rfl (op_stm rfl tb22 (ev1 rfl) (ev1 rfl) (fun s v h => by cases h <;> exact ⟨rfl, rfl⟩) rfl (by show 0 + 0 + o.fl.toNat * 1 < 8; omega)) rfl (by simp only [upd, List.set_cons_zero, List.set_cons_succ]; exact rfl) ?_
  refine lex_nil ?_
  refine dwp_seq ?_
  rw [cG_set _ hf]
  refine dwp_region ?_
  refine walk_r rfl rfl rfl (op_fa rfl fo44_0 (ev1 rfl)) ?_
  refine walk_r rfl rfl rfl (op_ldm rfl tb3 (ev1 rfl) rfl rfl) ?_
  refine walk_r rfl rfl rfl (op_eql rfl (ev1 rfl) (ev1 rfl)) ?_
  refine walk_nil ?_
  refine dwp_if_t rfl (by simp [k3]) ?_
  refine dwp_region ?_
  refine walk_r rfl rfl rfl (op_move (.inl rfl) (ev1 rfl)) ?_
  refine walk_r rfl rfl rfl (op_fa rfl fo44_1 (ev1 rfl)) ?_
  refine walk_r rfl rfl rfl (op_ldm rfl tb3 (ev1 rfl) rfl rfl) ?_
  refine walk_r rfl rfl rfl (op_nc rfl (ev1 rfl) (fun s v h => by cases h; exact ⟨_, rfl⟩)) ?_
  refine walk_r rfl rfl rfl (op_fa rfl fo86_0 (ev1 rfl)) ?_
  refine walk_r rfl rfl rfl (op_fa rfl fo26_1 (ev1 rfl)) ?_
  refine walk_s rfl rfl (op_stm rfl tb3 (ev1 rfl) (ev1 rfl) (fun s v h => by cases h <;> exact ⟨rfl, rfl⟩) rfl (by first | decide | exact Nat.le_of_ble_eq_true rfl | simp)) (by simp only [upd, List.set_cons_zero, List.set_cons_succ]; exact rfl) ?_
  refine walk_nil ?_
  refine kend [0, 1, 2] (res_none rfl) rfl rfl ?_ ⟨?_, ?_, ?_, trivial⟩
  rfl
  all_goals first | exact rfl | exact mixl_fits (m := 3) rfl rfl (cG_lt (by decide) rfl) | exact ox_fits rfl rfl rfl
set_option maxRecDepth 4000 in
set_option maxHeartbeats 1000000 in
theorem settle_n (Bs : List Mem) (f : Nat → List Nat) (g : Nat → Nat) (h : Int) (dn : Bool) (fu : Int) (o : DOpn) (k nq : Nat) (Q : List (DOpn × Nat)) (hg : Bs[g o.fl.toNat]? = some (rowB (f o.fl.toNat))) (hk : Bs[k]? = some (rowB o.b)) (hne : g o.fl.toNat ≠ k) (hf : 0 ≤ o.fl ∧ o.fl < 4) (hb : (f o.fl.toNat).length + o.b.length ≤ 1000000000000) (k3 : o.kd ≠ 3) : DFun Try.prog 62 [.loc 1 0, .agg (oFam 0 o k)] [.fam Bs, .mix 86 (cG (g) (h) (.arr 2) dn fu), .arx 44 3 nq (Q.flatMap (oF 0))] (.tup []) [.fam (Bs.set (g o.fl.toNat) .gone ++ [rowB (setB (f o.fl.toNat) o)]), .mix 86 (cG (updG g o.fl.toNat Bs.length) (h) (.arr 2) dn fu), .arx 44 3 nq (Q.flatMap (oF 0))] := by
  refine dcalls_go (N := 30) 3 (by kernel_rfl) Try.func62 rfl rfl rfl (by simp only [fr0, Nat.zero_add, Nat.reduceAdd]; exact rfl) rfl fun s0 hs0 => ?_
  refine dwp_seq ?_
  refine dwp_holes 1 (by simp only [holes, List.cons_append, List.nil_append]; exact rfl) ?_
  refine dwp_region ?_
  refine walk_w rfl rfl rfl (op_boxam 3 rfl (ev1 rfl) rfl) (by simp only [upd, List.set_cons_zero, List.set_cons_succ]; exact rfl) ?_
  refine walk_nil ?_
  refine dwp_seq ?_
  refine dwp_draw [([], []), ([], []), ([3], []), ([], []), ([], []), ([3], []), ([], []), ([], []), ([], []), ([], []), ([1], []), ([3], []), ([0], [0]), ([], []), ([], []), ([], []), ([], []), ([1], [1])] mixed (by kernel_rfl) ?_
  refine lex_r rfl rfl (op_move (.inl rfl) (ev1 rfl)) ?_
  refine lex_r rfl rfl (op_fa rfl fo44_1 (ev1 rfl)) ?_
  refine lex_r rfl rfl (op_ldm rfl tb3 (ev1 rfl) rfl rfl) ?_
  refine lex_r rfl rfl (op_move (.inl rfl) (ev1 rfl)) ?_
  refine lex_r rfl rfl (op_fa rfl fo44_1 (ev1 rfl)) ?_
  refine lex_r rfl rfl (op_ldm rfl tb3 (ev1 rfl) rfl rfl) ?_
  refine lex_r rfl rfl (op_nc rfl (ev1 rfl) (fun s v h => by cases h; exact ⟨_, rfl⟩)) ?_
  refine lex_r rfl rfl (op_fa rfl fo86_0 (ev1 rfl)) ?_
  refine lex_r rfl rfl (op_fa rfl fo26_0 (ev1 rfl)) ?_
  refine lex_r rfl rfl (op_ixl rfl ar23 (ev1 rfl) (ev1 rfl) (fun _ => by omega)) ?_
  refine lex_r rfl rfl (op_ldm rfl tb22 (ev1 rfl) rfl (cG_cell hf)) ?_
  refine lex_r rfl rfl (op_ldmw rfl tb44 (ev1 rfl) rfl rfl) ?_
  refine lex_w rfl rfl (dop_call [0] [] [] rfl (ev1 rfl) (ec (ev1 rfl) (ec (ev1 rfl) en)) rfl rfl (settledF Bs (g o.fl.toNat) k (f o.fl.toNat) o hg hk hne hb) rfl rfl rfl rfl rfl rfl) rfl (by simp only [upd, List.set_cons_zero, List.set_cons_succ]; exact rfl) ?_
  refine lex_r rfl rfl (op_nc rfl (ev1 rfl) (fun s v h => by cases h; exact ⟨_, rfl⟩)) ?_
  refine lex_r rfl rfl (op_fa rfl fo86_0 (ev1 rfl)) ?_
  refine lex_r rfl rfl (op_fa rfl fo26_0 (ev1 rfl)) ?_
  refine lex_r rfl rfl (op_ixl rfl ar23 (ev1 rfl) (ev1 rfl) (fun _ => by omega)) ?_
  refine lex_s rfl rfl (op_stm rfl tb22 (ev1 rfl) (ev1 rfl) (fun s v h => by cases h <;> exact ⟨rfl, rfl⟩) rfl (by show 0 + 0 + o.fl.toNat * 1 < 8; omega)) rfl (by simp only [upd, List.set_cons_zero, List.set_cons_succ]; exact rfl) ?_
  refine lex_nil ?_
  refine dwp_seq ?_
  rw [cG_set _ hf]
  refine dwp_region ?_
  refine walk_r rfl rfl rfl (op_fa rfl fo44_0 (ev1 rfl)) ?_
  refine walk_r rfl rfl rfl (op_ldm rfl tb3 (ev1 rfl) rfl rfl) ?_
  refine walk_r rfl rfl rfl (op_eql rfl (ev1 rfl) (ev1 rfl)) ?_
  refine walk_nil ?_
  refine dwp_if_f rfl (by simp [k3]) ?_
  refine dwp_skip ?_
  refine kend [0, 1, 2] (res_none rfl) rfl rfl ?_ ⟨?_, ?_, ?_, trivial⟩
  rfl
  all_goals first | exact rfl | exact mixl_fits (m := 3) rfl rfl (cG_lt (by decide) rfl) | exact ox_fits rfl rfl rfl
theorem settle_d (Bs : List Mem) (f : Nat → List Nat) (g : Nat → Nat) (h : Int) (dn : Bool) (fu : Int) (o : DOpn) (k nq : Nat) (Q : List (DOpn × Nat)) (hg : Bs[g o.fl.toNat]? = some (rowB (f o.fl.toNat))) (hk : Bs[k]? = some (rowB o.b)) (hne : g o.fl.toNat ≠ k) (ho : mayW o = true) (hb : (f o.fl.toNat).length + o.b.length ≤ 1000000000000) : DFun Try.prog 62 [.loc 1 0, .agg (oFam 0 o k)] [.fam Bs, .mix 86 (cG g h (.arr 2) dn fu), .arx 44 3 nq (Q.flatMap (oF 0))] (.tup []) [.fam (Bs.set (g o.fl.toNat) .gone ++ [rowB (setB (f o.fl.toNat) o)]), .mix 86 (cG (updG g o.fl.toNat Bs.length) (doH h o) (.arr 2) dn fu), .arx 44 3 nq (Q.flatMap (oF 0))] := by
  obtain ⟨hkd, hf⟩ := mayW_in ho
  unfold doH
  by_cases k3 : o.kd = 3
  · rw [if_neg (by omega), if_neg (by omega)]
    exact settle_3 Bs f g h dn fu o k nq Q hg hk hne hf hb k3
  · have hh : (if o.kd = 1 then h else if o.kd = 2 then h else o.fl) = h := by
      by_cases k1 : o.kd = 1
      · rw [if_pos k1]
      · rw [if_neg k1, if_pos (by omega)]
    rw [hh]
    exact settle_n Bs f g h dn fu o k nq Q hg hk hne hf hb k3
end Go.Proofs.Ytjecmkaggobcjaa

namespace Go.Proofs.Ytjecmkaggobcjaa
set_option linter.unusedVariables false
set_option linter.unusedSimpArgs false
open Go.RowKit
def fuB (fu : Int) : Int := if fu - 1 ≤ 0 then 0 else fu - 1
set_option maxRecDepth 4000 in
set_option maxHeartbeats 1000000 in
theorem burn_down (Bs : List Mem) (g : Nat → Nat) (h : Int) (dn : Bool) (fu : Int) (nq : Nat) (Q : List (DOpn × Nat)) (hfu : fu = 1) : DPan Try.prog 78 [.loc 1 0] [.fam Bs, .mix 86 (cG (g) (h) (.arr 2) dn fu), .arx 44 3 nq (Q.flatMap (oF 0))] (.ifc 93 (.val (.agg #[.int .i64 321]))) [.fam Bs, .mix 86 (cG (g) (h) (.arr 2) true 0), .arx 44 3 nq (Q.flatMap (oF 0))] := by
  refine dcalls_go (N := 29) 3 (by kernel_rfl) Try.func78 rfl rfl rfl (by simp only [fr0, Nat.zero_add, Nat.reduceAdd]; exact rfl) rfl fun s0 hs0 => ?_
  refine dwp_seq ?_
  refine dwp_seq ?_
  refine dwp_region ?_
  refine walk_r rfl rfl rfl (op_move (.inl rfl) (ev1 rfl)) ?_
  refine walk_r rfl rfl rfl (op_nc rfl (ev1 rfl) (fun s v h => by cases h; exact ⟨_, rfl⟩)) ?_
  refine walk_r rfl rfl rfl (op_fa rfl fo86_0 (ev1 rfl)) ?_
  refine walk_r rfl rfl rfl (op_fa rfl fo26_4 (ev1 rfl)) ?_
  refine walk_r rfl rfl rfl (op_ldm rfl tb3 (ev1 rfl) rfl rfl) ?_
  refine walk_r rfl rfl rfl (op_eql rfl (ev1 rfl) (ev1 rfl)) ?_
  refine walk_nil ?_
  refine dwp_if_t rfl (by simp [hfu]) ?_
  refine dwp_seq ?_
  refine dwp_region ?_
  refine walk_r rfl rfl rfl (op_move (.inl rfl) (ev1 rfl)) ?_
  refine walk_r rfl rfl rfl (op_move (.inl rfl) (ev1 rfl)) ?_
  refine walk_r rfl rfl rfl (op_nc rfl (ev1 rfl) (fun s v h => by cases h; exact ⟨_, rfl⟩)) ?_
  refine walk_r rfl rfl rfl (op_fa rfl fo86_0 (ev1 rfl)) ?_
  refine walk_r rfl rfl rfl (op_fa rfl fo26_3 (ev1 rfl)) ?_
  refine walk_s rfl rfl (op_stm rfl tb4 (ev1 rfl) (ev1 rfl) (fun s v h => by cases h <;> exact ⟨rfl, rfl⟩) rfl (by first | decide | exact Nat.le_of_ble_eq_true rfl | simp)) (by simp only [upd, List.set_cons_zero, List.set_cons_succ]; exact rfl) ?_
  refine walk_r rfl rfl rfl (op_nc rfl (ev1 rfl) (fun s v h => by cases h; exact ⟨_, rfl⟩)) ?_
  refine walk_r rfl rfl rfl (op_fa rfl fo86_0 (ev1 rfl)) ?_
  refine walk_r rfl rfl rfl (op_fa rfl fo26_4 (ev1 rfl)) ?_
  refine walk_s rfl rfl (op_stm rfl tb3 (ev1 rfl) (ev1 rfl) (fun s v h => by cases h <;> exact ⟨rfl, rfl⟩) rfl (by first | decide | exact Nat.le_of_ble_eq_true rfl | simp)) (by simp only [upd, List.set_cons_zero, List.set_cons_succ]; exact rfl) ?_
  refine walk_nil ?_
  refine dwp_region ?_
  refine walk_r rfl rfl rfl (op_build (ps := [(0, .const (.int .i64 321))]) rfl fl93 zr93 (vc (ev1 rfl) vn) rfl rfl) ?_
  refine walk_r rfl rfl rfl (op_mi rfl ni93 (ev1 rfl)) ?_
  refine walk_p rfl (op_pan rfl (ev1 rfl)) rfl ?_
  refine kpan [0, 1, 2] rfl rfl ?_ ⟨?_, ?_, ?_, trivial⟩
  rfl
  all_goals first | exact rfl | exact mixl_fits (m := 3) rfl rfl (cG_lt (by decide) rfl) | exact ox_fits rfl rfl rfl
set_option maxRecDepth 4000 in
set_option maxHeartbeats 1000000 in
theorem burn_ok (Bs : List Mem) (g : Nat → Nat) (h : Int) (dn : Bool) (fu : Int) (nq : Nat) (Q : List (DOpn × Nat)) (hfu : fu ≠ 1) (hf0 : 0 ≤ fu ∧ fu ≤ 4096) : DFun Try.prog 78 [.loc 1 0] [.fam Bs, .mix 86 (cG (g) (h) (.arr 2) dn fu), .arx 44 3 nq (Q.flatMap (oF 0))] (.tup []) [.fam Bs, .mix 86 (cG (g) (h) (.arr 2) dn (fuB fu)), .arx 44 3 nq (Q.flatMap (oF 0))] := by
  refine dcalls_go (N := 29) 3 (by kernel_rfl) Try.func78 rfl rfl rfl (by simp only [fr0, Nat.zero_add, Nat.reduceAdd]; exact rfl) rfl fun s0 hs0 => ?_
  refine dwp_seq ?_
  refine dwp_seq ?_
  refine dwp_region ?_
  refine walk_r rfl rfl rfl (op_move (.inl rfl) (ev1 rfl)) ?_
  refine walk_r rfl rfl rfl (op_nc rfl (ev1 rfl) (fun s v h => by cases h; exact ⟨_, rfl⟩)) ?_
  refine walk_r rfl rfl rfl (op_fa rfl fo86_0 (ev1 rfl)) ?_
  refine walk_r rfl rfl rfl (op_fa rfl fo26_4 (ev1 rfl)) ?_
  refine walk_r rfl rfl rfl (op_ldm rfl tb3 (ev1 rfl) rfl rfl) ?_
  refine walk_r rfl rfl rfl (op_eql rfl (ev1 rfl) (ev1 rfl)) ?_
  refine walk_nil ?_
  refine dwp_if_f rfl (by simp [hfu]) ?_
  refine dwp_skip ?_
  refine dwp_region ?_
  refine walk_r rfl rfl rfl (op_move (.inl rfl) (ev1 rfl)) ?_
  refine walk_r rfl rfl rfl (op_move (.inl rfl) (ev1 rfl)) ?_
  refine walk_r rfl rfl rfl (op_nc rfl (ev1 rfl) (fun s v h => by cases h; exact ⟨_, rfl⟩)) ?_
  refine walk_r rfl rfl rfl (op_fa rfl fo86_0 (ev1 rfl)) ?_
  refine walk_r rfl rfl rfl (op_fa rfl fo26_4 (ev1 rfl)) ?_
  refine walk_r rfl rfl rfl (op_ldm rfl tb3 (ev1 rfl) rfl rfl) ?_
  refine walk_r rfl rfl rfl (op_sub' rfl (ev1 rfl) (ev1 rfl) (fun _ => IntWalk.i64_in _ (by omega))) ?_
  refine walk_r rfl rfl rfl (op_max rfl (ev1 rfl) (ev1 rfl)) ?_
  refine walk_r rfl rfl rfl (op_nc rfl (ev1 rfl) (fun s v h => by cases h; exact ⟨_, rfl⟩)) ?_
  refine walk_r rfl rfl rfl (op_fa rfl fo86_0 (ev1 rfl)) ?_
  refine walk_r rfl rfl rfl (op_fa rfl fo26_4 (ev1 rfl)) ?_
  refine walk_s rfl rfl (op_stm rfl tb3 (ev1 rfl) (ev1 rfl) (fun s v h => by cases h <;> exact ⟨rfl, rfl⟩) rfl (by first | decide | exact Nat.le_of_ble_eq_true rfl | simp)) (by simp only [upd, List.set_cons_zero, List.set_cons_succ]; exact rfl) ?_
  refine walk_nil ?_
  refine kend [0, 1, 2] (res_none rfl) rfl rfl ?_ ⟨?_, ?_, ?_, trivial⟩
  rfl
  all_goals first | exact rfl | exact mixl_fits (m := 3) rfl rfl (cG_lt (by decide) rfl) | exact ox_fits rfl rfl rfl
set_option maxRecDepth 4000 in
set_option maxHeartbeats 1000000 in
theorem wait_full (Bs : List Mem) (g : Nat → Nat) (h : Int) (dn : Bool) (fu : Int) (o : DOpn) (nq : Nat) (Q : List (DOpn × Nat)) (hq : ¬ nq < 4096) : DPan Try.prog 76 [.loc 1 0, .agg (oD o)] [.fam Bs, .mix 86 (cG (g) (h) (.arr 2) dn fu), .arx 44 3 nq (Q.flatMap (oF 0))] (.ifc 93 (.val (.agg #[.int .i64 6]))) [.fam Bs, .mix 86 (cG (g) (h) (.arr 2) dn fu), .arx 44 3 nq (Q.flatMap (oF 0))] := by
  refine dcalls_go (N := 27) 3 (by kernel_rfl) Try.func76 rfl rfl rfl (by simp only [fr0, Nat.zero_add, Nat.reduceAdd]; exact rfl) rfl fun s0 hs0 => ?_
  refine dwp_seq ?_
  refine dwp_holes 1 (by simp only [holes, List.cons_append, List.nil_append]; exact rfl) ?_
  refine dwp_region ?_
  refine walk_w rfl rfl rfl (op_boxam 3 rfl (ev1 rfl) rfl) (by simp only [upd, List.set_cons_zero, List.set_cons_succ]; exact rfl) ?_
  refine walk_nil ?_
  refine dwp_seq ?_
  refine dwp_region ?_
  refine walk_r rfl rfl rfl (op_move (.inl rfl) (ev1 rfl)) ?_
  refine walk_r rfl rfl rfl (op_nc rfl (ev1 rfl) (fun s v h => by cases h; exact ⟨_, rfl⟩)) ?_
  refine walk_r rfl rfl rfl (op_fa rfl fo86_0 (ev1 rfl)) ?_
  refine walk_r rfl rfl rfl (op_fa rfl fo26_2 (ev1 rfl)) ?_
  refine walk_r rfl rfl rfl (op_ldm rfl tb24 (ev1 rfl) rfl rfl) ?_
  refine walk_r rfl rfl rfl (op_lenx rfl sl24 (ev1 rfl) rfl) ?_
  refine walk_r rfl rfl rfl (op_lss rfl (ev1 rfl) (ev1 rfl)) ?_
  refine walk_p rfl (dop_callP [] [] [] rfl (ev1 rfl) (ec (ev1 rfl) (ec (ev1 rfl) en)) rfl rfl (need_no _ _ (by simp; omega)) rfl rfl rfl rfl rfl rfl) rfl ?_
  refine kpan [0, 1, 2] rfl rfl ?_ ⟨?_, ?_, ?_, trivial⟩
  rfl
  all_goals first | exact rfl | exact mixl_fits (m := 3) rfl rfl (cG_lt (by decide) rfl) | exact ox_fits rfl rfl rfl
set_option maxRecDepth 4000 in
set_option maxHeartbeats 1000000 in
theorem wait_down (Bs : List Mem) (g : Nat → Nat) (h : Int) (dn : Bool) (fu : Int) (o : DOpn) (nq : Nat) (Q : List (DOpn × Nat)) (hq : nq < 4096) (hfu : fu = 1) : DPan Try.prog 76 [.loc 1 0, .agg (oD o)] [.fam Bs, .mix 86 (cG (g) (h) (.arr 2) dn fu), .arx 44 3 nq (Q.flatMap (oF 0))] (.ifc 93 (.val (.agg #[.int .i64 321]))) [.fam Bs, .mix 86 (cG (g) (h) (.arr 2) true 0), .arx 44 3 nq (Q.flatMap (oF 0))] := by
  refine dcalls_go (N := 27) 3 (by kernel_rfl) Try.func76 rfl rfl rfl (by simp only [fr0, Nat.zero_add, Nat.reduceAdd]; exact rfl) rfl fun s0 hs0 => ?_
  refine dwp_seq ?_
  refine dwp_holes 1 (by simp only [holes, List.cons_append, List.nil_append]; exact rfl) ?_
  refine dwp_region ?_
  refine walk_w rfl rfl rfl (op_boxam 3 rfl (ev1 rfl) rfl) (by simp only [upd, List.set_cons_zero, List.set_cons_succ]; exact rfl) ?_
  refine walk_nil ?_
  refine dwp_seq ?_
  refine dwp_region ?_
  refine walk_r rfl rfl rfl (op_move (.inl rfl) (ev1 rfl)) ?_
  refine walk_r rfl rfl rfl (op_nc rfl (ev1 rfl) (fun s v h => by cases h; exact ⟨_, rfl⟩)) ?_
  refine walk_r rfl rfl rfl (op_fa rfl fo86_0 (ev1 rfl)) ?_
  refine walk_r rfl rfl rfl (op_fa rfl fo26_2 (ev1 rfl)) ?_
  refine walk_r rfl rfl rfl (op_ldm rfl tb24 (ev1 rfl) rfl rfl) ?_
  refine walk_r rfl rfl rfl (op_lenx rfl sl24 (ev1 rfl) rfl) ?_
  refine walk_r rfl rfl rfl (op_lss rfl (ev1 rfl) (ev1 rfl)) ?_
  refine walk_r rfl rfl rfl (dop_call [] [] [] rfl (ev1 rfl) (ec (ev1 rfl) (ec (ev1 rfl) en)) rfl rfl (need_ok _ _ (by simp; omega)) rfl rfl rfl rfl rfl rfl) ?_
  refine walk_nil ?_
  refine dwp_seq ?_
  refine dwp_region ?_
  refine walk_r rfl rfl rfl (op_move (.inl rfl) (ev1 rfl)) ?_
  refine walk_p rfl (dop_callP [0, 1, 2] [] [] rfl (ev1 rfl) (ec (ev1 rfl) en) rfl (by exact mfits _ _ ⟨rfl, rfl, (by first | exact rfl | exact arx_fits rfl rfl (vwL_flat (fun _ => rfl) _) | exact arxr_fits rfl rfl (nlL_flatR (fun _ => rfl) _) | exact arxg_fits rfl rfl (fun _ => rfl) | exact arxs_fits rfl rfl (fun _ => rfl)), trivial⟩) (burn_down Bs g h dn fu nq Q hfu) rfl rfl rfl (by exact (wrc rfl (wrc rfl (wrc (by first | exact rfl | exact sb_arx (fun _ => rfl) | exact sb_arxr (nlL_flatR (fun _ => rfl) _) | exact sb_arxg (fun _ => rfl) | exact sb_arxs (fun _ => rfl)) rfl)))) rfl rfl) rfl ?_
  refine kpan [0, 1, 2] rfl rfl ?_ ⟨?_, ?_, ?_, trivial⟩
  rfl
  all_goals first | exact rfl | exact mixl_fits (m := 3) rfl rfl (cG_lt (by decide) rfl) | exact ox_fits rfl rfl rfl
set_option maxRecDepth 4000 in
set_option maxHeartbeats 1000000 in
theorem wait_ok (Bs : List Mem) (g : Nat → Nat) (h : Int) (dn : Bool) (fu : Int) (o : DOpn) (nq : Nat) (Q : List (DOpn × Nat)) (hq : nq < 4096) (hfu : fu ≠ 1) (hf0 : 0 ≤ fu ∧ fu ≤ 4096) (ho : o.b.length ≤ 100000000) : DFun Try.prog 76 [.loc 1 0, .agg (oD o)] [.fam Bs, .mix 86 (cG (g) (h) (.arr 2) dn fu), .arx 44 3 nq (Q.flatMap (oF 0))] (.tup []) [.fam (Bs ++ [rowB o.b]), .mix 86 (cG (g) (h) (.arr 3) dn (fuB fu)), .gone, .arx 44 3 (nq + 1) ((Q ++ [(o, Bs.length)]).flatMap (oF 0))] := by
  refine dcalls_go (N := 27) 3 (by kernel_rfl) Try.func76 rfl rfl rfl (by simp only [fr0, Nat.zero_add, Nat.reduceAdd]; exact rfl) rfl fun s0 hs0 => ?_
  refine dwp_seq ?_
  refine dwp_holes 1 (by simp only [holes, List.cons_append, List.nil_append]; exact rfl) ?_
  refine dwp_region ?_
  refine walk_w rfl rfl rfl (op_boxam 3 rfl (ev1 rfl) rfl) (by simp only [upd, List.set_cons_zero, List.set_cons_succ]; exact rfl) ?_
  refine walk_nil ?_
  refine dwp_seq ?_
  refine dwp_region ?_
  refine walk_r rfl rfl rfl (op_move (.inl rfl) (ev1 rfl)) ?_
  refine walk_r rfl rfl rfl (op_nc rfl (ev1 rfl) (fun s v h => by cases h; exact ⟨_, rfl⟩)) ?_
  refine walk_r rfl rfl rfl (op_fa rfl fo86_0 (ev1 rfl)) ?_
  refine walk_r rfl rfl rfl (op_fa rfl fo26_2 (ev1 rfl)) ?_
  refine walk_r rfl rfl rfl (op_ldm rfl tb24 (ev1 rfl) rfl rfl) ?_
  refine walk_r rfl rfl rfl (op_lenx rfl sl24 (ev1 rfl) rfl) ?_
  refine walk_r rfl rfl rfl (op_lss rfl (ev1 rfl) (ev1 rfl)) ?_
  refine walk_r rfl rfl rfl (dop_call [] [] [] rfl (ev1 rfl) (ec (ev1 rfl) (ec (ev1 rfl) en)) rfl rfl (need_ok _ _ (by simp; omega)) rfl rfl rfl rfl rfl rfl) ?_
  refine walk_nil ?_
  refine dwp_seq ?_
  refine dwp_region ?_
  refine walk_r rfl rfl rfl (op_move (.inl rfl) (ev1 rfl)) ?_
  refine walk_w rfl rfl rfl (dop_call [0, 1, 2] [] [] rfl (ev1 rfl) (ec (ev1 rfl) en) rfl (by exact mfits _ _ ⟨rfl, rfl, (by first | exact rfl | exact arx_fits rfl rfl (vwL_flat (fun _ => rfl) _) | exact arxr_fits rfl rfl (nlL_flatR (fun _ => rfl) _) | exact arxg_fits rfl rfl (fun _ => rfl) | exact arxs_fits rfl rfl (fun _ => rfl)), trivial⟩) (burn_ok Bs g h dn fu nq Q hfu hf0) rfl rfl rfl (by exact (wrc rfl (wrc rfl (wrc (by first | exact rfl | exact sb_arx (fun _ => rfl) | exact sb_arxr (nlL_flatR (fun _ => rfl) _) | exact sb_arxg (fun _ => rfl) | exact sb_arxs (fun _ => rfl)) rfl)))) rfl rfl) (by simp only [upd, List.set_cons_zero, List.set_cons_succ]; exact rfl) ?_
  refine walk_nil ?_
  refine dwp_holes 2 (by simp only [holes, List.cons_append, List.nil_append]; exact rfl) ?_
  refine dwp_draw [([], []), ([], []), ([], []), ([], []), ([], []), ([1], []), ([3], []), ([0], [0]), ([4], [4]), ([2, 5, 4], [2, 5]), ([], []), ([], []), ([], []), ([1], [1])] mixed (by kernel_rfl) ?_
  refine lex_r rfl rfl (op_move (.inl rfl) (ev1 rfl)) ?_
  refine lex_r rfl rfl (op_move (.inl rfl) (ev1 rfl)) ?_
  refine lex_r rfl rfl (op_nc rfl (ev1 rfl) (fun s v h => by cases h; exact ⟨_, rfl⟩)) ?_
  refine lex_r rfl rfl (op_fa rfl fo86_0 (ev1 rfl)) ?_
  refine lex_r rfl rfl (op_fa rfl fo26_2 (ev1 rfl)) ?_
  refine lex_r rfl rfl (op_ldm rfl tb24 (ev1 rfl) rfl rfl) ?_
  refine lex_r rfl rfl (op_ldmw rfl tb44 (ev1 rfl) rfl rfl) ?_
  refine lex_w rfl rfl (dop_call [0] [] [] rfl (ev1 rfl) (ec (ev1 rfl) en) rfl rfl (copied_F o ho Bs rfl) rfl rfl rfl rfl rfl rfl) rfl (by simp only [upd, List.set_cons_zero, List.set_cons_succ]; exact rfl) ?_
  refine lex_w rfl rfl (op_bsxs (ps := [(0, .tmp 21)]) 4 rfl sl24 zr44 rfl (ec (ev1 rfl) en) rfl rfl rfl rfl (by decide) (by decide) rfl) rfl (by simp only [upd, List.set_cons_zero, List.set_cons_succ]; exact rfl) ?_
  refine lex_w rfl rfl (op_apprr (j := 5) rfl sl24 zr44 rfl (ev1 rfl) (ev1 rfl) rfl rfl rfl (rfl) (fun _ => ⟨by omega, by omega⟩)) rfl (by simp only [upd, List.set_cons_zero, List.set_cons_succ]; exact rfl) ?_
  refine lex_r rfl rfl (op_nc rfl (ev1 rfl) (fun s v h => by cases h; exact ⟨_, rfl⟩)) ?_
  refine lex_r rfl rfl (op_fa rfl fo86_0 (ev1 rfl)) ?_
  refine lex_r rfl rfl (op_fa rfl fo26_2 (ev1 rfl)) ?_
  refine lex_s rfl rfl (op_stm rfl tb24 (ev1 rfl) (ev1 rfl) (fun s v h => by cases h <;> exact ⟨rfl, rfl⟩) rfl (by first | decide | exact Nat.le_of_ble_eq_true rfl | simp)) rfl (by simp only [upd, List.set_cons_zero, List.set_cons_succ]; exact rfl) ?_
  refine lex_nil ?_
  refine kend [0, 1, 2, 5] (res_none rfl) rfl rfl ?_ ⟨?_, ?_, ?_, ?_, trivial⟩
  rfl
  all_goals first | exact rfl | exact mixl_fits (m := 3) rfl rfl (cG_lt (by decide) rfl) | exact ox_fits rfl rfl rfl | exact ox_fits (Q := Q ++ [(o, Bs.length)]) rfl (by rw [List.flatMap_append]; rfl) rfl
end Go.Proofs.Ytjecmkaggobcjaa

namespace Go.Proofs.Ytjecmkaggobcjaa
set_option linter.unusedVariables false
set_option linter.unusedSimpArgs false
open Go.RowKit
theorem vw_oQ {σ : List Nat} {V : Nat → Bool} {M : List Blk} {Bs : List Mem} {nq i j : Nat} {Q : List (DOpn × Nat)} (hp : pos σ i = none) (hV : V i = true) (hM : M[i]? = some (.arx 44 3 nq (Q.flatMap (oF j)))) (hpj : pos σ j = none) (hVj : V j = true) (hMj : M[j]? = some (.fam Bs)) (hQ : ∀ q ∈ Q, Bs[q.2]? = some (rowB q.1.b)) (hn : Q.length = nq) : vw σ V M (.arr i) = some (.slm 3 (Q.map Prod.fst).length ((Q.map Prod.fst).flatMap oD)) := by
  have h1 : vw σ V M (.arr i) = some (.slm 3 nq (Q.flatMap fun q => oD q.1)) := vw_arrS hp hV hM fun q hq => by
    obtain ⟨p, k⟩ := q
    show vw1L σ V M [.val _, .val _, .farr j k] = _
    have h2 := vw1_farr (k := k) hpj hVj hMj (hQ _ hq)
    unfold vw1L; unfold vw1L; unfold vw1L; unfold vw1L
    rw [h2]
    rfl
  rw [h1, List.length_map, hn, List.flatMap_map]
theorem vw_fF {σ : List Nat} {V : Nat → Bool} {M : List Blk} {Bs : List Mem} {j k : Nat} {b : List Nat} (hpj : pos σ j = none) (hVj : V j = true) (hMj : M[j]? = some (.fam Bs)) (hB : Bs[k]? = some (rowB b)) : vw σ V M (.farr j k) = some (rB b) := by
  unfold vw
  rw [hpj]
  show vwFarr V M j k = _
  unfold vwFarr
  rw [hVj, hMj]
  show (match Bs[k]? with | some (.arr _ sz n L) => some (D.slf sz n L) | _ => none) = _
  rw [hB]
  rfl
theorem vw_cG {σ : List Nat} {V : Nat → Bool} {M : List Blk} {Bs : List Mem} {f : Nat → List Nat} {g : Nat → Nat} {h : Int} {dn : Bool} {fu : Int} {nq i : Nat} {Q : List (DOpn × Nat)} (hp : pos σ i = none) (hV : V i = true) (hM : M[i]? = some (.arx 44 3 nq (Q.flatMap (oF 0)))) (hpj : pos σ 0 = none) (hVj : V 0 = true) (hMj : M[0]? = some (.fam Bs)) (hQ : ∀ q ∈ Q, Bs[q.2]? = some (rowB q.1.b)) (hn : Q.length = nq) (hg : ∀ i, i < 4 → Bs[g i]? = some (rowB (f i))) : vw σ V M (.agg (cG g h (.arr i) dn fu)) = some (.agg (dD f h (Q.map Prod.fst) dn fu)) := by
  have hl : vwL σ V M (cG g h (.arr i) dn fu) = some (dD f h (Q.map Prod.fst) dn fu) :=
    vwL_cons' (vw_fF hpj hVj hMj (hg 0 (by omega))) (vwL_cons' (vw_fF hpj hVj hMj (hg 1 (by omega))) (vwL_cons' (vw_fF hpj hVj hMj (hg 2 (by omega))) (vwL_cons' (vw_fF hpj hVj hMj (hg 3 (by omega))) (vwL_cons' (by rfl) (vwL_cons' (vw_oQ hp hV hM hpj hVj hMj hQ hn) (vwL_cons' (by rfl) (vwL_cons' (by rfl) rfl)))))))
  rw [vw, hl]
  rfl
set_option maxRecDepth 4000 in
set_option maxHeartbeats 1000000 in
theorem append_full (Bs : List Mem) (f : Nat → List Nat) (g : Nat → Nat) (h : Int) (dn : Bool) (fu : Int) (o : DOpn) (nq : Nat) (Q : List (DOpn × Nat)) (hg : ∀ i, i < 4 → Bs[g i]? = some (rowB (f i))) (hQ : ∀ q ∈ Q, Bs[q.2]? = some (rowB q.1.b)) (hn : Q.length = nq) (hw : ∀ o ∈ Q.map Prod.fst, mayW o = true) (hb : fewB (szs f) (Q.map Prod.fst)) (hf : 0 ≤ o.fl ∧ o.fl < 4) (hob : o.b.length ≤ 10000000) (hfu : ¬ (afts (szs f) (Q.map Prod.fst)).getD o.fl.toNat 0 + o.b.length ≤ 4194304) : DPan Try.prog 75 [.loc 1 0, .agg (oD o)] [.fam Bs, .mix 86 (cG (g) (h) (.arr 2) dn fu), .arx 44 3 nq (Q.flatMap (oF 0))] (.ifc 93 (.val (.agg #[.int .i64 6]))) [.fam Bs, .mix 86 (cG (g) (h) (.arr 2) dn fu), .arx 44 3 nq (Q.flatMap (oF 0))] := by
  refine dcalls_go (N := 29) 3 (by kernel_rfl) Try.func75 rfl rfl rfl (by simp only [fr0, Nat.zero_add, Nat.reduceAdd]; exact rfl) rfl fun s0 hs0 => ?_
  refine dwp_seq ?_
  have hal : (afts (szs f) (Q.map Prod.fst)).length = 4 := afts_len _ _
  have hab := afts_le hb o.fl.toNat _ (Nat.le_refl _)
  rw [List.take_length] at hab
  have hwl := hb.2.1
  have hab2 : (Q.map Prod.fst).length * 10000000 ≤ 10000 * 10000000 := Nat.mul_le_mul_right _ hwl
  refine dwp_holes 1 (by simp only [holes, List.cons_append, List.nil_append]; exact rfl) ?_
  refine dwp_region ?_
  refine walk_w rfl rfl rfl (op_boxam 3 rfl (ev1 rfl) rfl) (by simp only [upd, List.set_cons_zero, List.set_cons_succ]; exact rfl) ?_
  refine walk_nil ?_
  refine dwp_seq ?_
  refine dwp_holes 1 (by simp only [holes, List.cons_append, List.nil_append]; exact rfl) ?_
  refine dwp_drawP 21 [([], []), ([], []), ([], []), ([1], []), ([0, 2, 4], [4]), ([], []), ([], []), ([], []), ([], []), ([1], []), ([4, 2, 0], [4]), ([], []), ([3], []), ([], []), ([], []), ([4], []), ([], []), ([3], []), ([], []), ([], []), ([], [])] mixed (by kernel_rfl) rfl rfl ?_
  refine lex_r rfl rfl (op_move (.inl rfl) (ev1 rfl)) ?_
  refine lex_r rfl rfl (op_nc rfl (ev1 rfl) (fun s v h => by cases h; exact ⟨_, rfl⟩)) ?_
  refine lex_r rfl rfl (op_fa rfl fo86_0 (ev1 rfl)) ?_
  refine lex_r rfl rfl (op_ldmw rfl tb26 (ev1 rfl) rfl rfl) ?_
  refine lex_w rfl rfl (dop_call [] [0, 2] [4] rfl (ev1 rfl) (ec (ev1 rfl) en) (vwL_cons' (vw_cG rfl rfl rfl rfl rfl rfl hQ hn hg) rfl) rfl (sizesof_o f h (Q.map Prod.fst) dn fu) rfl rfl rfl rfl rfl rfl) rfl (by simp only [upd, List.set_cons_zero, List.set_cons_succ]; exact rfl) ?_
  refine lex_r rfl rfl (op_move (.inl rfl) (ev1 rfl)) ?_
  refine lex_r rfl rfl (op_nc rfl (ev1 rfl) (fun s v h => by cases h; exact ⟨_, rfl⟩)) ?_
  refine lex_r rfl rfl (op_fa rfl fo86_0 (ev1 rfl)) ?_
  refine lex_r rfl rfl (op_fa rfl fo26_2 (ev1 rfl)) ?_
  refine lex_r rfl rfl (op_ldm rfl tb24 (ev1 rfl) rfl rfl) ?_
  refine lex_w rfl rfl (dop_call [4] [2, 0] [] rfl (ev1 rfl) (ec (ev1 rfl) (ec (ev1 rfl) en)) (vwL_cons' rfl (vwL_cons' (vw_oQ rfl rfl rfl rfl rfl rfl hQ hn) rfl)) rfl (behind_d (szs f) (Q.map Prod.fst) rfl hw hb) rfl rfl rfl rfl rfl rfl) rfl (by simp only [upd, List.set_cons_zero, List.set_cons_succ]; exact rfl) ?_
  refine lex_r rfl rfl (op_fa rfl fo44_1 (ev1 rfl)) ?_
  refine lex_r rfl rfl (op_ldm rfl tb3 (ev1 rfl) rfl rfl) ?_
  refine lex_r rfl rfl (op_nc rfl (ev1 rfl) (fun s v h => by cases h; exact ⟨_, rfl⟩)) ?_
  refine lex_r rfl rfl (op_ixfr (j := o.fl.toNat) rfl ar91 (ev1 rfl) (ev1 rfl) (fun _ => by omega) (fun _ => by omega)) ?_
  refine lex_r rfl rfl (op_ldf1 (0) rfl tb3 (ev1 rfl) rfl (fun _ => rfl) (by decide) (fun _ => by omega) rfl) ?_
  refine lex_r rfl rfl (op_fa rfl fo44_2 (ev1 rfl)) ?_
  refine lex_r rfl rfl (op_ldm rfl tb22 (ev1 rfl) rfl rfl) ?_
  refine lex_r rfl rfl (op_len rfl sl22 (ev1 rfl)) ?_
  refine lex_r rfl rfl (op_add' rfl (ev1 rfl) (ev1 rfl) (fun _ => IntWalk.i64_in _ (by omega))) ?_
  refine lex_r rfl rfl (op_leq rfl (ev1 rfl) (ev1 rfl)) ?_
  refine lex_nil ⟨_, _, _, rfl, dop_callP [] [] [] rfl (ev1 rfl) (ec (ev1 rfl) (ec (ev1 rfl) en)) rfl rfl (need_no _ _ (decide_eq_false (by omega))) rfl rfl rfl rfl rfl rfl, ?_⟩
  refine kpan [0, 1, 2] rfl rfl ?_ ⟨?_, ?_, ?_, trivial⟩
  rfl
  all_goals first | exact rfl | exact mixl_fits (m := 3) rfl rfl (cG_lt (by decide) rfl) | exact ox_fits rfl rfl rfl
set_option maxRecDepth 4000 in
set_option maxHeartbeats 1000000 in
theorem append_wfull (Bs : List Mem) (f : Nat → List Nat) (g : Nat → Nat) (h : Int) (dn : Bool) (fu : Int) (o : DOpn) (nq : Nat) (Q : List (DOpn × Nat)) (hg : ∀ i, i < 4 → Bs[g i]? = some (rowB (f i))) (hQ : ∀ q ∈ Q, Bs[q.2]? = some (rowB q.1.b)) (hn : Q.length = nq) (hw : ∀ o ∈ Q.map Prod.fst, mayW o = true) (hb : fewB (szs f) (Q.map Prod.fst)) (hf : 0 ≤ o.fl ∧ o.fl < 4) (hob : o.b.length ≤ 10000000) (hfu : (afts (szs f) (Q.map Prod.fst)).getD o.fl.toNat 0 + o.b.length ≤ 4194304) (hq : ¬ nq < 4096) : DPan Try.prog 75 [.loc 1 0, .agg (oD o)] [.fam Bs, .mix 86 (cG (g) (h) (.arr 2) dn fu), .arx 44 3 nq (Q.flatMap (oF 0))] (.ifc 93 (.val (.agg #[.int .i64 6]))) [.fam Bs, .mix 86 (cG (g) (h) (.arr 2) dn fu), .arx 44 3 nq (Q.flatMap (oF 0))] := by
  refine dcalls_go (N := 29) 3 (by kernel_rfl) Try.func75 rfl rfl rfl (by simp only [fr0, Nat.zero_add, Nat.reduceAdd]; exact rfl) rfl fun s0 hs0 => ?_
  refine dwp_seq ?_
  have hal : (afts (szs f) (Q.map Prod.fst)).length = 4 := afts_len _ _
  have hab := afts_le hb o.fl.toNat _ (Nat.le_refl _)
  rw [List.take_length] at hab
  have hwl := hb.2.1
  have hab2 : (Q.map Prod.fst).length * 10000000 ≤ 10000 * 10000000 := Nat.mul_le_mul_right _ hwl
  refine dwp_holes 1 (by simp only [holes, List.cons_append, List.nil_append]; exact rfl) ?_
  refine dwp_region ?_
  refine walk_w rfl rfl rfl (op_boxam 3 rfl (ev1 rfl) rfl) (by simp only [upd, List.set_cons_zero, List.set_cons_succ]; exact rfl) ?_
  refine walk_nil ?_
  refine dwp_seq ?_
  refine dwp_holes 1 (by simp only [holes, List.cons_append, List.nil_append]; exact rfl) ?_
  refine dwp_draw [([], []), ([], []), ([], []), ([1], []), ([0, 2, 4], [4]), ([], []), ([], []), ([], []), ([], []), ([1], []), ([4, 2, 0], [4]), ([], []), ([3], []), ([], []), ([], []), ([4], []), ([], []), ([3], []), ([], []), ([], []), ([], []), ([], [])] mixed (by kernel_rfl) ?_
  refine lex_r rfl rfl (op_move (.inl rfl) (ev1 rfl)) ?_
  refine lex_r rfl rfl (op_nc rfl (ev1 rfl) (fun s v h => by cases h; exact ⟨_, rfl⟩)) ?_
  refine lex_r rfl rfl (op_fa rfl fo86_0 (ev1 rfl)) ?_
  refine lex_r rfl rfl (op_ldmw rfl tb26 (ev1 rfl) rfl rfl) ?_
  refine lex_w rfl rfl (dop_call [] [0, 2] [4] rfl (ev1 rfl) (ec (ev1 rfl) en) (vwL_cons' (vw_cG rfl rfl rfl rfl rfl rfl hQ hn hg) rfl) rfl (sizesof_o f h (Q.map Prod.fst) dn fu) rfl rfl rfl rfl rfl rfl) rfl (by simp only [upd, List.set_cons_zero, List.set_cons_succ]; exact rfl) ?_
  refine lex_r rfl rfl (op_move (.inl rfl) (ev1 rfl)) ?_
  refine lex_r rfl rfl (op_nc rfl (ev1 rfl) (fun s v h => by cases h; exact ⟨_, rfl⟩)) ?_
  refine lex_r rfl rfl (op_fa rfl fo86_0 (ev1 rfl)) ?_
  refine lex_r rfl rfl (op_fa rfl fo26_2 (ev1 rfl)) ?_
  refine lex_r rfl rfl (op_ldm rfl tb24 (ev1 rfl) rfl rfl) ?_
  refine lex_w rfl rfl (dop_call [4] [2, 0] [] rfl (ev1 rfl) (ec (ev1 rfl) (ec (ev1 rfl) en)) (vwL_cons' rfl (vwL_cons' (vw_oQ rfl rfl rfl rfl rfl rfl hQ hn) rfl)) rfl (behind_d (szs f) (Q.map Prod.fst) rfl hw hb) rfl rfl rfl rfl rfl rfl) rfl (by simp only [upd, List.set_cons_zero, List.set_cons_succ]; exact rfl) ?_
  refine lex_r rfl rfl (op_fa rfl fo44_1 (ev1 rfl)) ?_
  refine lex_r rfl rfl (op_ldm rfl tb3 (ev1 rfl) rfl rfl) ?_
  refine lex_r rfl rfl (op_nc rfl (ev1 rfl) (fun s v h => by cases h; exact ⟨_, rfl⟩)) ?_
  refine lex_r rfl rfl (op_ixfr (j := o.fl.toNat) rfl ar91 (ev1 rfl) (ev1 rfl) (fun _ => by omega) (fun _ => by omega)) ?_
  refine lex_r rfl rfl (op_ldf1 (0) rfl tb3 (ev1 rfl) rfl (fun _ => rfl) (by decide) (fun _ => by omega) rfl) ?_
  refine lex_r rfl rfl (op_fa rfl fo44_2 (ev1 rfl)) ?_
  refine lex_r rfl rfl (op_ldm rfl tb22 (ev1 rfl) rfl rfl) ?_
  refine lex_r rfl rfl (op_len rfl sl22 (ev1 rfl)) ?_
  refine lex_r rfl rfl (op_add' rfl (ev1 rfl) (ev1 rfl) (fun _ => IntWalk.i64_in _ (by omega))) ?_
  refine lex_r rfl rfl (op_leq rfl (ev1 rfl) (ev1 rfl)) ?_
  refine lex_r rfl rfl (dop_call [] [] [] rfl (ev1 rfl) (ec (ev1 rfl) (ec (ev1 rfl) en)) rfl rfl (need_ok _ _ (decide_eq_true (by omega))) rfl rfl rfl rfl rfl rfl) ?_
  refine lex_nil ?_
  refine dwp_region ?_
  refine walk_r rfl rfl rfl (op_move (.inl rfl) (ev1 rfl)) ?_
  refine walk_r rfl rfl rfl (op_ldmw rfl tb44 (ev1 rfl) rfl rfl) ?_
  refine walk_p rfl (dop_callP [0, 1, 2] [] [] rfl (ev1 rfl) (ec (ev1 rfl) (ec (ev1 rfl) en)) rfl (by exact mfits _ _ ⟨rfl, rfl, (by first | exact rfl | exact arx_fits rfl rfl (vwL_flat (fun _ => rfl) _) | exact arxr_fits rfl rfl (nlL_flatR (fun _ => rfl) _) | exact arxg_fits rfl rfl (fun _ => rfl) | exact arxs_fits rfl rfl (fun _ => rfl)), trivial⟩) (wait_full Bs g h dn fu o nq Q hq) rfl rfl rfl (by exact (wrc rfl (wrc rfl (wrc (by first | exact rfl | exact sb_arx (fun _ => rfl) | exact sb_arxr (nlL_flatR (fun _ => rfl) _) | exact sb_arxg (fun _ => rfl) | exact sb_arxs (fun _ => rfl)) rfl)))) rfl rfl) rfl ?_
  refine kpan [0, 1, 2] rfl rfl ?_ ⟨?_, ?_, ?_, trivial⟩
  rfl
  all_goals first | exact rfl | exact mixl_fits (m := 3) rfl rfl (cG_lt (by decide) rfl) | exact ox_fits rfl rfl rfl
set_option maxRecDepth 4000 in
set_option maxHeartbeats 1000000 in
theorem append_down (Bs : List Mem) (f : Nat → List Nat) (g : Nat → Nat) (h : Int) (dn : Bool) (fu : Int) (o : DOpn) (nq : Nat) (Q : List (DOpn × Nat)) (hg : ∀ i, i < 4 → Bs[g i]? = some (rowB (f i))) (hQ : ∀ q ∈ Q, Bs[q.2]? = some (rowB q.1.b)) (hn : Q.length = nq) (hw : ∀ o ∈ Q.map Prod.fst, mayW o = true) (hb : fewB (szs f) (Q.map Prod.fst)) (hf : 0 ≤ o.fl ∧ o.fl < 4) (hob : o.b.length ≤ 10000000) (hfu : (afts (szs f) (Q.map Prod.fst)).getD o.fl.toNat 0 + o.b.length ≤ 4194304) (hq : nq < 4096) (hf1 : fu = 1) : DPan Try.prog 75 [.loc 1 0, .agg (oD o)] [.fam Bs, .mix 86 (cG (g) (h) (.arr 2) dn fu), .arx 44 3 nq (Q.flatMap (oF 0))] (.ifc 93 (.val (.agg #[.int .i64 321]))) [.fam Bs, .mix 86 (cG (g) (h) (.arr 2) true 0), .arx 44 3 nq (Q.flatMap (oF 0))] := by
  refine dcalls_go (N := 29) 3 (by kernel_rfl) Try.func75 rfl rfl rfl (by simp only [fr0, Nat.zero_add, Nat.reduceAdd]; exact rfl) rfl fun s0 hs0 => ?_
  refine dwp_seq ?_
  have hal : (afts (szs f) (Q.map Prod.fst)).length = 4 := afts_len _ _
  have hab := afts_le hb o.fl.toNat _ (Nat.le_refl _)
  rw [List.take_length] at hab
  have hwl := hb.2.1
  have hab2 : (Q.map Prod.fst).length * 10000000 ≤ 10000 * 10000000 := Nat.mul_le_mul_right _ hwl
  refine dwp_holes 1 (by simp only [holes, List.cons_append, List.nil_append]; exact rfl) ?_
  refine dwp_region ?_
  refine walk_w rfl rfl rfl (op_boxam 3 rfl (ev1 rfl) rfl) (by simp only [upd, List.set_cons_zero, List.set_cons_succ]; exact rfl) ?_
  refine walk_nil ?_
  refine dwp_seq ?_
  refine dwp_holes 1 (by simp only [holes, List.cons_append, List.nil_append]; exact rfl) ?_
  refine dwp_draw [([], []), ([], []), ([], []), ([1], []), ([0, 2, 4], [4]), ([], []), ([], []), ([], []), ([], []), ([1], []), ([4, 2, 0], [4]), ([], []), ([3], []), ([], []), ([], []), ([4], []), ([], []), ([3], []), ([], []), ([], []), ([], []), ([], [])] mixed (by kernel_rfl) ?_
  refine lex_r rfl rfl (op_move (.inl rfl) (ev1 rfl)) ?_
  refine lex_r rfl rfl (op_nc rfl (ev1 rfl) (fun s v h => by cases h; exact ⟨_, rfl⟩)) ?_
  refine lex_r rfl rfl (op_fa rfl fo86_0 (ev1 rfl)) ?_
  refine lex_r rfl rfl (op_ldmw rfl tb26 (ev1 rfl) rfl rfl) ?_
  refine lex_w rfl rfl (dop_call [] [0, 2] [4] rfl (ev1 rfl) (ec (ev1 rfl) en) (vwL_cons' (vw_cG rfl rfl rfl rfl rfl rfl hQ hn hg) rfl) rfl (sizesof_o f h (Q.map Prod.fst) dn fu) rfl rfl rfl rfl rfl rfl) rfl (by simp only [upd, List.set_cons_zero, List.set_cons_succ]; exact rfl) ?_
  refine lex_r rfl rfl (op_move (.inl rfl) (ev1 rfl)) ?_
  refine lex_r rfl rfl (op_nc rfl (ev1 rfl) (fun s v h => by cases h; exact ⟨_, rfl⟩)) ?_
  refine lex_r rfl rfl (op_fa rfl fo86_0 (ev1 rfl)) ?_
  refine lex_r rfl rfl (op_fa rfl fo26_2 (ev1 rfl)) ?_
  refine lex_r rfl rfl (op_ldm rfl tb24 (ev1 rfl) rfl rfl) ?_
  refine lex_w rfl rfl (dop_call [4] [2, 0] [] rfl (ev1 rfl) (ec (ev1 rfl) (ec (ev1 rfl) en)) (vwL_cons' rfl (vwL_cons' (vw_oQ rfl rfl rfl rfl rfl rfl hQ hn) rfl)) rfl (behind_d (szs f) (Q.map Prod.fst) rfl hw hb) rfl rfl rfl rfl rfl rfl) rfl (by simp only [upd, List.set_cons_zero, List.set_cons_succ]; exact rfl) ?_
  refine lex_r rfl rfl (op_fa rfl fo44_1 (ev1 rfl)) ?_
  refine lex_r rfl rfl (op_ldm rfl tb3 (ev1 rfl) rfl rfl) ?_
  refine lex_r rfl rfl (op_nc rfl (ev1 rfl) (fun s v h => by cases h; exact ⟨_, rfl⟩)) ?_
  refine lex_r rfl rfl (op_ixfr (j := o.fl.toNat) rfl ar91 (ev1 rfl) (ev1 rfl) (fun _ => by omega) (fun _ => by omega)) ?_
  refine lex_r rfl rfl (op_ldf1 (0) rfl tb3 (ev1 rfl) rfl (fun _ => rfl) (by decide) (fun _ => by omega) rfl) ?_
  refine lex_r rfl rfl (op_fa rfl fo44_2 (ev1 rfl)) ?_
  refine lex_r rfl rfl (op_ldm rfl tb22 (ev1 rfl) rfl rfl) ?_
  refine lex_r rfl rfl (op_len rfl sl22 (ev1 rfl)) ?_
  refine lex_r rfl rfl (op_add' rfl (ev1 rfl) (ev1 rfl) (fun _ => IntWalk.i64_in _ (by omega))) ?_
  refine lex_r rfl rfl (op_leq rfl (ev1 rfl) (ev1 rfl)) ?_
  refine lex_r rfl rfl (dop_call [] [] [] rfl (ev1 rfl) (ec (ev1 rfl) (ec (ev1 rfl) en)) rfl rfl (need_ok _ _ (decide_eq_true (by omega))) rfl rfl rfl rfl rfl rfl) ?_
  refine lex_nil ?_
  refine dwp_region ?_
  refine walk_r rfl rfl rfl (op_move (.inl rfl) (ev1 rfl)) ?_
  refine walk_r rfl rfl rfl (op_ldmw rfl tb44 (ev1 rfl) rfl rfl) ?_
  refine walk_p rfl (dop_callP [0, 1, 2] [] [] rfl (ev1 rfl) (ec (ev1 rfl) (ec (ev1 rfl) en)) rfl (by exact mfits _ _ ⟨rfl, rfl, (by first | exact rfl | exact arx_fits rfl rfl (vwL_flat (fun _ => rfl) _) | exact arxr_fits rfl rfl (nlL_flatR (fun _ => rfl) _) | exact arxg_fits rfl rfl (fun _ => rfl) | exact arxs_fits rfl rfl (fun _ => rfl)), trivial⟩) (wait_down Bs g h dn fu o nq Q hq hf1) rfl rfl rfl (by exact (wrc rfl (wrc rfl (wrc (by first | exact rfl | exact sb_arx (fun _ => rfl) | exact sb_arxr (nlL_flatR (fun _ => rfl) _) | exact sb_arxg (fun _ => rfl) | exact sb_arxs (fun _ => rfl)) rfl)))) rfl rfl) rfl ?_
  refine kpan [0, 1, 2] rfl rfl ?_ ⟨?_, ?_, ?_, trivial⟩
  rfl
  all_goals first | exact rfl | exact mixl_fits (m := 3) rfl rfl (cG_lt (by decide) rfl) | exact ox_fits rfl rfl rfl
set_option maxRecDepth 4000 in
set_option maxHeartbeats 1000000 in
theorem append_ok (Bs : List Mem) (f : Nat → List Nat) (g : Nat → Nat) (h : Int) (dn : Bool) (fu : Int) (o : DOpn) (nq : Nat) (Q : List (DOpn × Nat)) (hg : ∀ i, i < 4 → Bs[g i]? = some (rowB (f i))) (hQ : ∀ q ∈ Q, Bs[q.2]? = some (rowB q.1.b)) (hn : Q.length = nq) (hw : ∀ o ∈ Q.map Prod.fst, mayW o = true) (hb : fewB (szs f) (Q.map Prod.fst)) (hf : 0 ≤ o.fl ∧ o.fl < 4) (hob : o.b.length ≤ 10000000) (hfu : (afts (szs f) (Q.map Prod.fst)).getD o.fl.toNat 0 + o.b.length ≤ 4194304) (hq : nq < 4096) (hf1 : fu ≠ 1) (hf0 : 0 ≤ fu ∧ fu ≤ 4096) : DFun Try.prog 75 [.loc 1 0, .agg (oD o)] [.fam Bs, .mix 86 (cG (g) (h) (.arr 2) dn fu), .arx 44 3 nq (Q.flatMap (oF 0))] (.tup []) [.fam (Bs ++ [rowB o.b]), .mix 86 (cG (g) (h) (.arr 3) dn (fuB fu)), .gone, .arx 44 3 (nq + 1) ((Q ++ [(o, Bs.length)]).flatMap (oF 0))] := by
  refine dcalls_go (N := 29) 3 (by kernel_rfl) Try.func75 rfl rfl rfl (by simp only [fr0, Nat.zero_add, Nat.reduceAdd]; exact rfl) rfl fun s0 hs0 => ?_
  refine dwp_seq ?_
  have hal : (afts (szs f) (Q.map Prod.fst)).length = 4 := afts_len _ _
  have hab := afts_le hb o.fl.toNat _ (Nat.le_refl _)
  rw [List.take_length] at hab
  have hwl := hb.2.1
  have hab2 : (Q.map Prod.fst).length * 10000000 ≤ 10000 * 10000000 := Nat.mul_le_mul_right _ hwl
  refine dwp_holes 1 (by simp only [holes, List.cons_append, List.nil_append]; exact rfl) ?_
  refine dwp_region ?_
  refine walk_w rfl rfl rfl (op_boxam 3 rfl (ev1 rfl) rfl) (by simp only [upd, List.set_cons_zero, List.set_cons_succ]; exact rfl) ?_
  refine walk_nil ?_
  refine dwp_seq ?_
  refine dwp_holes 1 (by simp only [holes, List.cons_append, List.nil_append]; exact rfl) ?_
  refine dwp_draw [([], []), ([], []), ([], []), ([1], []), ([0, 2, 4], [4]), ([], []), ([], []), ([], []), ([], []), ([1], []), ([4, 2, 0], [4]), ([], []), ([3], []), ([], []), ([], []), ([4], []), ([], []), ([3], []), ([], []), ([], []), ([], []), ([], [])] mixed (by kernel_rfl) ?_
  refine lex_r rfl rfl (op_move (.inl rfl) (ev1 rfl)) ?_
  refine lex_r rfl rfl (op_nc rfl (ev1 rfl) (fun s v h => by cases h; exact ⟨_, rfl⟩)) ?_
  refine lex_r rfl rfl (op_fa rfl fo86_0 (ev1 rfl)) ?_
  refine lex_r rfl rfl (op_ldmw rfl tb26 (ev1 rfl) rfl rfl) ?_
  refine lex_w rfl rfl (dop_call [] [0, 2] [4] rfl (ev1 rfl) (ec (ev1 rfl) en) (vwL_cons' (vw_cG rfl rfl rfl rfl rfl rfl hQ hn hg) rfl) rfl (sizesof_o f h (Q.map Prod.fst) dn fu) rfl rfl rfl rfl rfl rfl) rfl (by simp only [upd, List.set_cons_zero, List.set_cons_succ]; exact rfl) ?_
  refine lex_r rfl rfl (op_move (.inl rfl) (ev1 rfl)) ?_
  refine lex_r rfl rfl (op_nc rfl (ev1 rfl) (fun s v h => by cases h; exact ⟨_, rfl⟩)) ?_
  refine lex_r rfl rfl (op_fa rfl fo86_0 (ev1 rfl)) ?_
  refine lex_r rfl rfl (op_fa rfl fo26_2 (ev1 rfl)) ?_
  refine lex_r rfl rfl (op_ldm rfl tb24 (ev1 rfl) rfl rfl) ?_
  refine lex_w rfl rfl (dop_call [4] [2, 0] [] rfl (ev1 rfl) (ec (ev1 rfl) (ec (ev1 rfl) en)) (vwL_cons' rfl (vwL_cons' (vw_oQ rfl rfl rfl rfl rfl rfl hQ hn) rfl)) rfl (behind_d (szs f) (Q.map Prod.fst) rfl hw hb) rfl rfl rfl rfl rfl rfl) rfl (by simp only [upd, List.set_cons_zero, List.set_cons_succ]; exact rfl) ?_
  refine lex_r rfl rfl (op_fa rfl fo44_1 (ev1 rfl)) ?_
  refine lex_r rfl rfl (op_ldm rfl tb3 (ev1 rfl) rfl rfl) ?_
  refine lex_r rfl rfl (op_nc rfl (ev1 rfl) (fun s v h => by cases h; exact ⟨_, rfl⟩)) ?_
  refine lex_r rfl rfl (op_ixfr (j := o.fl.toNat) rfl ar91 (ev1 rfl) (ev1 rfl) (fun _ => by omega) (fun _ => by omega)) ?_
  refine lex_r rfl rfl (op_ldf1 (0) rfl tb3 (ev1 rfl) rfl (fun _ => rfl) (by decide) (fun _ => by omega) rfl) ?_
  refine lex_r rfl rfl (op_fa rfl fo44_2 (ev1 rfl)) ?_
  refine lex_r rfl rfl (op_ldm rfl tb22 (ev1 rfl) rfl rfl) ?_
  refine lex_r rfl rfl (op_len rfl sl22 (ev1 rfl)) ?_
  refine lex_r rfl rfl (op_add' rfl (ev1 rfl) (ev1 rfl) (fun _ => IntWalk.i64_in _ (by omega))) ?_
  refine lex_r rfl rfl (op_leq rfl (ev1 rfl) (ev1 rfl)) ?_
  refine lex_r rfl rfl (dop_call [] [] [] rfl (ev1 rfl) (ec (ev1 rfl) (ec (ev1 rfl) en)) rfl rfl (need_ok _ _ (decide_eq_true (by omega))) rfl rfl rfl rfl rfl rfl) ?_
  refine lex_nil ?_
  refine dwp_holes 1 (by simp only [holes, List.cons_append, List.nil_append]; exact rfl) ?_
  refine dwp_region ?_
  refine walk_r rfl rfl rfl (op_move (.inl rfl) (ev1 rfl)) ?_
  refine walk_r rfl rfl rfl (op_ldmw rfl tb44 (ev1 rfl) rfl rfl) ?_
  refine walk_w rfl rfl rfl (dop_call [0, 1, 2] [] [5] rfl (ev1 rfl) (ec (ev1 rfl) (ec (ev1 rfl) en)) rfl (by exact mfits _ _ ⟨rfl, rfl, (by first | exact rfl | exact arx_fits rfl rfl (vwL_flat (fun _ => rfl) _) | exact arxr_fits rfl rfl (nlL_flatR (fun _ => rfl) _) | exact arxg_fits rfl rfl (fun _ => rfl) | exact arxs_fits rfl rfl (fun _ => rfl)), trivial⟩) (wait_ok Bs g h dn fu o nq Q hq hf1 hf0 (by omega)) rfl rfl rfl (by exact (wrc rfl (wrc rfl (wrc rfl (wrc (by first | exact rfl | exact sb_arx (fun _ => rfl) | exact sb_arxr (nlL_flatR (fun _ => rfl) _) | exact sb_arxg (fun _ => rfl) | exact sb_arxs (fun _ => rfl)) rfl))))) rfl rfl) (by simp only [upd, List.set_cons_zero, List.set_cons_succ]; exact rfl) ?_
  refine walk_nil ?_
  refine kend [0, 1, 2, 5] (res_none rfl) rfl rfl ?_ ⟨?_, ?_, ?_, ?_, trivial⟩
  rfl
  all_goals first | exact rfl | exact mixl_fits (m := 3) rfl rfl (cG_lt (by decide) rfl) | exact ox_fits rfl rfl rfl | exact ox_fits (Q := Q ++ [(o, Bs.length)]) rfl rfl rfl
end Go.Proofs.Ytjecmkaggobcjaa

namespace Go.Proofs.Ytjecmkaggobcjaa
set_option linter.unusedVariables false
set_option linter.unusedSimpArgs false
open Go.RowKit
theorem allF_at {f : Nat → List Nat} {h : Int} {w : List DOpn} {dn : Bool} {fu : Int} (hc : chkB f h w dn fu = true) : ∀ i, i < 4 → (f i).length ≤ 100000000 := by
  unfold chkB at hc
  simp only [Bool.and_eq_true] at hc
  have h2 : allF f = true := hc.1.2
  unfold allF at h2
  simp at h2
  intro i hi
  have : i = 0 ∨ i = 1 ∨ i = 2 ∨ i = 3 := by omega
  rcases this with rfl | rfl | rfl | rfl <;> omega
set_option maxRecDepth 4000 in
set_option maxHeartbeats 1000000 in
theorem rise_no (f : Nat → List Nat) (h : Int) (w : List DOpn) (dn : Bool) (fu : Int) (hb : fewB (szs f) w) (hc : ¬ chkB f h w dn fu = true) : DFun Try.prog 33 [.agg (dD f h w dn fu)] [] (.tup [.val (.agg #[.slice none 0 0, .slice none 0 0, .slice none 0 0, .slice none 0 0, .int .i64 0, .slice none 0 0, .bool false, .int .i64 0]), .val (.int .i64 320)]) [] := by
  refine dcalls_body (N := 27) 0 (by kernel_rfl) Try.func33 rfl rfl rfl (by simp only [fr0, Nat.zero_add, Nat.reduceAdd]; exact rfl) rfl fun s0 hs0 => ?_
  refine dbody_seq rfl hs0 ?_
  refine dwp_holes 2 (by simp only [holes, List.cons_append, List.nil_append]; exact rfl) ?_
  refine dwp_region ?_
  refine walk_r rfl rfl rfl (op_boxf rfl rfl (ev1 rfl)) ?_
  refine walk_w rfl rfl rfl (op_alloc 0 rfl zr26 rfl) (by simp only [upd, List.set_cons_zero, List.set_cons_succ]; exact rfl) ?_
  refine walk_w rfl rfl rfl (op_alloc 1 rfl zr31 rfl) (by simp only [upd, List.set_cons_zero, List.set_cons_succ]; exact rfl) ?_
  refine walk_nil ?_
  refine dbody_defer (l0 := [_]) rfl rfl rfl rfl rfl hs0 ?_
  refine walk_r rfl rfl rfl (op_mkf rfl en (ec (ev1 rfl) en)) ?_
  refine walk_nil ⟨_, _, _, 2, ev1 rfl, Nat.le_trans hs0 (by decide), rfl, ?_⟩
  have hs1 : s0.M.length ≤ 2 := Nat.le_trans hs0 (by decide)
  refine dbody_end rfl hs0 ?_
  refine dwp_seq ?_
  refine dwp_region ?_
  refine walk_r rfl rfl rfl (op_lddr rfl tb26 (ev1 rfl) rfl rfl) ?_
  refine walk_r rfl rfl rfl (dop_call [] [] [] rfl (ev1 rfl) (ec (ev1 rfl) en) rfl rfl (check_d f h w dn fu hb) rfl rfl rfl rfl rfl rfl) ?_
  refine walk_r rfl rfl rfl (op_eql rfl (ev1 rfl) (ev1 rfl)) ?_
  refine walk_p rfl (dop_callP [] [] [] rfl (ev1 rfl) (ec (ev1 rfl) (ec (ev1 rfl) en)) rfl rfl (need_no _ _ (by rw [if_neg hc]; rfl)) rfl rfl rfl rfl rfl rfl) rfl ?_
  refine kdef (dturn_caught [1] [] rfl rfl rfl (risef_caught _ _) rfl rfl rfl rfl rfl) ?_
  refine kend0 (rs2 rfl (rv_w tb26 rfl rfl rfl) (rv_1 tb31 rfl rfl rfl)) rfl ?_
  rfl
set_option maxRecDepth 4000 in
set_option maxHeartbeats 1000000 in
theorem rise_none (f : Nat → List Nat) (h : Int) (w : List DOpn) (dn : Bool) (fu : Int) (hb : fewB (szs f) w) (hc : chkB f h w dn fu = true) (hd : dn = false) : DFun Try.prog 33 [.agg (dD f h w dn fu)] [] (.tup [.val (.agg #[.slice none 0 0, .slice none 0 0, .slice none 0 0, .slice none 0 0, .int .i64 0, .slice none 0 0, .bool false, .int .i64 0]), .val (.int .i64 4)]) [] := by
  refine dcalls_body (N := 27) 0 (by kernel_rfl) Try.func33 rfl rfl rfl (by simp only [fr0, Nat.zero_add, Nat.reduceAdd]; exact rfl) rfl fun s0 hs0 => ?_
  refine dbody_seq rfl hs0 ?_
  refine dwp_holes 2 (by simp only [holes, List.cons_append, List.nil_append]; exact rfl) ?_
  refine dwp_region ?_
  refine walk_r rfl rfl rfl (op_boxf rfl rfl (ev1 rfl)) ?_
  refine walk_w rfl rfl rfl (op_alloc 0 rfl zr26 rfl) (by simp only [upd, List.set_cons_zero, List.set_cons_succ]; exact rfl) ?_
  refine walk_w rfl rfl rfl (op_alloc 1 rfl zr31 rfl) (by simp only [upd, List.set_cons_zero, List.set_cons_succ]; exact rfl) ?_
  refine walk_nil ?_
  refine dbody_defer (l0 := [_]) rfl rfl rfl rfl rfl hs0 ?_
  refine walk_r rfl rfl rfl (op_mkf rfl en (ec (ev1 rfl) en)) ?_
  refine walk_nil ⟨_, _, _, 2, ev1 rfl, Nat.le_trans hs0 (by decide), rfl, ?_⟩
  have hs1 : s0.M.length ≤ 2 := Nat.le_trans hs0 (by decide)
  refine dbody_end rfl hs0 ?_
  refine dwp_seq ?_
  refine dwp_region ?_
  refine walk_r rfl rfl rfl (op_lddr rfl tb26 (ev1 rfl) rfl rfl) ?_
  refine walk_r rfl rfl rfl (dop_call [] [] [] rfl (ev1 rfl) (ec (ev1 rfl) en) rfl rfl (check_d f h w dn fu hb) rfl rfl rfl rfl rfl rfl) ?_
  refine walk_r rfl rfl rfl (op_eql rfl (ev1 rfl) (ev1 rfl)) ?_
  refine walk_r rfl rfl rfl (dop_call [] [] [] rfl (ev1 rfl) (ec (ev1 rfl) (ec (ev1 rfl) en)) rfl rfl (need_ok _ _ (by rw [if_pos hc]; rfl)) rfl rfl rfl rfl rfl rfl) ?_
  refine walk_nil ?_
  refine dwp_seq ?_
  refine dwp_region ?_
  refine walk_r rfl rfl rfl (op_fadm rfl fo26_3 (ev1 rfl)) ?_
  refine walk_r rfl rfl rfl (op_lddm rfl tb4 (ev1 rfl) rfl) ?_
  refine walk_p rfl (dop_callP [] [] [] rfl (ev1 rfl) (ec (ev1 rfl) (ec (ev1 rfl) en)) rfl rfl (need_no _ _ (hd)) rfl rfl rfl rfl rfl rfl) rfl ?_
  refine kdef (dturn_caught [1] [] rfl rfl rfl (risef_caught _ _) rfl rfl rfl rfl rfl) ?_
  refine kend0 (rs2 rfl (rv_w tb26 rfl rfl rfl) (rv_1 tb31 rfl rfl rfl)) rfl ?_
  rfl
set_option maxRecDepth 4000 in
set_option maxHeartbeats 1000000 in
theorem rise_ok (f : Nat → List Nat) (h : Int) (w : List DOpn) (dn : Bool) (fu : Int) (hb : fewB (szs f) w) (hc : chkB f h w dn fu = true) (hd : dn = true) : DFun Try.prog 33 [.agg (dD f h w dn fu)] [] (.tup [.agg [.farr 0 0, .farr 0 1, .farr 0 2, .farr 0 3, .val (.int .i64 h), .val (.slice none 0 0), .val (.bool false), .val (.int .i64 fu)], .val (.int .i64 0)]) [.fam (fB f 4 ++ famO w)] := by
  refine dcalls_body (N := 27) 0 (by kernel_rfl) Try.func33 rfl rfl rfl (by simp only [fr0, Nat.zero_add, Nat.reduceAdd]; exact rfl) rfl fun s0 hs0 => ?_
  refine dbody_seq rfl hs0 ?_
  refine dwp_holes 2 (by simp only [holes, List.cons_append, List.nil_append]; exact rfl) ?_
  refine dwp_region ?_
  refine walk_r rfl rfl rfl (op_boxf rfl rfl (ev1 rfl)) ?_
  refine walk_w rfl rfl rfl (op_alloc 0 rfl zr26 rfl) (by simp only [upd, List.set_cons_zero, List.set_cons_succ]; exact rfl) ?_
  refine walk_w rfl rfl rfl (op_alloc 1 rfl zr31 rfl) (by simp only [upd, List.set_cons_zero, List.set_cons_succ]; exact rfl) ?_
  refine walk_nil ?_
  refine dbody_defer (l0 := [_]) rfl rfl rfl rfl rfl hs0 ?_
  refine walk_r rfl rfl rfl (op_mkf rfl en (ec (ev1 rfl) en)) ?_
  refine walk_nil ⟨_, _, _, 2, ev1 rfl, Nat.le_trans hs0 (by decide), rfl, ?_⟩
  have hs1 : s0.M.length ≤ 2 := Nat.le_trans hs0 (by decide)
  refine dbody_end rfl hs0 ?_
  refine dwp_seq ?_
  refine dwp_region ?_
  refine walk_r rfl rfl rfl (op_lddr rfl tb26 (ev1 rfl) rfl rfl) ?_
  refine walk_r rfl rfl rfl (dop_call [] [] [] rfl (ev1 rfl) (ec (ev1 rfl) en) rfl rfl (check_d f h w dn fu hb) rfl rfl rfl rfl rfl rfl) ?_
  refine walk_r rfl rfl rfl (op_eql rfl (ev1 rfl) (ev1 rfl)) ?_
  refine walk_r rfl rfl rfl (dop_call [] [] [] rfl (ev1 rfl) (ec (ev1 rfl) (ec (ev1 rfl) en)) rfl rfl (need_ok _ _ (by rw [if_pos hc]; rfl)) rfl rfl rfl rfl rfl rfl) ?_
  refine walk_nil ?_
  refine dwp_seq ?_
  refine dwp_region ?_
  refine walk_r rfl rfl rfl (op_fadm rfl fo26_3 (ev1 rfl)) ?_
  refine walk_r rfl rfl rfl (op_lddm rfl tb4 (ev1 rfl) rfl) ?_
  refine walk_r rfl rfl rfl (dop_call [] [] [] rfl (ev1 rfl) (ec (ev1 rfl) (ec (ev1 rfl) en)) rfl rfl (need_ok _ _ (hd)) rfl rfl rfl rfl rfl rfl) ?_
  refine walk_nil ?_
  refine dwp_seq ?_
  refine dwp_hole ?_
  refine dwp_fam 2 rfl (by simp only [List.cons_append, List.nil_append, List.set_cons_zero, List.set_cons_succ]; exact rfl) ?_
  refine dwp_holes 2 (by simp only [holes, List.cons_append, List.nil_append]; exact rfl) ?_
  refine dwp_region ?_
  refine walk_r rfl rfl rfl (op_lddr rfl tb26 (ev1 rfl) rfl rfl) ?_
  refine walk_w rfl rfl rfl (dop_call [2] [] [3, 4] rfl (ev1 rfl) (ec (ev1 rfl) en) rfl rfl (chof_F f h w dn fu (allF_at hc) hb) rfl rfl rfl (by exact (wrc rfl (wrc rfl (wrc (by first | exact rfl | exact sb_arx (fun _ => rfl) | exact sb_arxr (nlL_flatR (fun _ => rfl) _) | exact sb_arxg (fun _ => rfl) | exact sb_arxs (fun _ => rfl)) rfl)))) rfl rfl) (by simp only [upd, List.set_cons_zero, List.set_cons_succ]; exact rfl) ?_
  refine walk_r rfl rfl rfl (op_move (.inr rfl) (ev1 rfl)) ?_
  refine walk_nil ?_
  refine dwp_seq ?_
  refine dwp_region ?_
  refine walk_r rfl rfl rfl (op_move (.inl rfl) (ev1 rfl)) ?_
  refine walk_r rfl rfl rfl (op_move (.inl rfl) (ev1 rfl)) ?_
  refine walk_r rfl rfl rfl (op_nc rfl (ev1 rfl) (fun s v h => by cases h; exact ⟨_, rfl⟩)) ?_
  refine walk_r rfl rfl rfl (op_fa rfl fo86_0 (ev1 rfl)) ?_
  refine walk_r rfl rfl rfl (op_fa rfl fo26_3 (ev1 rfl)) ?_
  refine walk_s rfl rfl (op_stm rfl tb4 (ev1 rfl) (ev1 rfl) (fun s v h => by cases h <;> exact ⟨rfl, rfl⟩) rfl (by first | decide | exact Nat.le_of_ble_eq_true rfl | simp)) (by simp only [upd, List.set_cons_zero, List.set_cons_succ]; exact rfl) ?_
  refine walk_r rfl rfl rfl (op_nc rfl (ev1 rfl) (fun s v h => by cases h; exact ⟨_, rfl⟩)) ?_
  refine walk_r rfl rfl rfl (op_fa rfl fo86_0 (ev1 rfl)) ?_
  refine walk_r rfl rfl rfl (op_fa rfl fo26_2 (ev1 rfl)) ?_
  refine walk_s rfl rfl (op_stm rfl tb24 (ev1 rfl) (ev1 rfl) (fun s v h => by cases h <;> exact ⟨rfl, rfl⟩) rfl (by first | decide | exact Nat.le_of_ble_eq_true rfl | simp)) (by simp only [upd, List.set_cons_zero, List.set_cons_succ]; exact rfl) ?_
  refine walk_nil ?_
  refine dwp_seq ?_
  refine dwp_region ?_
  refine walk_r rfl rfl rfl (op_move (.inl rfl) (ev1 rfl)) ?_
  refine walk_r rfl rfl rfl (op_nc rfl (ev1 rfl) (fun s v h => by cases h; exact ⟨_, rfl⟩)) ?_
  refine walk_r rfl rfl rfl (op_fa rfl fo86_0 (ev1 rfl)) ?_
  refine walk_r rfl rfl rfl (op_ldmw rfl tb26 (ev1 rfl) rfl rfl) ?_
  refine walk_s rfl rfl (op_stam rfl tb26 (ev1 rfl) (ev1 rfl) rfl rfl rfl rfl) (by simp only [upd, List.set_cons_zero, List.set_cons_succ]; exact rfl) ?_
  refine walk_s rfl rfl (op_stwi rfl tb31 (ev1 rfl) (ev1 rfl) rfl) (by simp only [upd, List.set_cons_zero, List.set_cons_succ]; exact rfl) ?_
  refine walk_nil ?_
  refine dwp_ret ?_
  refine kdef (dturn_idle [1] [] rfl rfl (risef_idle _) rfl rfl rfl rfl rfl) ?_
  refine kend [2] (rs2 rfl (rv_mw tb26 rfl rfl rfl) (rv_1 tb31 rfl rfl rfl)) rfl rfl ?_ ⟨rfl, trivial⟩
  rfl
set_option maxRecDepth 4000 in
set_option maxHeartbeats 1000000 in
theorem arm_no (f : Nat → List Nat) (h : Int) (w : List DOpn) (dn : Bool) (fu : Int) (n : Int) (hb : fewB (szs f) w) (hc : ¬ chkB f h w dn fu = true) : DFun Try.prog 30 [.agg (dD f h w dn fu), .val (.int .i64 n)] [] (.tup [.val (.agg #[.slice none 0 0, .slice none 0 0, .slice none 0 0, .slice none 0 0, .int .i64 0, .slice none 0 0, .bool false, .int .i64 0]), .val (.int .i64 320)]) [] := by
  refine dcalls_body (N := 34) 0 (by kernel_rfl) Try.func30 rfl rfl rfl (by simp only [fr0, Nat.zero_add, Nat.reduceAdd]; exact rfl) rfl fun s0 hs0 => ?_
  refine dbody_seq rfl hs0 ?_
  refine dwp_holes 2 (by simp only [holes, List.cons_append, List.nil_append]; exact rfl) ?_
  refine dwp_region ?_
  refine walk_r rfl rfl rfl (op_boxf rfl rfl (ev1 rfl)) ?_
  refine walk_w rfl rfl rfl (op_alloc 0 rfl zr26 rfl) (by simp only [upd, List.set_cons_zero, List.set_cons_succ]; exact rfl) ?_
  refine walk_w rfl rfl rfl (op_alloc 1 rfl zr31 rfl) (by simp only [upd, List.set_cons_zero, List.set_cons_succ]; exact rfl) ?_
  refine walk_nil ?_
  refine dbody_defer (l0 := [_]) rfl rfl rfl rfl rfl hs0 ?_
  refine walk_r rfl rfl rfl (op_mkf rfl en (ec (ev1 rfl) en)) ?_
  refine walk_nil ⟨_, _, _, 2, ev1 rfl, Nat.le_trans hs0 (by decide), rfl, ?_⟩
  have hs1 : s0.M.length ≤ 2 := Nat.le_trans hs0 (by decide)
  refine dbody_end rfl hs0 ?_
  refine dwp_seq ?_
  refine dwp_region ?_
  refine walk_r rfl rfl rfl (op_lddr rfl tb26 (ev1 rfl) rfl rfl) ?_
  refine walk_r rfl rfl rfl (dop_call [] [] [] rfl (ev1 rfl) (ec (ev1 rfl) en) rfl rfl (check_d f h w dn fu hb) rfl rfl rfl rfl rfl rfl) ?_
  refine walk_r rfl rfl rfl (op_eql rfl (ev1 rfl) (ev1 rfl)) ?_
  refine walk_p rfl (dop_callP [] [] [] rfl (ev1 rfl) (ec (ev1 rfl) (ec (ev1 rfl) en)) rfl rfl (need_no _ _ (by rw [if_neg hc]; rfl)) rfl rfl rfl rfl rfl rfl) rfl ?_
  refine kdef (dturn_caught [1] [] rfl rfl rfl (armf_caught _ _) rfl rfl rfl rfl rfl) ?_
  refine kend0 (rs2 rfl (rv_w tb26 rfl rfl rfl) (rv_1 tb31 rfl rfl rfl)) rfl ?_
  rfl
set_option maxRecDepth 4000 in
set_option maxHeartbeats 1000000 in
theorem arm_arg (f : Nat → List Nat) (h : Int) (w : List DOpn) (dn : Bool) (fu : Int) (n : Int) (hb : fewB (szs f) w) (hc : chkB f h w dn fu = true) (hn : ¬ (0 ≤ n ∧ n ≤ 4096)) : DFun Try.prog 30 [.agg (dD f h w dn fu), .val (.int .i64 n)] [] (.tup [.val (.agg #[.slice none 0 0, .slice none 0 0, .slice none 0 0, .slice none 0 0, .int .i64 0, .slice none 0 0, .bool false, .int .i64 0]), .val (.int .i64 2)]) [] := by
  refine dcalls_body (N := 34) 0 (by kernel_rfl) Try.func30 rfl rfl rfl (by simp only [fr0, Nat.zero_add, Nat.reduceAdd]; exact rfl) rfl fun s0 hs0 => ?_
  refine dbody_seq rfl hs0 ?_
  refine dwp_holes 2 (by simp only [holes, List.cons_append, List.nil_append]; exact rfl) ?_
  refine dwp_region ?_
  refine walk_r rfl rfl rfl (op_boxf rfl rfl (ev1 rfl)) ?_
  refine walk_w rfl rfl rfl (op_alloc 0 rfl zr26 rfl) (by simp only [upd, List.set_cons_zero, List.set_cons_succ]; exact rfl) ?_
  refine walk_w rfl rfl rfl (op_alloc 1 rfl zr31 rfl) (by simp only [upd, List.set_cons_zero, List.set_cons_succ]; exact rfl) ?_
  refine walk_nil ?_
  refine dbody_defer (l0 := [_]) rfl rfl rfl rfl rfl hs0 ?_
  refine walk_r rfl rfl rfl (op_mkf rfl en (ec (ev1 rfl) en)) ?_
  refine walk_nil ⟨_, _, _, 2, ev1 rfl, Nat.le_trans hs0 (by decide), rfl, ?_⟩
  have hs1 : s0.M.length ≤ 2 := Nat.le_trans hs0 (by decide)
  refine dbody_end rfl hs0 ?_
  refine dwp_seq ?_
  refine dwp_region ?_
  refine walk_r rfl rfl rfl (op_lddr rfl tb26 (ev1 rfl) rfl rfl) ?_
  refine walk_r rfl rfl rfl (dop_call [] [] [] rfl (ev1 rfl) (ec (ev1 rfl) en) rfl rfl (check_d f h w dn fu hb) rfl rfl rfl rfl rfl rfl) ?_
  refine walk_r rfl rfl rfl (op_eql rfl (ev1 rfl) (ev1 rfl)) ?_
  refine walk_r rfl rfl rfl (dop_call [] [] [] rfl (ev1 rfl) (ec (ev1 rfl) (ec (ev1 rfl) en)) rfl rfl (need_ok _ _ (by rw [if_pos hc]; rfl)) rfl rfl rfl rfl rfl rfl) ?_
  refine walk_nil ?_
  refine dwp_seq ?_
  refine dwp_region ?_
  refine walk_r rfl rfl rfl (op_move (.inl rfl) (ev1 rfl)) ?_
  refine walk_r rfl rfl rfl (op_geq rfl (ev1 rfl) (ev1 rfl)) ?_
  refine walk_r rfl rfl rfl (op_move (.inl rfl) (ev1 rfl)) ?_
  refine walk_gr (gd_t rfl rfl rfl) rfl rfl rfl (op_move (.inl rfl) (ev1 rfl)) ?_
  refine walk_gr (gd_t rfl rfl rfl) rfl rfl rfl (op_leq rfl (ev2 rfl) (ev1 rfl)) ?_
  refine walk_r rfl rfl rfl (op_and rfl (ev1 rfl) (ev3 rfl id)) ?_
  refine walk_p rfl (dop_callP [] [] [] rfl (ev1 rfl) (ec (ev1 rfl) (ec (ev1 rfl) en)) rfl rfl (need_no _ _ (by by_cases h1 : 0 ≤ n <;> by_cases h2 : n ≤ 4096 <;> simp [h1, h2] <;> exact hn ⟨h1, h2⟩)) rfl rfl rfl rfl rfl rfl) rfl ?_
  refine kdef (dturn_caught [1] [] rfl rfl rfl (armf_caught _ _) rfl rfl rfl rfl rfl) ?_
  refine kend0 (rs2 rfl (rv_w tb26 rfl rfl rfl) (rv_1 tb31 rfl rfl rfl)) rfl ?_
  rfl
set_option maxRecDepth 4000 in
set_option maxHeartbeats 1000000 in
theorem arm_down (f : Nat → List Nat) (h : Int) (w : List DOpn) (dn : Bool) (fu : Int) (n : Int) (hb : fewB (szs f) w) (hc : chkB f h w dn fu = true) (hn : 0 ≤ n ∧ n ≤ 4096) (hd : dn = true) : DFun Try.prog 30 [.agg (dD f h w dn fu), .val (.int .i64 n)] [] (.tup [.val (.agg #[.slice none 0 0, .slice none 0 0, .slice none 0 0, .slice none 0 0, .int .i64 0, .slice none 0 0, .bool false, .int .i64 0]), .val (.int .i64 321)]) [] := by
  refine dcalls_body (N := 34) 0 (by kernel_rfl) Try.func30 rfl rfl rfl (by simp only [fr0, Nat.zero_add, Nat.reduceAdd]; exact rfl) rfl fun s0 hs0 => ?_
  refine dbody_seq rfl hs0 ?_
  refine dwp_holes 2 (by simp only [holes, List.cons_append, List.nil_append]; exact rfl) ?_
  refine dwp_region ?_
  refine walk_r rfl rfl rfl (op_boxf rfl rfl (ev1 rfl)) ?_
  refine walk_w rfl rfl rfl (op_alloc 0 rfl zr26 rfl) (by simp only [upd, List.set_cons_zero, List.set_cons_succ]; exact rfl) ?_
  refine walk_w rfl rfl rfl (op_alloc 1 rfl zr31 rfl) (by simp only [upd, List.set_cons_zero, List.set_cons_succ]; exact rfl) ?_
  refine walk_nil ?_
  refine dbody_defer (l0 := [_]) rfl rfl rfl rfl rfl hs0 ?_
  refine walk_r rfl rfl rfl (op_mkf rfl en (ec (ev1 rfl) en)) ?_
  refine walk_nil ⟨_, _, _, 2, ev1 rfl, Nat.le_trans hs0 (by decide), rfl, ?_⟩
  have hs1 : s0.M.length ≤ 2 := Nat.le_trans hs0 (by decide)
  refine dbody_end rfl hs0 ?_
  refine dwp_seq ?_
  refine dwp_region ?_
  refine walk_r rfl rfl rfl (op_lddr rfl tb26 (ev1 rfl) rfl rfl) ?_
  refine walk_r rfl rfl rfl (dop_call [] [] [] rfl (ev1 rfl) (ec (ev1 rfl) en) rfl rfl (check_d f h w dn fu hb) rfl rfl rfl rfl rfl rfl) ?_
  refine walk_r rfl rfl rfl (op_eql rfl (ev1 rfl) (ev1 rfl)) ?_
  refine walk_r rfl rfl rfl (dop_call [] [] [] rfl (ev1 rfl) (ec (ev1 rfl) (ec (ev1 rfl) en)) rfl rfl (need_ok _ _ (by rw [if_pos hc]; rfl)) rfl rfl rfl rfl rfl rfl) ?_
  refine walk_nil ?_
  refine dwp_seq ?_
  refine dwp_region ?_
  refine walk_r rfl rfl rfl (op_move (.inl rfl) (ev1 rfl)) ?_
  refine walk_r rfl rfl rfl (op_geq rfl (ev1 rfl) (ev1 rfl)) ?_
  refine walk_r rfl rfl rfl (op_move (.inl rfl) (ev1 rfl)) ?_
  refine walk_gr (gd_t rfl rfl rfl) rfl rfl rfl (op_move (.inl rfl) (ev1 rfl)) ?_
  refine walk_gr (gd_t rfl rfl rfl) rfl rfl rfl (op_leq rfl (ev2 rfl) (ev1 rfl)) ?_
  refine walk_r rfl rfl rfl (op_and rfl (ev1 rfl) (ev3 rfl id)) ?_
  refine walk_r rfl rfl rfl (dop_call [] [] [] rfl (ev1 rfl) (ec (ev1 rfl) (ec (ev1 rfl) en)) rfl rfl (need_ok _ _ (by simp [hn.1, hn.2])) rfl rfl rfl rfl rfl rfl) ?_
  refine walk_nil ?_
  refine dwp_seq ?_
  refine dwp_region ?_
  refine walk_r rfl rfl rfl (op_fadm rfl fo26_3 (ev1 rfl)) ?_
  refine walk_r rfl rfl rfl (op_lddm rfl tb4 (ev1 rfl) rfl) ?_
  refine walk_r rfl rfl rfl (op_not rfl (ev1 rfl)) ?_
  refine walk_p rfl (dop_callP [] [] [] rfl (ev1 rfl) (ec (ev1 rfl) (ec (ev1 rfl) en)) rfl rfl (need_no _ _ (by rw [hd]; rfl)) rfl rfl rfl rfl rfl rfl) rfl ?_
  refine kdef (dturn_caught [1] [] rfl rfl rfl (armf_caught _ _) rfl rfl rfl rfl rfl) ?_
  refine kend0 (rs2 rfl (rv_w tb26 rfl rfl rfl) (rv_1 tb31 rfl rfl rfl)) rfl ?_
  rfl
set_option maxRecDepth 4000 in
set_option maxHeartbeats 1000000 in
theorem arm_ok (f : Nat → List Nat) (h : Int) (w : List DOpn) (dn : Bool) (fu : Int) (n : Int) (hb : fewB (szs f) w) (hc : chkB f h w dn fu = true) (hn : 0 ≤ n ∧ n ≤ 4096) (hd : dn = false) : DFun Try.prog 30 [.agg (dD f h w dn fu), .val (.int .i64 n)] [] (.tup [.agg [.farr 0 0, .farr 0 1, .farr 0 2, .farr 0 3, .val (.int .i64 h), .arr 1, .val (.bool dn), .val (.int .i64 n)], .val (.int .i64 0)]) [.fam (fB f 4 ++ famO w), .arx 44 3 (w).length (((w).zipIdx 4).flatMap (oF 0))] := by
  refine dcalls_body (N := 34) 0 (by kernel_rfl) Try.func30 rfl rfl rfl (by simp only [fr0, Nat.zero_add, Nat.reduceAdd]; exact rfl) rfl fun s0 hs0 => ?_
  refine dbody_seq rfl hs0 ?_
  refine dwp_holes 2 (by simp only [holes, List.cons_append, List.nil_append]; exact rfl) ?_
  refine dwp_region ?_
  refine walk_r rfl rfl rfl (op_boxf rfl rfl (ev1 rfl)) ?_
  refine walk_w rfl rfl rfl (op_alloc 0 rfl zr26 rfl) (by simp only [upd, List.set_cons_zero, List.set_cons_succ]; exact rfl) ?_
  refine walk_w rfl rfl rfl (op_alloc 1 rfl zr31 rfl) (by simp only [upd, List.set_cons_zero, List.set_cons_succ]; exact rfl) ?_
  refine walk_nil ?_
  refine dbody_defer (l0 := [_]) rfl rfl rfl rfl rfl hs0 ?_
  refine walk_r rfl rfl rfl (op_mkf rfl en (ec (ev1 rfl) en)) ?_
  refine walk_nil ⟨_, _, _, 2, ev1 rfl, Nat.le_trans hs0 (by decide), rfl, ?_⟩
  have hs1 : s0.M.length ≤ 2 := Nat.le_trans hs0 (by decide)
  refine dbody_end rfl hs0 ?_
  refine dwp_seq ?_
  refine dwp_region ?_
  refine walk_r rfl rfl rfl (op_lddr rfl tb26 (ev1 rfl) rfl rfl) ?_
  refine walk_r rfl rfl rfl (dop_call [] [] [] rfl (ev1 rfl) (ec (ev1 rfl) en) rfl rfl (check_d f h w dn fu hb) rfl rfl rfl rfl rfl rfl) ?_
  refine walk_r rfl rfl rfl (op_eql rfl (ev1 rfl) (ev1 rfl)) ?_
  refine walk_r rfl rfl rfl (dop_call [] [] [] rfl (ev1 rfl) (ec (ev1 rfl) (ec (ev1 rfl) en)) rfl rfl (need_ok _ _ (by rw [if_pos hc]; rfl)) rfl rfl rfl rfl rfl rfl) ?_
  refine walk_nil ?_
  refine dwp_seq ?_
  refine dwp_region ?_
  refine walk_r rfl rfl rfl (op_move (.inl rfl) (ev1 rfl)) ?_
  refine walk_r rfl rfl rfl (op_geq rfl (ev1 rfl) (ev1 rfl)) ?_
  refine walk_r rfl rfl rfl (op_move (.inl rfl) (ev1 rfl)) ?_
  refine walk_gr (gd_t rfl rfl rfl) rfl rfl rfl (op_move (.inl rfl) (ev1 rfl)) ?_
  refine walk_gr (gd_t rfl rfl rfl) rfl rfl rfl (op_leq rfl (ev2 rfl) (ev1 rfl)) ?_
  refine walk_r rfl rfl rfl (op_and rfl (ev1 rfl) (ev3 rfl id)) ?_
  refine walk_r rfl rfl rfl (dop_call [] [] [] rfl (ev1 rfl) (ec (ev1 rfl) (ec (ev1 rfl) en)) rfl rfl (need_ok _ _ (by simp [hn.1, hn.2])) rfl rfl rfl rfl rfl rfl) ?_
  refine walk_nil ?_
  refine dwp_seq ?_
  refine dwp_region ?_
  refine walk_r rfl rfl rfl (op_fadm rfl fo26_3 (ev1 rfl)) ?_
  refine walk_r rfl rfl rfl (op_lddm rfl tb4 (ev1 rfl) rfl) ?_
  refine walk_r rfl rfl rfl (op_not rfl (ev1 rfl)) ?_
  refine walk_r rfl rfl rfl (dop_call [] [] [] rfl (ev1 rfl) (ec (ev1 rfl) (ec (ev1 rfl) en)) rfl rfl (need_ok _ _ (by rw [hd]; rfl)) rfl rfl rfl rfl rfl rfl) ?_
  refine walk_nil ?_
  refine dwp_seq ?_
  refine dwp_hole ?_
  refine dwp_fam 2 rfl (by simp only [List.cons_append, List.nil_append, List.set_cons_zero, List.set_cons_succ]; exact rfl) ?_
  refine dwp_holes 2 (by simp only [holes, List.cons_append, List.nil_append]; exact rfl) ?_
  refine dwp_region ?_
  refine walk_r rfl rfl rfl (op_lddr rfl tb26 (ev1 rfl) rfl rfl) ?_
  refine walk_w rfl rfl rfl (dop_call [2] [] [3, 4] rfl (ev1 rfl) (ec (ev1 rfl) en) rfl rfl (chof_F f h w dn fu (allF_at hc) hb) rfl rfl rfl (by exact (wrc rfl (wrc rfl (wrc (by first | exact rfl | exact sb_arx (fun _ => rfl) | exact sb_arxr (nlL_flatR (fun _ => rfl) _) | exact sb_arxg (fun _ => rfl) | exact sb_arxs (fun _ => rfl)) rfl)))) rfl rfl) (by simp only [upd, List.set_cons_zero, List.set_cons_succ]; exact rfl) ?_
  refine walk_r rfl rfl rfl (op_move (.inr rfl) (ev1 rfl)) ?_
  refine walk_nil ?_
  refine dwp_seq ?_
  refine dwp_region ?_
  refine walk_r rfl rfl rfl (op_move (.inl rfl) (ev1 rfl)) ?_
  refine walk_r rfl rfl rfl (op_move (.inl rfl) (ev1 rfl)) ?_
  refine walk_r rfl rfl rfl (op_nc rfl (ev1 rfl) (fun s v h => by cases h; exact ⟨_, rfl⟩)) ?_
  refine walk_r rfl rfl rfl (op_fa rfl fo86_0 (ev1 rfl)) ?_
  refine walk_r rfl rfl rfl (op_fa rfl fo26_4 (ev1 rfl)) ?_
  refine walk_s rfl rfl (op_stm rfl tb3 (ev1 rfl) (ev1 rfl) (fun s v h => by cases h <;> exact ⟨rfl, rfl⟩) rfl (by first | decide | exact Nat.le_of_ble_eq_true rfl | simp)) (by simp only [upd, List.set_cons_zero, List.set_cons_succ]; exact rfl) ?_
  refine walk_nil ?_
  refine dwp_seq ?_
  refine dwp_region ?_
  refine walk_r rfl rfl rfl (op_move (.inl rfl) (ev1 rfl)) ?_
  refine walk_r rfl rfl rfl (op_nc rfl (ev1 rfl) (fun s v h => by cases h; exact ⟨_, rfl⟩)) ?_
  refine walk_r rfl rfl rfl (op_fa rfl fo86_0 (ev1 rfl)) ?_
  refine walk_r rfl rfl rfl (op_ldmw rfl tb26 (ev1 rfl) rfl rfl) ?_
  refine walk_s rfl rfl (op_stam rfl tb26 (ev1 rfl) (ev1 rfl) rfl rfl rfl rfl) (by simp only [upd, List.set_cons_zero, List.set_cons_succ]; exact rfl) ?_
  refine walk_s rfl rfl (op_stwi rfl tb31 (ev1 rfl) (ev1 rfl) rfl) (by simp only [upd, List.set_cons_zero, List.set_cons_succ]; exact rfl) ?_
  refine walk_nil ?_
  refine dwp_ret ?_
  refine kdef (dturn_idle [1] [] rfl rfl (armf_idle _) rfl rfl rfl rfl rfl) ?_
  refine kend [2, 4] (rs2 rfl (rv_mw tb26 rfl rfl rfl) (rv_1 tb31 rfl rfl rfl)) rfl rfl ?_ ⟨?_, ?_, trivial⟩
  rfl
  all_goals first | exact rfl | exact ox_fits rfl rfl rfl
end Go.Proofs.Ytjecmkaggobcjaa

namespace Go.Proofs.Ytjecmkaggobcjaa
set_option linter.unusedVariables false
set_option linter.unusedSimpArgs false
open Go.RowKit
structure DSt where
  B : List Mem
  f : Nat → List Nat
  g : Nat → Nat
  h : Int
def stG (s : DSt) (o : DOpn) : DSt := ⟨s.B.set (s.g o.fl.toNat) .gone ++ [rowB (setB (s.f o.fl.toNat) o)], doF s.f o, updG s.g o.fl.toNat s.B.length, doH s.h o⟩
structure GOk (s : DSt) (Q : List (DOpn × Nat)) : Prop where
  file : ∀ i, i < 4 → s.B[s.g i]? = some (rowB (s.f i))
  inj : ∀ i j, i < 4 → j < 4 → s.g i = s.g j → i = j
  wait : ∀ q ∈ Q, s.B[q.2]? = some (rowB q.1.b)
  ne : ∀ i, i < 4 → ∀ q ∈ Q, s.g i ≠ q.2
theorem GOk.step {s : DSt} {Q : List (DOpn × Nat)} {o : DOpn} (h : GOk s Q) (ho : mayW o = true) : GOk (stG s o) Q := by
  obtain ⟨_, hf⟩ := mayW_in ho
  have hj : o.fl.toNat < 4 := by omega
  have lt : ∀ k B, s.B[k]? = some B → k < s.B.length := fun k B e => (List.getElem?_eq_some_iff.1 e).1
  have old : ∀ (k : Nat) B, s.B[k]? = some B → s.g o.fl.toNat ≠ k → (s.B.set (s.g o.fl.toNat) Mem.gone ++ [rowB (setB (s.f o.fl.toNat) o)])[k]? = some B := fun k B e hne => by
    rw [List.getElem?_append_left (by rw [List.length_set]; exact lt k B e), List.getElem?_set_ne hne]
    exact e
  refine ⟨fun i hi => ?_, fun i j hi hj2 e => ?_, fun q hq => old _ _ (h.wait q hq) (h.ne _ hj q hq), fun i hi q hq => ?_⟩
  · show (s.B.set (s.g o.fl.toNat) Mem.gone ++ [rowB (setB (s.f o.fl.toNat) o)])[updG s.g o.fl.toNat s.B.length i]? = some (rowB (doF s.f o i))
    rw [doF_at ho i]
    unfold updG
    by_cases e : i = o.fl.toNat
    · have e2 : o.fl = (i : Int) := by omega
      rw [if_pos e, if_pos e2, List.getElem?_append_right (by rw [List.length_set]; exact Nat.le_refl _), List.length_set, Nat.sub_self, ← e]
      rfl
    · have e2 : ¬ o.fl = (i : Int) := by omega
      rw [if_neg e, if_neg e2]
      exact old _ _ (h.file i hi) fun e3 => e (h.inj _ _ hj hi e3).symm
  · revert e
    show updG s.g o.fl.toNat s.B.length i = updG s.g o.fl.toNat s.B.length j → i = j
    unfold updG
    have li := lt _ _ (h.file i hi)
    have lj := lt _ _ (h.file j hj2)
    by_cases e1 : i = o.fl.toNat <;> by_cases e2 : j = o.fl.toNat
    · exact fun _ => e1.trans e2.symm
    · rw [if_pos e1, if_neg e2]; intro e; omega
    · rw [if_neg e1, if_pos e2]; intro e; omega
    · rw [if_neg e1, if_neg e2]; exact h.inj i j hi hj2
  · show updG s.g o.fl.toNat s.B.length i ≠ q.2
    unfold updG
    have lq := lt _ _ (h.wait q hq)
    by_cases e1 : i = o.fl.toNat
    · rw [if_pos e1]; omega
    · rw [if_neg e1]; exact h.ne i hi q hq
def stGs (s : DSt) (Q : List (DOpn × Nat)) : DSt := Q.foldl (fun s q => stG s q.1) s
theorem stGs_succ {s : DSt} {Q : List (DOpn × Nat)} {k : Nat} (hk : k < Q.length) : stGs s (Q.take (k + 1)) = stG (stGs s (Q.take k)) Q[k].1 := by
  unfold stGs
  rw [List.take_succ_eq_append_getElem hk, List.foldl_append]
  rfl
theorem GOk.steps {Q : List (DOpn × Nat)} : ∀ (R : List (DOpn × Nat)) {s : DSt}, GOk s Q → (∀ q ∈ R, mayW q.1 = true) → GOk (stGs s R) Q
  | [], _, h, _ => h
  | q :: R, _, h, hR => GOk.steps R (h.step (hR q (List.mem_cons_self ..))) fun p hp => hR p (List.mem_cons_of_mem _ hp)
theorem stGs_f : ∀ (R : List (DOpn × Nat)) (s : DSt), (stGs s R).f = seF s.f (R.map Prod.fst)
  | [], _ => rfl
  | q :: R, s => stGs_f R (stG s q.1)
theorem stGs_h : ∀ (R : List (DOpn × Nat)) (s : DSt), (stGs s R).h = seH s.h (R.map Prod.fst)
  | [], _ => rfl
  | q :: R, s => stGs_h R (stG s q.1)
theorem fam_f {f : Nat → List Nat} {w : List DOpn} {i : Nat} (hi : i < 4) : (fB f 4 ++ famO w)[i]? = some (rowB (f i)) := by
  have : i = 0 ∨ i = 1 ∨ i = 2 ∨ i = 3 := by omega
  rcases this with rfl | rfl | rfl | rfl <;> rfl
theorem fam_w {f : Nat → List Nat} {w : List DOpn} : ∀ q ∈ w.zipIdx 4, (fB f 4 ++ famO w)[q.2]? = some (rowB q.1.b) := fun q hq => by
  obtain ⟨p, k⟩ := q
  rw [List.mem_zipIdx_iff_le_and_getElem?_sub] at hq
  obtain ⟨h1, h2⟩ := hq
  have h1 : 4 ≤ k := h1
  have h2 : w[k - 4]? = some p := h2
  rw [List.getElem?_append_right (by rw [fB_len (Nat.le_refl 4)]; exact h1), fB_len (Nat.le_refl 4)]
  unfold famO
  rw [List.getElem?_map, h2]
  rfl
theorem GOk_new (f : Nat → List Nat) (w : List DOpn) (h : Int) : GOk ⟨fB f 4 ++ famO w, f, fun i => i, h⟩ (w.zipIdx 4) :=
  ⟨fun i hi => fam_f hi, fun i j _ _ e => e, fam_w, fun i hi q hq => by
    obtain ⟨p, k⟩ := q
    rw [List.mem_zipIdx_iff_le_and_getElem?_sub] at hq
    have h1 : 4 ≤ k := hq.1
    show i ≠ k
    omega⟩
end Go.Proofs.Ytjecmkaggobcjaa
