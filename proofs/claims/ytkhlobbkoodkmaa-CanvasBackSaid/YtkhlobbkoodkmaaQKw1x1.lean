/- Operations: numbers, bools, structs, memory that is read and written. Conditions: what a type is, by the kernel; Operations on slices: made, cut, grown; tuples; function values; structs. Conditions: what a type is, by the kernel; Codes within a function; a loop's rounds one by one; strings; Rows made by make, and copied into; parts of arrays with their room cut; What is known of a value, told otherwise: nil slices as rows of nothing, plain structs as lists of cells; what types are; tiles, and canvases as they show; canvases shown, and new; canvases with dots, as they show; what the laws begin with; what was painted on one version is on no older one. No condition. -/
import Derived.Test.YtkhlobbkoodkmaaQ4
import Derived.Test.YtkhlobbkoodkmaaRows
namespace Go.Proofs.Ytkhlobbkoodkmaa
set_option linter.unusedVariables false
set_option linter.unusedSimpArgs false
open Go.RowKit

/-! ### what a type is -/
section
variable {P : Program} {pc : Bool} {o : Oper} {F : Fr} {M : List Blk}
section
variable {T T' : TypeId} {x y : Operand} {k : IntKind} {p q : Int}
end
section
variable {T : TypeId} {x : Operand} {i p k : Nat} {L R : List Value} {v : Value}
theorem arr_cells {s : St} (hok : Ok s) {T' : TypeId} {sz n n' c b : Nat} (h1 : s.M[i]? = some (.arr T' sz n L)) (h2 : s.β[i]? = some (.slice (some ⟨b, 0, none⟩) n' c)) : n' = n ∧ L.length = n * sz ∧ n ≤ c ∧ c ≤ maxLen ∧ cellsAt s.w b 0 L ∧ ∃ cur, s.w.heap[b]? = some (.cells cur T' (0, 0)) ∧ L.length ≤ cur.size ∧ cur.toList.take L.length = L := by
  have hk : s.w.ownsRow 0 T' sz _ n L := hok.blk i _ _ h1 h2
  rcases hk.2 with ⟨e1, e2⟩ | ⟨g, cap, cur, e1, e2, e3, e4, e5, e6, e7⟩
  · cases e1
  · cases e1
    have hc0 := cellsAt_sub (cellsAt_block e3 0) 0 (n * sz)
    have hle := Nat.mul_le_mul_right sz e4
    exact ⟨rfl, hk.1, e4, e5, by simpa [e7] using hc0, cur, e3, by rw [hk.1, e6]; exact hle, by rw [hk.1]; exact e7⟩
end
section
variable {T : TypeId} {x y : Operand} {i p n sz : Nat} {k : IntKind} {z : Int} {L : List Value}
variable {e : TypeId} {by' m : Nat}
end
end
end Go.Proofs.Ytkhlobbkoodkmaa
namespace Go.Proofs.Ytkhlobbkoodkmaa
set_option linter.unusedVariables false
set_option linter.unusedSimpArgs false
open Go.RowKit
section
variable {P : Program} {pc : Bool} {o : Oper} {F : Fr} {M : List Blk}
section
variable {T e : TypeId} {sz by' n : Nat} {ps : List (Nat × Operand)} {vs Z : List Value}
end

/-! ### append -/
theorem src_arr {i m sz : Nat} {T' : TypeId} {L2 : List Value} (hM : M[i]? = some (.arr T' sz m L2)) : SrcD M [i] (.arr i) m sz L2 := by
  intro s v hok hfp hr
  cases hr with
  | @arr _ ad n' c h =>
    have hM' : s.M[i]? = some (.arr T' sz m L2) := by rw [hfp i (by simp)]; exact hM
    have hk : s.w.ownsRow 0 T' sz _ m L2 := hok.blk i _ _ hM' h
    refine ⟨hk.1, ad, c, ?_, ?_⟩
    · rcases hk.2 with ⟨e1, e2⟩ | ⟨g, cap, cur, e1, _⟩
      · cases e1; rw [e2]
      · cases e1; rfl
    · rcases hk.2 with ⟨e1, e2⟩ | ⟨g, cap, cur, e1, _⟩
      · cases e1
        subst e2
        exact .inl ⟨rfl, rfl, rfl, List.eq_nil_of_length_eq_zero (by simpa using hk.1)⟩
      · cases e1
        obtain ⟨_, _, _, _, hc, _⟩ := arr_cells hok (by rw [hfp i (by simp)]; exact hM) h
        exact .inr ⟨_, rfl, fun j u hj => by rw [Addr.add_mid]; simpa using hc j u hj⟩
end
end Go.Proofs.Ytkhlobbkoodkmaa
namespace Go.Proofs.Ytkhlobbkoodkmaa
set_option linter.unusedVariables false
set_option linter.unusedSimpArgs false
open Go.RowKit
theorem arr_eq {T : TypeId} {sz n n' : Nat} {L L' : List Value} (h : n = n') (h' : L = L') : some (Blk.arr T sz n L) = some (Blk.arr T sz n' L') := by rw [h, h']
section
variable {P : Program} {s0 : St} {n : Cx}
end
end Go.Proofs.Ytkhlobbkoodkmaa
namespace Go.Proofs.Ytkhlobbkoodkmaa
set_option linter.unusedVariables false
set_option linter.unusedSimpArgs false
open Go.RowKit
section
variable {P : Program} {pc : Bool} {o : Oper} {F : Fr} {M : List Blk} {T e : TypeId} {by' : Nat} {x y : Operand}
/-- make, of length 0 -/
theorem op_mk0 (j n : Nat) {sz : Nat} {k k' : IntKind} {z z' : Int} {Z : List Value} (ho : o.op = .makeSlice T x y) (hT : slE P T = some (e, sz, by')) (hZ : zrC P e = some Z) (hx : Ev pc F x (.val (.int k z))) (hy : Ev pc F y (.val (.int k' z'))) (hz : pc = true → z = 0) (hz' : pc = true → z' = (n : Int)) (hj : M[j]? = some .hole) (hb : pc = true → by' * n ≤ 281474976710656 ∧ n ≤ 9223372036854775807) :
    DOp P pc o F M [j] (.arr j) [(j, .arr e sz 0 [])] := by
  intro hp a s hok hops hfp
  obtain ⟨e1, ti, e2, e3, e4⟩ := slE_spec hT
  obtain ⟨ti', zv, q1, q2, q3⟩ := zrC_spec hZ
  rw [e2] at q1
  obtain rfl := Option.some.inj q1
  have h1 := (ev_at hp hx (by simp [ho, Op.operands]) hops).val_eq
  have h2 := (ev_at hp hy (by simp [ho, Op.operands]) hops).val_eq
  rw [hz hp] at h1
  rw [hz' hp] at h2
  obtain ⟨b1, b2⟩ := hb hp
  have hj' : s.M[j]? = some .hole := by rw [hfp j (by simp)]; exact hj
  have hjl : j < s.β.length := by rw [hok.len]; exact (List.getElem?_eq_some_iff.1 hj').1
  have hb3 : (ti.bytes : Int) * (n : Int) ≤ 281474976710656 := by
    have h : ((ti.bytes * n : Nat) : Int) ≤ 281474976710656 := by rw [e4]; omega
    rwa [Int.natCast_mul] at h
  have hrun := run_make (P := P) s.w T e ti zv e1 e2 q2 k k' 0 n (Int.le_refl _) (by omega) hb3 (by omega)
  simp only [Int.toNat_natCast, Int.toNat_zero] at hrun
  have hrow := World.ownsRow_made (base := 0) (e := e) (size := ti.size) s.w (madeCells zv.cells (n * ti.size)) n (Nat.zero_le _) (by unfold maxLen; omega) (size_madeCells _ _)
  rw [e3] at hrow hrun
  refine dg_step (s' := ⟨s.β.set j (.slice (some ⟨s.w.heap.size, 0, none⟩) 0 n), s.I, s.M.set j (.arr e sz 0 []), _⟩) (v := .slice (some ⟨s.w.heap.size, 0, none⟩) 0 n) ?_ (tr_new hok hj' _ _ _ (by simp) (fun b hb => by cases hb; rfl) (fun b h => Below.heap_alloc _ _ _ h) (fun b hb => by cases hb; simp) (by simp) rfl rfl rfl hrow) rfl (.arr (by simp [hjl]))
  unfold execOp
  simp only [ho, h1, h2]
  exact run_v hrun
end
section
variable {P : Program} {pc : Bool} {o : Oper} {F : Fr} {M : List Blk} {T T' : TypeId} {x y : Operand} {k k' : IntKind} {p q : Int}
end
section
variable {P : Program} {pc : Bool} {o : Oper} {F : Fr} {M : List Blk} {T : TypeId} {x lo hi mx : Operand} {n sz : Nat} {α : Type} {en : α → List Value} {l : List α} {k k1 k2 : IntKind} {lz hz mz : Int}
end
section
variable {P : Program} {pc : Bool} {o : Oper} {F : Fr} {M : List Blk} {T e : TypeId} {by' n : Nat} {ds : List D} {Z : List Value}
end
section
variable {P : Program} {pc : Bool} {o : Oper} {F : Fr} {M : List Blk}
end
section
variable {P : Program} {pc : Bool} {o : Oper} {F : Fr} {M : List Blk}
end
section
variable {P : Program} {pc : Bool} {o : Oper} {F : Fr} {M : List Blk}
end
end Go.Proofs.Ytkhlobbkoodkmaa
namespace Go.Proofs.Ytkhlobbkoodkmaa
set_option linter.unusedVariables false
set_option linter.unusedSimpArgs false
open Go.RowKit
section
variable {P : Program} {s0 : St} {n : Cx}
/-- .. of what a slot holds -/
theorem dwp_wk {c : Code} {F : Fr} {M : List Blk} {K : Cont} {d d' : D} (t : Nat) (ht : lk F t = some d) (hw : Wk d d') (h : dwp P s0 n c ((t, d') :: F) M K) : dwp P s0 n c F M K := by
  intro a w hi
  refine h a w ?_
  obtain ⟨h0, s, h1, h2, h3, h4, h5, h6⟩ := hi
  refine ⟨h0, s, h1, h2, h3, fun x e he => ?_, h5, h6⟩
  rw [lk_cons] at he
  split at he
  · rename_i e'
    subst e'
    obtain rfl := Option.some.inj he
    exact hw s _ (h4 t _ ht)
  · exact h4 x e he
end
section
variable {P : Program} {pc : Bool} {o : Oper} {F : Fr} {M : List Blk} {T : TypeId} {x : Operand}
end
end Go.Proofs.Ytkhlobbkoodkmaa
namespace Go.Proofs.Ytkhlobbkoodkmaa
set_option linter.unusedVariables false
set_option linter.unusedSimpArgs false
open Go.RowKit
/-- the row of pointers into memory that stays -/
abbrev dpR (ts : List TL) : List D := ts.map fun t => .dpf (tc t)
theorem dpR_ok (ts : List TL) : RowOk (dpR ts) ts := by
  refine ⟨by simp, ?_, by simp [D.oc2], fun q d t h1 h2 => ?_⟩
  · induction ts with
    | nil => rfl
    | cons t ts ih => rw [dpR, List.map_cons, D.nlL]; exact ih
  · rw [List.getElem?_map, h2] at h1
    cases h1
    exact Wk.refl _
theorem RowOk.wkd {ds : List D} {ts : List TL} (h : RowOk ds ts) (w hh : Int) : Wk (cvD w hh ds) (cvD w hh (dpR ts)) := by
  have hl : WkL ds (dpR ts) := ⟨by simp [h.len], fun j d d' h1 h2 => by
    rw [List.getElem?_map] at h2
    cases e : ts[j]? with
    | none => rw [e] at h2; cases h2
    | some t => rw [e] at h2; cases h2; exact h.wk j d t h1 e⟩
  have hn : D.nlL (dpR ts) = true := (dpR_ok ts).nl
  have e : (dpR ts).length = ds.length := by simp [h.len]
  rw [cvD, cvD, e]
  exact Wk.dpm (.cons (.refl _) (.cons (.refl _) (.cons (Wk.slm hl hn) .nil))) (by simp [D.nlL, D.nl])
end Go.Proofs.Ytkhlobbkoodkmaa
namespace Go.Proofs.Ytkhlobbkoodkmaa
set_option linter.unusedVariables false
set_option linter.unusedSimpArgs false
open Go.RowKit
set_option maxRecDepth 4000 in
set_option maxHeartbeats 1000000 in
theorem equalT (l r : List TL) : DFun Try.prog 36 [.slf 256 l.length (l.flatMap tc), .slf 256 r.length (r.flatMap tc)] [] (.val (.bool (decide (l = r)))) [] := by
  refine dcalls_go (N := 26) 0 (by kernel_rfl) Try.func36 rfl rfl rfl (by simp only [fr0, Nat.zero_add, Nat.reduceAdd]; exact rfl) rfl fun s0 hs0 => ?_
  refine dwp_len (t := 0) rfl fun hl0 hL0 => ?_
  refine dwp_len (t := 1) rfl fun hl1 hL1 => ?_
  refine zae ?_
  refine zad ?_
  refine zab rfl rfl rfl (zac (.inr rfl) (ev1 rfl)) ?_
  refine zaf ?_
  refine zae ?_
  refine zae ?_
  refine zad ?_
  refine zab rfl rfl rfl (zac (.inl rfl) (ev1 rfl)) ?_
  refine zab rfl rfl rfl (op_len rfl sl22 (ev1 rfl)) ?_
  refine zab rfl rfl rfl (zac (.inl rfl) (ev1 rfl)) ?_
  refine zab rfl rfl rfl (op_len rfl sl22 (ev1 rfl)) ?_
  refine zab rfl rfl rfl (op_neq rfl (ev1 rfl) (ev1 rfl)) ?_
  refine zaf ?_
  refine dwp_cond rfl (fun c1 => ?_) (fun c1 => ?_)
  · try simp only [decide_eq_true_eq, decide_eq_false_iff_not, beq_iff_eq, bne_iff_ne, beq_eq_false_iff_ne, bne_eq_false_iff_eq, Bool.not_eq_true', Bool.not_eq_false', Bool.and_eq_true, Bool.or_eq_true, Bool.or_eq_false_iff, ne_eq, Decidable.not_not, Int.not_lt, Int.not_le] at c1
    refine zae ?_
    refine zad ?_
    refine zab rfl rfl rfl (zac (.inr rfl) (ev1 rfl)) ?_
    refine zaf ?_
    refine dwp_ret ?_
    refine kend0 (rs1 rfl (rv_t rfl)) rfl ?_
    have hne : l ≠ r := fun e => by subst e; exact c1 rfl
    rw [decide_eq_false hne]
  · try simp only [decide_eq_true_eq, decide_eq_false_iff_not, beq_iff_eq, bne_iff_ne, beq_eq_false_iff_ne, bne_eq_false_iff_eq, Bool.not_eq_true', Bool.not_eq_false', Bool.and_eq_true, Bool.or_eq_true, Bool.or_eq_false_iff, ne_eq, Decidable.not_not, Int.not_lt, Int.not_le] at c1
    have hlen : l.length = r.length := by omega
    refine dwp_skip ?_
    refine zae ?_
    refine zae ?_
    refine zad ?_
    refine zab rfl rfl rfl (zac (.inl rfl) (ev1 rfl)) ?_
    refine zab rfl rfl rfl (op_len rfl sl22 (ev1 rfl)) ?_
    refine zab rfl rfl rfl (zac (.inl rfl) (ev1 rfl)) ?_
    refine zaf ?_
    refine dwp_block ?_
    refine dwp_loopS ⟨hs0, rfl⟩ (α := Nat) (fun k => [(13, .val (.int .i64 (k : Int)))]) [(0, _), (1, _), (12, _)] (fun k => []) [] (fun k => k ≤ l.length ∧ l.take k = r.take k) (fun k => l.length - k) 0 [] (by simp) rfl ⟨rfl, rfl, rfl, trivial⟩ ⟨rfl, trivial⟩ trivial ?_
    intro k hx
    simp only [upd, za, zaa, List.cons_append, List.nil_append]
    obtain ⟨hk, he⟩ := hx
    refine zae ?_
    refine zad ?_
    refine zab rfl rfl rfl (op_lss rfl (ev1 rfl) (ev1 rfl)) ?_
    refine zaf ?_
    refine zae ?_
    refine dwp_cond rfl (fun c2 => ?_) (fun c2 => ?_)
    · try simp only [decide_eq_true_eq, decide_eq_false_iff_not, beq_iff_eq, bne_iff_ne, beq_eq_false_iff_ne, bne_eq_false_iff_eq, Bool.not_eq_true', Bool.not_eq_false', Bool.and_eq_true, Bool.or_eq_true, Bool.or_eq_false_iff, ne_eq, Decidable.not_not, Int.not_lt, Int.not_le] at c2
      refine dwp_skip ?_
      refine zae ?_
      refine dwp_block ?_
      refine zae ?_
      refine zad ?_
      refine zab rfl rfl rfl (zac (.inl rfl) (ev1 rfl)) ?_
      refine zab rfl rfl rfl (zac (.inr rfl) (ev1 rfl)) ?_
      refine zaf ?_
      refine zae ?_
      refine dwp_draw [([], []), ([], []), ([], []), ([], []), ([], []), ([], []), ([], []), ([], []), ([], [])] mixed (by kernel_rfl) ?_
      refine zag rfl rfl (zac (.inl rfl) (ev1 rfl)) ?_
      refine zag rfl rfl (zac (.inl rfl) (ev1 rfl)) ?_
      refine zag rfl rfl (op_ixsr (j := k) rfl sl22 (ev1 rfl) (ev1 rfl) tc_len (by decide) (by omega) (by omega)) ?_
      refine zag rfl rfl (op_ldwd rfl tb52 (ev1 rfl) (tc_len _)) ?_
      refine zag rfl rfl (zac (.inl rfl) (ev1 rfl)) ?_
      refine zag rfl rfl (zac (.inl rfl) (ev1 rfl)) ?_
      refine zag rfl rfl (op_ixsr (j := k) rfl sl22 (ev1 rfl) (ev1 rfl) tc_len (by decide) (by omega) (by omega)) ?_
      refine zag rfl rfl (op_ldwd rfl tb52 (ev1 rfl) (tc_len _)) ?_
      refine zag rfl rfl (op_ner eq52 rfl gd52 tb52 (ev1 rfl) (ev1 rfl)) ?_
      refine lex_nil ?_
      refine dwp_cond rfl (fun c2 => ?_) (fun c2 => ?_)
      · have c3 : l[k] ≠ r[k] := by simpa using c2
        refine zae ?_
        refine zad ?_
        refine zab rfl rfl rfl (zac (.inr rfl) (ev1 rfl)) ?_
        refine zaf ?_
        refine dwp_ret ?_
        refine kend0 (rs1 rfl (rv_t rfl)) rfl ?_
        have hne : l ≠ r := fun e => by subst e; exact c3 rfl
        rw [decide_eq_false hne]
      · have c3 : l[k] = r[k] := by simpa using c2
        refine dwp_skip ?_
        refine zad ?_
        refine zab rfl rfl rfl (op_add' rfl (ev1 rfl) (ev1 rfl) (fun _ => IntWalk.i64_in _ (by omega))) ?_
        refine zab rfl rfl rfl (zac (.inl rfl) (ev1 rfl)) ?_
        refine zaf ?_
        refine ⟨k + 1, [], ⟨by omega, by rw [List.take_succ_eq_append_getElem (by omega), List.take_succ_eq_append_getElem (by omega), he, c3]⟩, by simp only []; omega, rfl, ⟨rfl, rfl, rfl, rfl, trivial⟩, trivial⟩
    · try simp only [decide_eq_true_eq, decide_eq_false_iff_not, beq_iff_eq, bne_iff_ne, beq_eq_false_iff_ne, bne_eq_false_iff_eq, Bool.not_eq_true', Bool.not_eq_false', Bool.and_eq_true, Bool.or_eq_true, Bool.or_eq_false_iff, ne_eq, Decidable.not_not, Int.not_lt, Int.not_le] at c2
      refine dwp_exit ?_
      refine zae ?_
      refine zad ?_
      refine zab rfl rfl rfl (zac (.inr rfl) (ev1 rfl)) ?_
      refine zaf ?_
      refine dwp_ret ?_
      refine kend0 (rs1 rfl (rv_t rfl)) rfl ?_
      have e : l = r := by
        have h := he
        rw [List.take_of_length_le (by omega), List.take_of_length_le (by omega)] at h
        exact h
      rw [decide_eq_true e]
set_option maxRecDepth 4000 in
set_option maxHeartbeats 1000000 in
theorem alike_d (w h w2 h2 : Int) (ts us : List TL) : DFun Try.prog 12 [shD w h ts, shD w2 h2 us] [] (.val (.bool (decide (w = w2 ∧ h = h2 ∧ ts = us)))) [] := by
  refine dcalls_go (N := 24) 0 (by kernel_rfl) Try.func12 rfl rfl rfl (by simp only [fr0, Nat.zero_add, Nat.reduceAdd]; exact rfl) rfl fun s0 hs0 => ?_
  refine zae ?_
  refine dwp_holes 2 (by simp only [holes, List.cons_append, List.nil_append]; exact rfl) ?_
  refine zad ?_
  refine walk_w rfl rfl rfl (op_boxam 0 rfl (ev1 rfl) rfl) (by simp only [upd, za, zaa]; exact rfl) ?_
  refine walk_w rfl rfl rfl (op_boxam 1 rfl (ev1 rfl) rfl) (by simp only [upd, za, zaa]; exact rfl) ?_
  refine zab rfl rfl rfl (zac (.inr rfl) (ev1 rfl)) ?_
  refine zaf ?_
  refine zae ?_
  refine zad ?_
  refine zab rfl rfl rfl (op_fa rfl fo24_0 (ev1 rfl)) ?_
  refine zab rfl rfl rfl (op_ldm rfl tb3 (ev1 rfl) rfl rfl) ?_
  refine zab rfl rfl rfl (op_fa rfl fo24_0 (ev1 rfl)) ?_
  refine zab rfl rfl rfl (op_ldm rfl tb3 (ev1 rfl) rfl rfl) ?_
  refine zab rfl rfl rfl (op_eql rfl (ev1 rfl) (ev1 rfl)) ?_
  refine zab rfl rfl rfl (zac (.inl rfl) (ev1 rfl)) ?_
  refine walk_gr (gd_t rfl rfl rfl) rfl rfl rfl (op_fa rfl fo24_1 (ev1 rfl)) ?_
  refine walk_gr (gd_t rfl rfl rfl) rfl rfl rfl (op_ldm rfl tb3 (ev2 rfl) rfl rfl) ?_
  refine walk_gr (gd_t rfl rfl rfl) rfl rfl rfl (op_fa rfl fo24_1 (ev1 rfl)) ?_
  refine walk_gr (gd_t rfl rfl rfl) rfl rfl rfl (op_ldm rfl tb3 (ev2 rfl) rfl rfl) ?_
  refine walk_gr (gd_t rfl rfl rfl) rfl rfl rfl (op_eql rfl (ev2 rfl) (ev2 rfl)) ?_
  refine zab rfl rfl rfl (op_and rfl (ev1 rfl) (ev3 rfl id)) ?_
  refine zab rfl rfl rfl (zac (.inl rfl) (ev1 rfl)) ?_
  refine walk_gr (gd_t rfl rfl rfl) rfl rfl rfl (op_fa rfl fo24_2 (ev1 rfl)) ?_
  refine walk_gr (gd_t rfl rfl rfl) rfl rfl rfl (op_ldm rfl tb22 (ev2 rfl) rfl rfl) ?_
  refine walk_gr (gd_t rfl rfl rfl) rfl rfl rfl (op_fa rfl fo24_2 (ev1 rfl)) ?_
  refine walk_gr (gd_t rfl rfl rfl) rfl rfl rfl (op_ldm rfl tb22 (ev2 rfl) rfl rfl) ?_
  refine walk_gr (gd_t rfl rfl rfl) rfl rfl rfl (dop_call [] [] [] rfl (ev1 rfl) (ec (ev2 rfl) (ec (ev2 rfl) en)) rfl rfl (equalT _ _) rfl rfl rfl rfl rfl rfl) ?_
  refine zab rfl rfl rfl (op_and rfl (ev1 rfl) (ev3 rfl id)) ?_
  refine zab rfl rfl rfl (zac (.inr rfl) (ev1 rfl)) ?_
  refine zaf ?_
  refine dwp_ret ?_
  refine kend0 (rs1 rfl (rv_t rfl)) rfl ?_
  rw [D.val.injEq, Value.bool.injEq, Bool.eq_iff_iff]
  simp [and_assoc]
end Go.Proofs.Ytkhlobbkoodkmaa
namespace Go.Proofs.Ytkhlobbkoodkmaa
set_option linter.unusedVariables false
set_option linter.unusedSimpArgs false
open Go.RowKit
theorem tc_sz (t : TL) : ([Value.agg (tc t).toArray].all fun v => v.cells.size == 256) = true := by
  show ((tc t).toArray.size == 256 && true) = true
  rw [List.size_toArray, tc_len]; rfl
theorem tc_fl (t : TL) : ([Value.agg (tc t).toArray].flatMap fun v => v.cells.toList) = tc t := by rw [List.flatMap_cons]; exact List.append_nil _
theorem tc_oc1 (t : TL) : ([Value.agg (tc t).toArray].flatMap fun v => v.cells.toList).all (·.oneCell') = true := by rw [tc_fl]; exact tc_oc t
theorem tk_add {ts : List TL} {k : Nat} (h : k < ts.length) : (ts.take k).flatMap tc ++ ([Value.agg (tc (ts.getD k zT)).toArray].flatMap fun v => v.cells.toList) = (ts.take (k + 1)).flatMap tc := by
  rw [tc_fl, List.take_succ_eq_append_getElem h, List.flatMap_append, tl_at h]
  congr 1
  exact (List.append_nil _).symm
set_option maxRecDepth 4000 in
set_option maxHeartbeats 1000000 in
theorem show1_d (t : TL) : DFun Try.prog 39 [.dpf (tc t)] [] (tD t) [] := by
  refine dcalls_go (N := 6) 0 (by kernel_rfl) Try.func39 rfl rfl rfl (by simp only [fr0, Nat.zero_add, Nat.reduceAdd]; exact rfl) rfl fun s0 hs0 => ?_
  refine zae ?_
  refine dwp_holes 1 (by simp only [holes, List.cons_append, List.nil_append]; exact rfl) ?_
  refine zad ?_
  refine walk_w rfl rfl rfl (op_alloc 0 rfl zr52 rfl) (by simp only [upd, za, zaa]; exact rfl) ?_
  refine zaf ?_
  refine zae ?_
  refine zad ?_
  refine zab rfl rfl rfl (zac (.inl rfl) (ev1 rfl)) ?_
  refine zab rfl rfl rfl (op_nc rfl (ev1 rfl) (fun s v h => by cases h; exact ⟨_, rfl⟩)) ?_
  refine zab rfl rfl rfl (op_ldwd rfl tb52 (ev1 rfl) (tc_len _)) ?_
  refine walk_s rfl rfl (op_stwa rfl tb52 (ev1 rfl) (ev1 rfl) rfl (tc_len _) (tc_oc _) ((tc_len _).trans (tc_len _).symm)) (by simp only [upd, za, zaa]; exact rfl) ?_
  refine zaf ?_
  refine dwp_ret ?_
  refine kend0 (rs1 rfl (rv_w tb52 rfl rfl (tc_len _))) rfl ?_
  rfl
set_option maxRecDepth 4000 in
set_option maxHeartbeats 1000000 in
theorem each2_d (ds : List D) (ts : List TL) (hr : RowOk ds ts) (hn : ts.length ≤ 5000) : DFun Try.prog 38 [.slm 1 ds.length ds, .fn (.func 39) [] []] [] (.slf 256 ts.length (ts.flatMap tc)) [] := by
  have hlen := hr.len
  refine dcalls_go (N := 25) 0 (by kernel_rfl) Try.func38 rfl rfl rfl (by simp only [fr0, Nat.zero_add, Nat.reduceAdd]; exact rfl) rfl fun s0 hs0 => ?_
  refine dwp_lenm (t := 0) rfl fun hl0 hL0 => ?_
  refine zae ?_
  refine zad ?_
  refine zab rfl rfl rfl (zac (.inr rfl) (ev1 rfl)) ?_
  refine zaf ?_
  refine zae ?_
  refine dwp_holes 1 (by simp only [holes, List.cons_append, List.nil_append]; exact rfl) ?_
  refine zad ?_
  refine zab rfl rfl rfl (zac (.inl rfl) (ev1 rfl)) ?_
  refine zab rfl rfl rfl (op_lenm rfl sl74 (ev1 rfl)) ?_
  refine walk_w rfl rfl rfl (op_mk0 0 (ds.length) rfl sl22 zr52 (ev1 rfl) (ev1 rfl) (fun _ => rfl) (fun _ => by omega) rfl (fun _ => ⟨by omega, by omega⟩)) (by simp only [upd, za, zaa]; exact rfl) ?_
  refine zab rfl rfl rfl (zac (.inr rfl) (ev1 rfl)) ?_
  refine zaf ?_
  refine zae ?_
  refine zae ?_
  refine zad ?_
  refine zab rfl rfl rfl (zac (.inl rfl) (ev1 rfl)) ?_
  refine zab rfl rfl rfl (op_lenm rfl sl74 (ev1 rfl)) ?_
  refine zab rfl rfl rfl (zac (.inl rfl) (ev1 rfl)) ?_
  refine zaf ?_
  refine dwp_block ?_
  refine dwp_loopS ⟨hs0, rfl⟩ (α := Nat) (fun k => [(13, .val (.int .i64 (k : Int)))]) [(1, _), (5, _), (11, _), (12, _)] (fun k => [(0, .arr 52 256 (ts.take k).length ((ts.take k).flatMap tc))]) [.hole] (fun k => k ≤ ts.length) (fun k => ts.length - k) 0 [0] (Nat.zero_le _) rfl ⟨rfl, rfl, rfl, rfl, trivial⟩ ⟨rfl, trivial⟩ ⟨rfl, trivial⟩ ?_
  intro k hx
  simp only [upd, za, zaa, List.cons_append, List.nil_append]
  have hk := hx
  have htl : (ts.take k).length = k := by rw [List.length_take]; omega
  refine zae ?_
  refine zad ?_
  refine zab rfl rfl rfl (op_lss rfl (ev1 rfl) (ev1 rfl)) ?_
  refine zaf ?_
  refine zae ?_
  refine dwp_cond rfl (fun c1 => ?_) (fun c1 => ?_)
  · try simp only [decide_eq_true_eq, decide_eq_false_iff_not, beq_iff_eq, bne_iff_ne, beq_eq_false_iff_ne, bne_eq_false_iff_eq, Bool.not_eq_true', Bool.not_eq_false', Bool.and_eq_true, Bool.or_eq_true, Bool.or_eq_false_iff, ne_eq, Decidable.not_not, Int.not_lt, Int.not_le] at c1
    refine dwp_skip ?_
    refine zae ?_
    refine dwp_block ?_
    refine zae ?_
    obtain ⟨d, hd, _, hnl, _, hw⟩ := hr.at (q := k) (by omega)
    refine zad ?_
    refine zab rfl rfl rfl (op_ixm (k) rfl sl74 (ev1 rfl) (ev1 rfl) (fun _ => rfl) (hd)) ?_
    refine zab rfl rfl rfl ((op_lddm rfl tb78 (ev1 rfl) rfl).wk (hw)) ?_
    refine zab rfl rfl rfl (zac (.inr rfl) (ev1 rfl)) ?_
    refine zaf ?_
    refine dwp_holes 2 (by simp only [holes, List.cons_append, List.nil_append]; exact rfl) ?_
    refine zad ?_
    refine zab rfl rfl rfl (zac (.inl rfl) (ev1 rfl)) ?_
    refine zab rfl rfl rfl (zac (.inl rfl) (ev1 rfl)) ?_
    refine zab rfl rfl rfl (zac (.inl rfl) (ev1 rfl)) ?_
    refine zab rfl rfl rfl (dop_call [] [] [] rfl (ev1 rfl) (ec (ev1 rfl) en) rfl rfl (show1_d _) rfl rfl rfl rfl rfl rfl) ?_
    refine walk_w rfl rfl rfl (op_bsa (ps := [(0, .tmp 20)]) 1 rfl sl22 zr52 rfl (vc (ev1 rfl) vn) (tc_sz _) (by decide) (by decide) rfl) (by simp only [upd, za, zaa]; exact rfl) ?_
    refine walk_w rfl rfl rfl (op_app (j := 2) rfl sl22 zr52 rfl (ev1 rfl) (ev1 rfl) (src_arr rfl) rfl rfl (fun _ => tc_oc1 _) (fun _ => ⟨by omega, by omega⟩)) (by simp only [upd, za, zaa]; exact rfl) ?_
    refine zab rfl rfl rfl (zac (.inr rfl) (ev1 rfl)) ?_
    refine zaf ?_
    refine zad ?_
    refine zab rfl rfl rfl (op_add' rfl (ev1 rfl) (ev1 rfl) (fun _ => IntWalk.i64_in _ (by omega))) ?_
    refine zab rfl rfl rfl (zac (.inl rfl) (ev1 rfl)) ?_
    refine zaf ?_
    refine ⟨k + 1, [2], by omega, by simp only []; omega, rfl, ⟨rfl, rfl, rfl, rfl, rfl, trivial⟩, ⟨arr_eq (by simp; omega) (tk_add (by omega)), trivial⟩⟩
  · try simp only [decide_eq_true_eq, decide_eq_false_iff_not, beq_iff_eq, bne_iff_ne, beq_eq_false_iff_ne, bne_eq_false_iff_eq, Bool.not_eq_true', Bool.not_eq_false', Bool.and_eq_true, Bool.or_eq_true, Bool.or_eq_false_iff, ne_eq, Decidable.not_not, Int.not_lt, Int.not_le] at c1
    refine dwp_exit ?_
    refine zae ?_
    refine dwp_giveA 5 rfl rfl (by simp only [za, zaa]; exact rfl) ?_
    refine zad ?_
    refine zab rfl rfl rfl (zac (.inl rfl) (ev1 rfl)) ?_
    refine zab rfl rfl rfl (zac (.inr rfl) (ev1 rfl)) ?_
    refine zaf ?_
    refine dwp_ret ?_
    rw [List.take_of_length_le (by omega)]
    refine kend0 (rs1 rfl (rv_t rfl)) rfl ?_
    rfl
set_option maxRecDepth 4000 in
set_option maxHeartbeats 1000000 in
theorem show_d (w h : Int) (ds : List D) (ts : List TL) (hr : RowOk ds ts) (hc : CvOk w h ts)  : DFun Try.prog 16 [cvD w h ds] [] (shD w h ts) [] := by
  have hle := hc.le
  refine dcalls_go (N := 22) 0 (by kernel_rfl) Try.func16 rfl rfl rfl (by simp only [fr0, Nat.zero_add, Nat.reduceAdd]; exact rfl) rfl fun s0 hs0 => ?_
  refine zae ?_
  refine dwp_holes 1 (by simp only [holes, List.cons_append, List.nil_append]; exact rfl) ?_
  refine zad ?_
  refine walk_w rfl rfl rfl (op_alloc 0 rfl zr24 rfl) (by simp only [upd, za, zaa]; exact rfl) ?_
  refine zaf ?_
  refine zae ?_
  refine zae ?_
  refine zad ?_
  refine zab rfl rfl rfl (zac (.inl rfl) (ev1 rfl)) ?_
  refine zab rfl rfl rfl (op_pnilm rfl pt32 (ev1 rfl)) ?_
  refine zaf ?_
  refine dwp_if_f rfl (rfl) ?_
  refine dwp_skip ?_
  refine zae ?_
  refine dwp_draw [([], []), ([], []), ([], []), ([], []), ([], []), ([], []), ([], []), ([], []), ([], []), ([], []), ([], []), ([], []), ([], []), ([], []), ([], []), ([], []), ([0], [0])] mixed (by kernel_rfl) ?_
  refine zag rfl rfl (zac (.inl rfl) (ev1 rfl)) ?_
  refine zag rfl rfl (op_nc rfl (ev1 rfl) (fun s v h => by cases h; exact ⟨_, rfl⟩)) ?_
  refine zag rfl rfl (op_fadm rfl fo76_0 (ev1 rfl)) ?_
  refine zag rfl rfl (op_fadm rfl fo72_0 (ev1 rfl)) ?_
  refine zag rfl rfl (op_lddm rfl tb3 (ev1 rfl) rfl) ?_
  refine zag rfl rfl (zac (.inl rfl) (ev1 rfl)) ?_
  refine zag rfl rfl (op_nc rfl (ev1 rfl) (fun s v h => by cases h; exact ⟨_, rfl⟩)) ?_
  refine zag rfl rfl (op_fadm rfl fo76_0 (ev1 rfl)) ?_
  refine zag rfl rfl (op_fadm rfl fo72_1 (ev1 rfl)) ?_
  refine zag rfl rfl (op_lddm rfl tb3 (ev1 rfl) rfl) ?_
  refine zag rfl rfl (zac (.inl rfl) (ev1 rfl)) ?_
  refine zag rfl rfl (op_nc rfl (ev1 rfl) (fun s v h => by cases h; exact ⟨_, rfl⟩)) ?_
  refine zag rfl rfl (op_fadm rfl fo76_1 (ev1 rfl)) ?_
  refine zag rfl rfl (op_lddm rfl tb74 (ev1 rfl) rfl) ?_
  refine zag rfl rfl (dop_call [] [] [] rfl (ev1 rfl) (ec (ev1 rfl) (ec (ev1 rfl) en)) rfl rfl (each2_d ds ts hr (by omega)) rfl rfl rfl rfl rfl rfl) ?_
  refine zag rfl rfl (op_bldD (ps := [(0, .tmp 10), (1, .tmp 15), (2, .tmp 20)]) rfl fl24 zr24 (ec (ev1 rfl) (ec (ev1 rfl) (ec (ev1 rfl) en))) rfl rfl rfl) ?_
  refine lex_s rfl rfl (op_stam rfl tb24 (ev1 rfl) (ev1 rfl) rfl rfl rfl rfl) rfl (by simp only [upd, za, zaa]; exact rfl) ?_
  refine lex_nil ?_
  refine dwp_ret ?_
  refine kend0 (rs1 rfl (rv_mw tb24 rfl rfl rfl)) rfl ?_
  rfl
end Go.Proofs.Ytkhlobbkoodkmaa
namespace Go.Proofs.Ytkhlobbkoodkmaa
set_option linter.unusedVariables false
set_option linter.unusedSimpArgs false
open Go.RowKit
theorem with_d (w h : Int) (ds : List D) (ts : List TL) (hr : RowOk ds ts) (hc : CvOk w h ts) (l : List Dt) : DFun Try.prog 21 [cvD w h ds, .slf 6 l.length (l.flatMap dtC)] [] (cvD w h (dpR (putsC w h ts l))) [] :=
  (with_i w h ds ts hr hc l).fun fun I d hf => by
    obtain ⟨ps, h1, rfl⟩ := hf
    exact (h1.ok hr (putsC_len ..)).wkd w h
end Go.Proofs.Ytkhlobbkoodkmaa
namespace Go.Proofs.Ytkhlobbkoodkmaa
set_option linter.unusedVariables false
set_option linter.unusedSimpArgs false
open Go.RowKit
theorem shN_none {l r : List D} (h : ∀ d ∈ l, ∀ e ∈ r, d.adr ≠ e.adr) : shN l r = 0 := by
  induction l generalizing r with
  | nil => rfl
  | cons a l ih =>
    cases r with
    | nil => rfl
    | cons b r => rw [shN, if_neg (h a (by simp) b (by simp)), ih fun d hd e he => h d (by simp [hd]) e (by simp [he])]
end Go.Proofs.Ytkhlobbkoodkmaa
namespace Go.Proofs.Ytkhlobbkoodkmaa
set_option linter.unusedVariables false
set_option linter.unusedSimpArgs false
open Go.RowKit
theorem getC_put {w h : Int} {us : List TL} {d : Dt} (hc : CvOk w h us) (ho : onS w h d.x d.y = true) : getC w (putC w h us d) d.x d.y = d.c := by
  have hp := hc.pl ho
  have hq := (on_pl hc.may ho).2.2.2
  unfold getC putC
  rw [if_pos ho, tl_at (by simpa using hp), List.getElem_set_self]
  unfold TL.get TL.set
  rw [List.getD_eq_getElem?_getD, List.getElem?_set_self (by rw [TL.h]; exact hq)]
  rfl
theorem pinsR_adr {A : List Nat} {ts : List TL} {d : D} (hd : d ∈ pinsR A ts) : d.adr ∈ A := by
  obtain ⟨q, hq⟩ := List.getElem?_of_mem hd
  obtain ⟨b, t, h1, _, rfl⟩ := pinsR_at hq
  exact List.mem_of_getElem? h1
set_option maxRecDepth 4000 in
set_option maxHeartbeats 1000000 in
theorem back_d (w h : Int) (ts : List TL) (l : List Dt) : DFun Try.prog 6 [shD w h ts, .slf 6 l.length (l.flatMap dtC)] [] (.val (.bool true)) [] := by
  refine dcalls_go (N := 97) 0 (by kernel_rfl) Try.func6 rfl rfl rfl (by simp only [fr0, Nat.zero_add, Nat.reduceAdd]; exact rfl) rfl fun s0 hs0 => ?_
  refine dwp_len (t := 1) rfl fun hl1 hL1 => ?_
  refine zae ?_
  refine dwp_holes 1 (by simp only [holes, List.cons_append, List.nil_append]; exact rfl) ?_
  refine zad ?_
  refine walk_w rfl rfl rfl (op_boxam 0 rfl (ev1 rfl) rfl) (by simp only [upd, za, zaa]; exact rfl) ?_
  refine zab rfl rfl rfl (zac (.inr rfl) (ev1 rfl)) ?_
  refine zaf ?_
  refine zae ?_
  refine zae ?_
  refine zad ?_
  refine zab rfl rfl rfl (dop_call [] [] [] rfl (ev1 rfl) en rfl rfl (wakes_d) rfl rfl rfl rfl rfl rfl) ?_
  refine zab rfl rfl rfl (op_not rfl (ev1 rfl)) ?_
  refine zaf ?_
  refine dwp_if_f rfl (rfl) ?_
  refine dwp_skip ?_
  refine zae ?_
  by_cases hright : rightB w h (ts.take 17) = true
  · have hc := rightB_ok hright
    have hle := hc.le
    refine zad ?_
    refine zab rfl rfl rfl (op_ldmw rfl tb24 (ev1 rfl) rfl rfl) ?_
    refine zab rfl rfl rfl (dop_call [] [] [] rfl (ev1 rfl) (ec (ev1 rfl) en) rfl rfl (own_d _ _ _) rfl rfl rfl rfl rfl rfl) ?_
    refine walk_i rfl rfl rfl (dop_callI [] [] rfl (ev1 rfl) (ec (ev1 rfl) en) rfl rfl (of_i w h (ts.take 17) hc) rfl rfl rfl rfl (fun I d h => h.nl fun e he => he.nl)) (by simp only [upd, za, zaa]; exact rfl) ?_
    rintro I1 _ hI1 hP1 ⟨_, ⟨A1, hA1, hN1, rfl⟩, rfl⟩
    refine zab rfl rfl rfl (zac (.inl rfl) (ev1 rfl)) ?_
    refine zab rfl rfl rfl (op_ext rfl (ev1 rfl) rfl) ?_
    refine zab rfl rfl rfl (op_ext rfl (ev1 rfl) rfl) ?_
    refine zab rfl rfl rfl (zac (.inr rfl) (ev1 rfl)) ?_
    refine zab rfl rfl rfl (zac (.inr rfl) (ev1 rfl)) ?_
    refine zaf ?_
    refine zae ?_
    refine zae ?_
    refine zad ?_
    refine zab rfl rfl rfl (zac (.inl rfl) (ev1 rfl)) ?_
    refine zab rfl rfl rfl (op_neq rfl (ev1 rfl) (ev1 rfl)) ?_
    refine zaf ?_
    refine dwp_if_f rfl (rfl) ?_
    refine dwp_skip ?_
    refine zae ?_
    have hr1 := pinsR_ok hA1
    refine zad ?_
    refine zab rfl rfl rfl (zac (.inl rfl) (ev1 rfl)) ?_
    refine zab rfl rfl rfl (dop_call [] [] [] rfl (ev1 rfl) (ec (ev1 rfl) en) rfl rfl (show_d w h _ _ hr1 hc) rfl rfl rfl rfl rfl rfl) ?_
    refine walk_i rfl rfl rfl (dop_callI [] [] rfl (ev1 rfl) (ec (ev1 rfl) en) rfl rfl (of_i w h (ts.take 17) hc) rfl rfl rfl rfl (fun I d h => h.nl fun e he => he.nl)) (by simp only [upd, za, zaa]; exact rfl) ?_
    rintro I2 _ hI2 hP2 ⟨_, ⟨A2, hA2, hN2, rfl⟩, rfl⟩
    refine zab rfl rfl rfl (zac (.inl rfl) (ev1 rfl)) ?_
    refine zab rfl rfl rfl (op_ext rfl (ev1 rfl) rfl) ?_
    refine zab rfl rfl rfl (op_ext rfl (ev1 rfl) rfl) ?_
    refine zab rfl rfl rfl (zac (.inr rfl) (ev1 rfl)) ?_
    refine zab rfl rfl rfl (zac (.inr rfl) (ev1 rfl)) ?_
    refine zaf ?_
    refine zae ?_
    refine zae ?_
    have hr2 := pinsR_ok hA2
    have hz := shN_none (l := pinsR A2 (ts.take 17)) (r := pinsR A1 (ts.take 17)) fun d hd e he h => hN2 _ (pinsR_adr hd) (by rw [h]; exact hP2 5 _ rfl _ (pins_cv (pinsR_pins _ _) e he))
    refine zad ?_
    refine zab rfl rfl rfl (zac (.inl rfl) (ev1 rfl)) ?_
    refine zab rfl rfl rfl (op_neq rfl (ev1 rfl) (ev1 rfl)) ?_
    refine zab rfl rfl rfl (zac (.inl rfl) (ev1 rfl)) ?_
    refine walk_gr (gd_f rfl rfl rfl) rfl rfl rfl (zac (.inl rfl) (ev1 rfl)) ?_
    refine walk_gr (gd_f rfl rfl rfl) rfl rfl rfl (zac (.inl rfl) (ev1 rfl)) ?_
    refine walk_gr (gd_f rfl rfl rfl) rfl rfl rfl (dop_call [] [] [] rfl (ev1 rfl) (ec (ev2 rfl) (ec (ev2 rfl) en)) rfl rfl (same_cv w h _ _ _ _ hr2 hr1 hc hc) rfl rfl rfl rfl rfl rfl) ?_
    refine walk_gr (gd_f rfl rfl rfl) rfl rfl rfl (op_not rfl (ev2 rfl)) ?_
    refine zab rfl rfl rfl (op_or rfl (ev1 rfl) (ev3 rfl id)) ?_
    refine zab rfl rfl rfl (zac (.inl rfl) (ev1 rfl)) ?_
    refine walk_gr (gd_f rfl rfl rfl) rfl rfl rfl (zac (.inl rfl) (ev1 rfl)) ?_
    refine walk_gr (gd_f rfl rfl rfl) rfl rfl rfl (zac (.inl rfl) (ev1 rfl)) ?_
    refine walk_gr (gd_f rfl rfl rfl) rfl rfl rfl (dop_call [] [] [] rfl (ev1 rfl) (ec (ev2 rfl) (ec (ev2 rfl) en)) rfl rfl (same_cv w h _ _ _ _ hr1 hr2 hc hc) rfl rfl rfl rfl rfl rfl) ?_
    refine walk_gr (gd_f rfl rfl rfl) rfl rfl rfl (op_not rfl (ev2 rfl)) ?_
    refine zab rfl rfl rfl (op_or rfl (ev1 rfl) (ev3 rfl id)) ?_
    refine zab rfl rfl rfl (zac (.inl rfl) (ev1 rfl)) ?_
    refine walk_gr (gd_f rfl rfl rfl) rfl rfl rfl (zac (.inl rfl) (ev1 rfl)) ?_
    refine walk_gr (gd_f rfl rfl rfl) rfl rfl rfl (zac (.inl rfl) (ev1 rfl)) ?_
    refine walk_gr (gd_f rfl rfl rfl) rfl rfl rfl (dop_call [] [] [] rfl (ev1 rfl) (ec (ev2 rfl) (ec (ev2 rfl) en)) rfl rfl (shared_d w h _ _ (by rw [pinsR_len hA1, pinsR_len hA2]) (by rw [pinsR_len hA2]; omega) (pinsR_pins _ _) (pinsR_pins _ _)) rfl rfl rfl rfl rfl rfl) ?_
    refine walk_gr (gd_f rfl rfl rfl) rfl rfl rfl (op_neq rfl (ev2 rfl) (ev1 rfl)) ?_
    refine zab rfl rfl rfl (op_or rfl (ev1 rfl) (ev3 rfl id)) ?_
    refine zaf ?_
    refine dwp_if_f rfl (by rw [hz]; simp) ?_
    refine dwp_skip ?_
    refine zae ?_
    refine dwp_holes 1 (by simp only [holes, List.cons_append, List.nil_append]; exact rfl) ?_
    refine zad ?_
    refine zab rfl rfl rfl (zac (.inl rfl) (ev1 rfl)) ?_
    refine zab rfl rfl rfl (dop_call [] [] [] rfl (ev1 rfl) (ec (ev1 rfl) en) rfl rfl (show_d w h _ _ hr1 hc) rfl rfl rfl rfl rfl rfl) ?_
    refine walk_w rfl rfl rfl (op_alloc 1 rfl zr24 rfl) (by simp only [upd, za, zaa]; exact rfl) ?_
    refine walk_s rfl rfl (op_stam rfl tb24 (ev1 rfl) (ev1 rfl) rfl rfl rfl rfl) (by simp only [upd, za, zaa]; exact rfl) ?_
    refine zaf ?_
    refine zae ?_
    refine zad ?_
    refine zab rfl rfl rfl (zac (.inl rfl) (ev1 rfl)) ?_
    refine zab rfl rfl rfl (zac (.inr rfl) (ev1 rfl)) ?_
    refine zaf ?_
    refine zae ?_
    refine zae ?_
    obtain ⟨L, hL⟩ : ∃ L, L = l.take 30 := ⟨_, rfl⟩
    refine zad ?_
    refine zab rfl rfl rfl (zac (.inl rfl) (ev1 rfl)) ?_
    refine zab rfl rfl rfl (dop_call [] [] [] rfl (ev1 rfl) (ec (ev1 rfl) en) rfl rfl ((by rw [hL]; exact few_d l : DFun Try.prog 29 [.slf 6 l.length (l.flatMap dtC)] [] (.slf 6 L.length (L.flatMap dtC)) [])) rfl rfl rfl rfl rfl rfl) ?_
    refine zab rfl rfl rfl (op_len rfl sl60 (ev1 rfl)) ?_
    refine zab rfl rfl rfl (zac (.inl rfl) (ev1 rfl)) ?_
    refine zaf ?_
    refine dwp_block ?_
    refine dwp_wk 9 rfl (hr1.wkd w h) ?_
    refine dwp_loopS ⟨hs0, rfl⟩ (α := Nat) (fun k => [(9, cvD w h (dpR (putsC w h (ts.take 17) (L.take k)))), (59, .val (.int .i64 (k : Int)))]) [(1, _), (5, _), (8, _), (57, _), (58, _)] (fun k => []) [_, _] (fun k => k ≤ L.length) (fun k => L.length - k) 0 [0, 1] (Nat.zero_le _) rfl ⟨rfl, rfl, rfl, rfl, rfl, trivial⟩ ⟨rfl, rfl, trivial⟩ ⟨rfl, rfl, trivial⟩ ?_
    intro k hx
    simp only [upd, za, zaa, List.cons_append, List.nil_append]
    have hk := hx
    have hcu : CvOk w h (putsC w h (ts.take 17) (L.take k)) := hc.puts (L.take k)
    have hL30 : L.length ≤ 30 := by rw [hL, List.length_take]; omega
    refine zae ?_
    refine zad ?_
    refine zab rfl rfl rfl (op_lss rfl (ev1 rfl) (ev1 rfl)) ?_
    refine zaf ?_
    refine zae ?_
    refine dwp_cond rfl (fun c4 => ?_) (fun c4 => ?_)
    · try simp only [decide_eq_true_eq, decide_eq_false_iff_not, beq_iff_eq, bne_iff_ne, beq_eq_false_iff_ne, bne_eq_false_iff_eq, Bool.not_eq_true', Bool.not_eq_false', Bool.and_eq_true, Bool.or_eq_true, Bool.or_eq_false_iff, ne_eq, Decidable.not_not, Int.not_lt, Int.not_le] at c4
      refine dwp_skip ?_
      refine zae ?_
      refine dwp_block ?_
      refine zae ?_
      refine dwp_holes 1 (by simp only [holes, List.cons_append, List.nil_append]; exact rfl) ?_
      refine zad ?_
      refine zab rfl rfl rfl (op_ixsr (j := k) rfl sl60 (ev1 rfl) (ev1 rfl) (fun _ => rfl) (by decide) (by omega) (by omega)) ?_
      refine zab rfl rfl rfl (op_ldwd rfl tb47 (ev1 rfl) rfl) ?_
      refine walk_w rfl rfl rfl (op_alloc 2 rfl zr47 rfl) (by simp only [upd, za, zaa]; exact rfl) ?_
      refine walk_s rfl rfl (op_stwa rfl tb47 (ev1 rfl) (ev1 rfl) rfl rfl rfl rfl) (by simp only [upd, za, zaa]; exact rfl) ?_
      refine zaf ?_
      refine zae ?_
      refine zad ?_
      refine zab rfl rfl rfl (zac (.inl rfl) (ev1 rfl)) ?_
      refine zab rfl rfl rfl (op_ldw rfl tb47 (ev1 rfl) rfl rfl) ?_
      refine zab rfl rfl rfl (op_bs (ps := [(0, .tmp 64)]) rfl sl60 zr47 rfl (vc (ev1 rfl) vn) rfl (by decide) (by decide)) ?_
      refine zab rfl rfl rfl (dop_call [] [] [] rfl (ev1 rfl) (ec (ev1 rfl) (ec (ev1 rfl) en)) rfl rfl (with_d w h _ _ (dpR_ok _) hcu [L[k]]) rfl rfl rfl rfl rfl rfl) ?_
      refine zab rfl rfl rfl (zac (.inr rfl) (ev1 rfl)) ?_
      refine zaf ?_
      refine zae ?_
      refine zae ?_
      refine dwp_holes 1 (by simp only [holes, List.cons_append, List.nil_append]; exact rfl) ?_
      refine zad ?_
      refine zab rfl rfl rfl (zac (.inl rfl) (ev1 rfl)) ?_
      refine zab rfl rfl rfl (op_fa rfl fo47_0 (ev1 rfl)) ?_
      refine zab rfl rfl rfl (op_ldo rfl tb3 (ev1 rfl) rfl rfl) ?_
      refine zab rfl rfl rfl (op_fa rfl fo47_1 (ev1 rfl)) ?_
      refine zab rfl rfl rfl (op_ldo rfl tb3 (ev1 rfl) rfl rfl) ?_
      refine zab rfl rfl rfl (dop_call [] [] [] rfl (ev1 rfl) (ec (ev1 rfl) (ec (ev1 rfl) (ec (ev1 rfl) en))) rfl rfl (at_d w h _ _ (dpR_ok _) (hcu.puts [L[k]]) L[k].x L[k].y) rfl rfl rfl rfl rfl rfl) ?_
      refine zab rfl rfl rfl (zac (.inl rfl) (ev1 rfl)) ?_
      refine zab rfl rfl rfl (op_ext rfl (ev1 rfl) rfl) ?_
      refine zab rfl rfl rfl (op_ext rfl (ev1 rfl) rfl) ?_
      refine walk_w rfl rfl rfl (op_alloc 3 rfl zr40 rfl) (by simp only [upd, za, zaa]; exact rfl) ?_
      refine walk_s rfl rfl (op_stwa rfl tb40 (ev1 rfl) (ev1 rfl) rfl rfl rfl rfl) (by simp only [upd, za, zaa]; exact rfl) ?_
      refine zab rfl rfl rfl (zac (.inr rfl) (ev1 rfl)) ?_
      refine zaf ?_
      refine zae ?_
      refine zad ?_
      refine zab rfl rfl rfl (zac (.inl rfl) (ev1 rfl)) ?_
      refine zab rfl rfl rfl (zac (.inl rfl) (ev1 rfl)) ?_
      refine walk_gr (gd_t rfl rfl rfl) rfl rfl rfl (op_ldw rfl tb40 (ev1 rfl) rfl rfl) ?_
      refine walk_gr (gd_t rfl rfl rfl) rfl rfl rfl (op_fa rfl fo47_2 (ev1 rfl)) ?_
      refine walk_gr (gd_t rfl rfl rfl) rfl rfl rfl (op_ldr rfl tb40 (ev2 rfl) rfl rfl rfl) ?_
      refine walk_gr (gd_t rfl rfl rfl) rfl rfl rfl (op_ner eq40 rfl gd40 tb40 (ev2 rfl) (ev2 rfl)) ?_
      refine zab rfl rfl rfl (op_and rfl (ev1 rfl) (ev3 rfl id)) ?_
      refine zaf ?_
      refine dwp_if_f rfl (by
      cases ho : onS w h L[k].x L[k].y with
      | false => rfl
      | true =>
        have e : getC w (putsC w h (putsC w h (ts.take 17) (L.take k)) [L[k]]) L[k].x L[k].y = L[k].c := getC_put hcu ho
        simp [e]) ?_
      refine dwp_skip ?_
      refine zad ?_
      refine zab rfl rfl rfl (zac (.inl rfl) (ev1 rfl)) ?_
      refine zab rfl rfl rfl (zac (.inr rfl) (ev1 rfl)) ?_
      refine zaf ?_
      refine zad ?_
      refine zab rfl rfl rfl (op_add' rfl (ev1 rfl) (ev1 rfl) (fun _ => IntWalk.i64_in _ (by omega))) ?_
      refine zab rfl rfl rfl (zac (.inl rfl) (ev1 rfl)) ?_
      refine zaf ?_
      refine ⟨k + 1, [0, 1], by omega, by simp only []; omega, rfl, ⟨by rw [putsC_take (by omega)]; rfl, rfl, rfl, rfl, rfl, rfl, rfl, trivial⟩, ⟨rfl, rfl, trivial⟩⟩
    · try simp only [decide_eq_true_eq, decide_eq_false_iff_not, beq_iff_eq, bne_iff_ne, beq_eq_false_iff_ne, bne_eq_false_iff_eq, Bool.not_eq_true', Bool.not_eq_false', Bool.and_eq_true, Bool.or_eq_true, Bool.or_eq_false_iff, ne_eq, Decidable.not_not, Int.not_lt, Int.not_le] at c4
      refine dwp_exit ?_
      refine zae ?_
      have hk : L.take k = L := List.take_of_length_le (by omega)
      rw [hk]
      refine dwp_draw [([], []), ([], []), ([1], []), ([], []), ([], []), ([], []), ([], []), ([], []), ([], []), ([], []), ([], []), ([], []), ([], [])] mixed (by kernel_rfl) ?_
      refine zag rfl rfl (zac (.inl rfl) (ev1 rfl)) ?_
      refine zag rfl rfl (dop_call [] [] [] rfl (ev1 rfl) (ec (ev1 rfl) en) rfl rfl (show_d w h _ _ hr1 hc) rfl rfl rfl rfl rfl rfl) ?_
      refine zag rfl rfl (op_ldmw rfl tb24 (ev1 rfl) rfl rfl) ?_
      refine zag rfl rfl (dop_call [] [] [] rfl (ev1 rfl) (ec (ev1 rfl) (ec (ev1 rfl) en)) rfl rfl (alike_d _ _ _ _ _ _) rfl rfl rfl rfl rfl rfl) ?_
      refine zag rfl rfl (zac (.inl rfl) (ev1 rfl)) ?_
      refine lex_gr (gd_t rfl rfl rfl) rfl rfl (zac (.inl rfl) (ev1 rfl)) ?_
      refine lex_gr (gd_t rfl rfl rfl) rfl rfl (zac (.inl rfl) (ev1 rfl)) ?_
      refine lex_gr (gd_t rfl rfl rfl) rfl rfl (zac (.inl rfl) (ev1 rfl)) ?_
      refine lex_gr (gd_t rfl rfl rfl) rfl rfl (dop_call [] [] [] rfl (ev1 rfl) (ec (ev2 rfl) en) rfl rfl ((by rw [hL]; exact few_d l : DFun Try.prog 29 [.slf 6 l.length (l.flatMap dtC)] [] (.slf 6 L.length (L.flatMap dtC)) [])) rfl rfl rfl rfl rfl rfl) ?_
      refine lex_gr (gd_t rfl rfl rfl) rfl rfl (dop_call [] [] [] rfl (ev1 rfl) (ec (ev2 rfl) (ec (ev2 rfl) en)) rfl rfl (with_d w h _ _ hr1 hc L) rfl rfl rfl rfl rfl rfl) ?_
      refine lex_gr (gd_t rfl rfl rfl) rfl rfl (dop_call [] [] [] rfl (ev1 rfl) (ec (ev2 rfl) (ec (ev2 rfl) en)) rfl rfl (same_cv w h _ _ _ _ (dpR_ok _) (dpR_ok _) (hc.puts L) (hc.puts L)) rfl rfl rfl rfl rfl rfl) ?_
      refine zag rfl rfl (op_and rfl (ev1 rfl) (ev3 rfl id)) ?_
      refine zag rfl rfl (zac (.inr rfl) (ev1 rfl)) ?_
      refine lex_nil ?_
      refine dwp_ret ?_
      refine kend0 (rs1 rfl (rv_t rfl)) rfl ?_
      first | rfl | simp
  · refine zad ?_
    refine zab rfl rfl rfl (op_ldmw rfl tb24 (ev1 rfl) rfl rfl) ?_
    refine zab rfl rfl rfl (dop_call [] [] [] rfl (ev1 rfl) (ec (ev1 rfl) en) rfl rfl (own_d _ _ _) rfl rfl rfl rfl rfl rfl) ?_
    refine zab rfl rfl rfl (dop_call [] [] [] rfl (ev1 rfl) (ec (ev1 rfl) en) rfl rfl (of_0 w h (ts.take 17) (by simpa using hright)) rfl rfl rfl rfl rfl rfl) ?_
    refine zab rfl rfl rfl (zac (.inl rfl) (ev1 rfl)) ?_
    refine zab rfl rfl rfl (op_ext rfl (ev1 rfl) rfl) ?_
    refine zab rfl rfl rfl (op_ext rfl (ev1 rfl) rfl) ?_
    refine zab rfl rfl rfl (zac (.inr rfl) (ev1 rfl)) ?_
    refine zab rfl rfl rfl (zac (.inr rfl) (ev1 rfl)) ?_
    refine zaf ?_
    refine zae ?_
    refine zae ?_
    refine zad ?_
    refine zab rfl rfl rfl (zac (.inl rfl) (ev1 rfl)) ?_
    refine zab rfl rfl rfl (op_neq rfl (ev1 rfl) (ev1 rfl)) ?_
    refine zaf ?_
    refine dwp_if_t rfl (rfl) ?_
    refine zae ?_
    refine zad ?_
    refine zab rfl rfl rfl (zac (.inl rfl) (ev1 rfl)) ?_
    refine zab rfl rfl rfl (op_pnil0 rfl pt32 (ev1 rfl)) ?_
    refine zab rfl rfl rfl (zac (.inr rfl) (ev1 rfl)) ?_
    refine zaf ?_
    refine dwp_ret ?_
    refine kend0 (rs1 rfl (rv_t rfl)) rfl ?_
    first | rfl | simp
end Go.Proofs.Ytkhlobbkoodkmaa
