/- Operations: numbers, bools, structs, memory that is read and written. Conditions: what a type is, by the kernel; Operations that make memory, and write it. Conditions: what a type is, by the kernel; Operations on slices: made, cut, grown; tuples; function values; structs. Conditions: what a type is, by the kernel; Codes within a function; a loop's rounds one by one; strings; From a contract to the statement: a law whose call returns true whatever its arguments read as; with listed variables, too.  but the kernel's look at the program; Rows made by make, and copied into; parts of arrays with their room cut; What is known of a value, told otherwise: nil slices as rows of nothing, plain structs as lists of cells; stamps; stamps asked, made, and counted; stamps turned, flipped, and counted, by the document; arguments that are opened; stamps turned, and flipped, as the document has it; Parts . No condition. -/
import Derived.Test.YtadjbiccndaclaaQ5
import Derived.Test.YtadjbiccndaclaaRows
namespace Go.Proofs.Ytadjbiccndaclaa
theorem ya {p : Prop} [Decidable p] : decide p = false ↔ ¬p := _root_.decide_eq_false_iff_not
theorem yb {α : Type _} [BEq α] [LawfulBEq α] {a b : α} : (a == b) = false ↔ a ≠ b := _root_.beq_eq_false_iff_ne
theorem yc {α : Type _} [BEq α] [LawfulBEq α] {a b : α} : (a != b) = false ↔ a = b := _root_.bne_eq_false_iff_eq
theorem yd {x y : Bool} : (x || y) = false ↔ x = false ∧ y = false := _root_.Bool.or_eq_false_iff
theorem ye {b : Bool} : ((!b) = false) = (b = true) := by cases b <;> simp
theorem yf {b : Bool} : ((!b) = true) = (b = false) := by cases b <;> simp
theorem yg {p : Prop} [Decidable p] : (decide p = true) = p := _root_.decide_eq_true_eq
theorem yh {a b : Bool} : ((a && b) = true) = (a = true ∧ b = true) := _root_.Bool.and_eq_true a b
theorem yi {a b : Bool} : ((a || b) = true) = (a = true ∨ b = true) := _root_.Bool.or_eq_true a b
theorem yj {p : Prop} [Decidable p] : ¬¬p ↔ p := _root_.Decidable.not_not
set_option linter.unusedVariables false
set_option linter.unusedSimpArgs false
open Go.RowKit

/-! ### what a type is -/
section
variable {P : Program} {pc : Bool} {o : Oper} {F : Fr} {M : List Blk}
section
variable {T T' : TypeId} {x y : Operand} {k : IntKind} {p q : Int}
end
section
variable {T : TypeId} {x : Operand} {i p k : Nat} {L R : List Value} {v : Value}
theorem arr_cells {s : St} (hok : Ok s) {T' : TypeId} {sz n n' c b : Nat} (h1 : s.M[i]? = some (.arr T' sz n L)) (h2 : s.β[i]? = some (.slice (some ⟨b, 0, none⟩) n' c)) : n' = n ∧ L.length = n * sz ∧ n ≤ c ∧ c ≤ maxLen ∧ cellsAt s.w b 0 L ∧ ∃ cur, s.w.heap[b]? = some (.cells cur T' (0, 0)) ∧ L.length ≤ cur.size ∧ cur.toList.take L.length = L := by
  have hk : s.w.ownsRow 0 T' sz _ n L := hok.blk i _ _ h1 h2
  rcases hk.2 with ⟨e1, e2⟩ | ⟨g, cap, cur, e1, e2, e3, e4, e5, e6, e7⟩
  · cases e1
  · cases e1
    have hc0 := cellsAt_sub (cellsAt_block e3 0) 0 (n * sz)
    have hle := Nat.mul_le_mul_right sz e4
    exact ⟨rfl, hk.1, e4, e5, by simpa [e7] using hc0, cur, e3, by rw [hk.1, e6]; exact hle, by rw [hk.1]; exact e7⟩
theorem op_ldoa {T' : TypeId} {sz n : Nat} (ho : o.op = .load T x) (hT : tyB P T = some (false, k)) (hx : Ev pc F x (.aloc i p)) (hM : M[i]? = some (.arr T' sz n L)) (hR : L[p]? = some v) : DOp P pc o F M [i] (.val v) [] := by
  intro hp a s hok hops hfp
  have hr := ev_at hp hx (by simp [ho, Op.operands]) hops
  generalize hv : a.eval x = vx at hr
  cases hr with
  | @aloc _ _ n' c b h =>
    obtain ⟨_, _, _, _, hc, _⟩ := arr_cells hok (by rw [hfp i (by simp)]; exact hM) h
    exact dg_val hok (run_load_one ho hT hv (by simpa using hc p v hR)) (.val _)

/-! ### addresses -/
theorem op_faa {f q : Nat} (ho : o.op = .fieldAddr T x f) (hT : fdO P T f = some q) (hx : Ev pc F x (.aloc i p)) : DOp P pc o F M [] (.aloc i (p + q)) [] := by
  intro hp a s hok hops hfp
  have hr := ev_at hp hx (by simp [ho, Op.operands]) hops
  generalize hv : a.eval x = vx at hr
  cases hr with
  | @aloc _ _ n' c b h => exact dg_val hok (run_fieldAddr ho hT hv) (.aloc h)
end
section
variable {T : TypeId} {x y : Operand} {i p n sz : Nat} {k : IntKind} {z : Int} {L : List Value}
variable {e : TypeId} {by' m : Nat}
end
end
theorem flat_one {α : Type} {en : α → List Value} {sz : Nat} (hen : ∀ a, (en a).length = sz) {l : List α} {j : Nat} (hj : j < l.length) : ((l.flatMap en).drop (j * sz)).take sz = en l[j] := by
  have := flat_part hen (c := 0) (k := sz) hj (by omega)
  rw [Nat.add_zero] at this
  rw [this, List.drop_zero, List.take_of_length_le (by rw [hen]; exact Nat.le_refl _)]
theorem flat_set_part {α : Type} {en : α → List Value} {sz : Nat} (hen : ∀ a, (en a).length = sz) {l : List α} {j c : Nat} {C : List Value} (hj : j < l.length) (hc : c + C.length ≤ sz) {x : α} (hx : setL (en l[j]) c C = en x) : setL (l.flatMap en) (j * sz + c) C = (l.set j x).flatMap en := by
  rw [← flat_set hen hj, ← hx]
  have h1 : (j + 1) * sz ≤ l.length * sz := Nat.mul_le_mul_right _ hj
  rw [Nat.succ_mul] at h1
  have hl := flat_len hen l
  have e1 : l.flatMap en = (l.flatMap en).take (j * sz) ++ en l[j] ++ (l.flatMap en).drop (j * sz + sz) := by
    have h2 := flat_one hen hj
    rw [← h2, List.append_assoc, ← List.drop_drop, List.take_append_drop, List.take_append_drop]
  have hlen0 : ((l.flatMap en).take (j * sz)).length = j * sz := by rw [List.length_take, hl]; omega
  generalize hA : (l.flatMap en).take (j * sz) = A at e1 hlen0
  generalize hB : (l.flatMap en).drop (j * sz + sz) = B at e1
  generalize l.flatMap en = X at e1 hl
  subst e1
  have he := hen l[j]
  generalize en l[j] = E at *
  have hlE : (setL E c C).length = E.length := setL_len _ _ _
  rw [setL_eq C _ _ (by simp; omega), setL_eq (setL E c C) _ _ (by simp; omega), hlE, setL_eq C E c (by omega)]
  have t1 : (A ++ E ++ B).take (j * sz + c) = A ++ E.take c := by
    rw [List.append_assoc, List.take_append, List.take_of_length_le (by omega), hlen0, show j * sz + c - j * sz = c by omega, List.take_append_of_le_length (by omega)]
  have t2 : (A ++ E ++ B).drop (j * sz + c + C.length) = E.drop (c + C.length) ++ B := by
    rw [List.append_assoc, List.drop_append, List.drop_eq_nil_of_le (by omega), List.nil_append, hlen0, show j * sz + c + C.length - j * sz = c + C.length by omega, List.drop_append_of_le_length (by omega)]
  have t3 : (A ++ E ++ B).take (j * sz) = A := by
    rw [List.append_assoc, List.take_append_of_le_length (by omega), List.take_of_length_le (by omega)]
  have t4 : (A ++ E ++ B).drop (j * sz + E.length) = B := by
    rw [List.drop_append, List.drop_eq_nil_of_le (by simp; omega), List.nil_append]
    simp [hlen0]
  rw [t1, t2, t3, t4]
  simp
section
variable {P : Program} {pc : Bool} {o : Oper} {F : Fr} {M : List Blk}
end
section
variable {P : Program} {pc : Bool} {o : Oper} {F : Fr} {M : List Blk}
theorem op_lena {T T' : TypeId} {x : Operand} {q : TypeId × Nat × Nat} {i sz n : Nat} {L : List Value} (ho : o.op = .call { callee := .builtin .len, args := #[x], argTypes := #[T] }) (hT : slE P T = some q) (hx : Ev pc F x (.arr i)) (hM : M[i]? = some (.arr T' sz n L)) : DOp P pc o F M [i] (.val (.int .i64 n)) [] := by
  intro hp a s hok hops hfp
  obtain ⟨e1, _⟩ := slE_spec hT
  have hr := ev_at hp hx (by simp [ho, Op.operands, Call.operands]) hops
  generalize hv : a.eval x = vx at hr
  cases hr with
  | arr h =>
    have hM' : s.M[i]? = some (.arr T' sz n L) := by rw [hfp i (by simp)]; exact hM
    have hk : s.w.ownsRow 0 T' sz _ n L := hok.blk i _ _ hM' h
    refine dg_val hok (run_builtin ho (fun cs => rfl) ?_) (.val (.int .i64 n))
    rcases hk.2 with ⟨e2, e3⟩ | ⟨g, cap, cur, e2, _⟩
    · cases e2; simp [Builtin.len_, hv, run_underlying e1, goInt, e3]
    · cases e2; simp [Builtin.len_, hv, run_underlying e1, goInt]
/-- a part of an array of its own -/
theorem op_sla {T e T' : TypeId} {sz by' n k : Nat} {x : Operand} {lo hi : Option Operand} {L : List Value} {l h : Int} (ho : o.op = .slice T x lo hi none) (hT : slE P T = some (e, sz, by')) (hx : Ev pc F x (.arr k)) (hM : M[k]? = some (.arr T' sz n L)) (hlo : Bd pc F lo 0 l) (hhi : Bd pc F hi n h)
    (hb : pc = true → 0 ≤ l ∧ l ≤ h ∧ h ≤ n) : DOp P pc o F M [k] (.own k sz l.toNat (h.toNat - l.toNat)) [] := by
  intro hp a s hok hops hfp
  obtain ⟨b1, b2, b3⟩ := hb hp
  have hr := ev_at hp hx (by simp [ho, Op.operands]) hops
  generalize hv : a.eval x = vx at hr
  cases hr with
  | @arr _ ad n' c hβ =>
    have hM' : s.M[k]? = some (.arr T' sz n L) := by rw [hfp k (by simp)]; exact hM
    have hk : s.w.ownsRow 0 T' sz _ n L := hok.blk k _ _ hM' hβ
    have q1 := bd_at hp hlo (fun u e => by subst e; simp [ho, Op.operands]) hops
    have q2 := bd_at hp hhi (fun u e => by subst e; simp [ho, Op.operands]) hops
    rcases hk.2 with ⟨e1, e2⟩ | ⟨g, cap, cur, e1, e2, e3, e4, e5, e6, e7⟩
    · cases e1
      subst e2
      have hl0 : l = 0 := by omega
      have hh0 : h = 0 := by omega
      subst hl0 hh0
      refine dg_val hok (run_slice ho hT hv q1 q2 (by omega) (by omega) (by omega) (Nat.le_refl _)) ?_
      exact .ownnil hβ
    · cases e1
      refine dg_val hok (run_slice ho hT hv q1 q2 b1 b2 b3 e4) ?_
      refine .own hβ ?_ (by omega) (fun e => ?_) (by omega) (by omega)
      · by_cases hz : c = l.toNat
        · left; omega
        · right; rw [if_neg hz, Option.map_some, Addr.add_mid, Nat.zero_add]
      · split at e
        · cases e
        · cases e

/-! ### slices made -/
section
variable {T e : TypeId} {sz by' n : Nat} {ps : List (Nat × Operand)} {vs Z : List Value}
end

/-! ### append -/
theorem src_own {i p m n sz : Nat} {T' : TypeId} {L L2 : List Value} (hM : M[i]? = some (.arr T' sz n L)) (hL : (L.drop (p * sz)).take (m * sz) = L2) : SrcD M [i] (.own i sz p m) m sz L2 := by
  intro s v hok hfp hr
  have hM' : s.M[i]? = some (.arr T' sz n L) := by rw [hfp i (by simp)]; exact hM
  subst hL
  cases hr with
  | @own _ _ _ _ N cap c b ad h ha hN hz hn hc =>
    obtain ⟨e0, e1, _, _, hcl, _⟩ := arr_cells hok hM' h
    subst e0
    have hlen : ((L.drop (p * sz)).take (m * sz)).length = m * sz := by
      rw [List.length_take, List.length_drop, e1, ← Nat.mul_sub_right_distrib]
      exact Nat.min_eq_left (Nat.mul_le_mul_right _ (by omega))
    refine ⟨hlen, ad, c, rfl, ?_⟩
    cases ad with
    | none =>
      have := hz rfl
      exact .inl ⟨rfl, by omega, this, List.eq_nil_of_length_eq_zero (by rw [hlen, show m = 0 by omega]; simp)⟩
    | some ad =>
      refine .inr ⟨ad, rfl, fun j u hj => ?_⟩
      rcases ha with rfl | e
      · simp at hj
      · cases e
        rw [Addr.add_mid]
        have := cellsAt_sub hcl (p * sz) (m * sz) j u hj
        simpa using this
  | @ownnil _ _ h =>
    refine ⟨by simp, none, 0, rfl, .inl ⟨rfl, rfl, rfl, by simp⟩⟩
end
theorem arr_eq {T : TypeId} {sz n n' : Nat} {L L' : List Value} (h : n = n') (h' : L = L') : some (Blk.arr T sz n L) = some (Blk.arr T sz n' L') := by rw [h, h']
section
variable {P : Program} {s0 : St} {n : Cx}
end
open Go.ChangeShapes Go.WideShapes Go.ChangeAt Go.RowKit Go.Joins Go.Deep
set_option maxRecDepth 100000
section
variable {H : Type} {enc : TypeId × Value → H} {w : World} {base b0 : Nat} {r : Reach} {spare : Nat → Bool} {held : Bool} {v : Value} {d : DataW H} {p : List MemPlace}
theorem open_struct {α : Type} {t : TypeId} {fs : Array Field} {ps : List Prim} (f : Nat) (en : α → List Value) (ok : α → Prop) (hP : ∀ cs, fitsP ps cs → ∃ a, ok a ∧ cs = en a) (hu : Try.prog.underlying t = some (.struct fs)) (hf : flatT Try.prog f t = some ps)
    (hv : Value.okWide Try.prog w r b0 t v) (h : DataW.Trod enc Try.prog w base spare held t v d p) : ∃ a, ok a ∧ v = .agg (en a).toArray := by
  obtain ⟨cs, rfl, hsz⟩ := okWide_struct hu hv
  obtain ⟨fuel, hfu⟩ := h
  obtain ⟨a, hr, e⟩ := hP _ (flat_trod f _ _ _ _ _ hf hfu)
  refine ⟨a, hr, ?_⟩
  have e2 : cs.toList = en a := e
  rw [← e2]
end
section
variable {P : Program} {pc : Bool} {o : Oper} {F : Fr} {M : List Blk} {T e : TypeId} {by' : Nat} {x y : Operand}
end
section
variable {P : Program} {pc : Bool} {o : Oper} {F : Fr} {M : List Blk} {T T' : TypeId} {x y : Operand} {k k' : IntKind} {p q : Int}
theorem fdiv_pow (p : Int) (j : Nat) : p.fdiv (2 ^ j) = p / 2 ^ j := Int.fdiv_eq_ediv_of_nonneg _ (Int.le_of_lt (Int.pow_pos (by decide)))
theorem op_shr (j : Nat) (ho : o.op = .binOp .shr T x y T') (hx : Ev pc F x (.val (.int k p))) (hy : Ev pc F y (.val (.int k' q))) (hq : pc = true → q = (j : Int) ∧ j ≤ k.bits) : DOp P pc o F M [] (.val (.int k (p / 2 ^ j))) [] := by
  refine op_val2 hx hy (by simp [ho, Op.operands]) fun hp a w e1 e2 => ?_
  obtain ⟨h1, h2⟩ := hq hp
  subst h1
  unfold execOp
  simp only [ho, e1, e2]
  refine run_v ?_
  have hg : (eqGuard .shr T x y (.int k p) (.int k' (j : Int))).run P w = .ok () w := by unfold eqGuard; rfl
  rw [Sem.run_bind, hg]
  simp only [Result.andThen, binOp, Op.shift]
  rw [if_neg (by omega), Int.toNat_natCast, Nat.min_eq_left h2]
  simp [fdiv_pow]
def andZ (k : IntKind) (p q : Int) : Int := k.wrap (BitVec.ofInt k.bits p &&& BitVec.ofInt k.bits q).toNat
theorem op_iand (ho : o.op = .binOp .and T x y T') (hx : Ev pc F x (.val (.int k p))) (hy : Ev pc F y (.val (.int k q))) : DOp P pc o F M [] (.val (.int k (andZ k p q))) [] := int_bin ho hx hy fun w => ⟨by unfold eqGuard; rfl, by simp [binOp, Op.intBits, andZ]⟩
end
section
variable {P : Program} {pc : Bool} {o : Oper} {F : Fr} {M : List Blk} {T : TypeId} {x lo hi mx : Operand} {n sz : Nat} {α : Type} {en : α → List Value} {l : List α} {k k1 k2 : IntKind} {lz hz mz : Int}
end
section
variable {P : Program} {pc : Bool} {o : Oper} {F : Fr} {M : List Blk} {T e : TypeId} {by' n : Nat} {ds : List D} {Z : List Value}
end
section
variable {P : Program} {pc : Bool} {o : Oper} {F : Fr} {M : List Blk}
end
section
variable {P : Program} {pc : Bool} {o : Oper} {F : Fr} {M : List Blk}
end
section
variable {P : Program} {pc : Bool} {o : Oper} {F : Fr} {M : List Blk}
end
/-- .. of an operand -/
theorem evwk {pc : Bool} {F : Fr} {x : Operand} {d d' : D} (h : Ev pc F x d) (hw : Wk d d') : Ev pc F x d' := by
  obtain ⟨d0, e1, e2⟩ := h
  exact ⟨d0, e1, fun s v hp hr => hw _ _ (e2 s v hp hr)⟩
section
variable {P : Program} {s0 : St} {n : Cx}
end
section
variable {P : Program} {pc : Bool} {o : Oper} {F : Fr} {M : List Blk} {T : TypeId} {x : Operand}
end
set_option maxRecDepth 4000
theorem sideB_no {n : Int} : sideB n = false ↔ ¬ (1 ≤ n ∧ n ≤ 8) := by rw [← sideB_iff, Bool.not_eq_true]
set_option maxRecDepth 4000 in
set_option maxHeartbeats 1000000 in
theorem sides_d (w h : Int) : DFun Try.prog 24 [.val (.int .i64 w), .val (.int .i64 h)] [] (.val (.bool (sideB w && sideB h))) [] := by
  refine dcalls_go (N := 19) 0 (by kernel_rfl) Try.func24 rfl rfl rfl (by simp only [fr0, Nat.zero_add, Nat.reduceAdd]; exact rfl) rfl fun s0 hs0 => ?_
  refine zaf ?_
  refine zad ?_
  refine zab rfl rfl rfl (zac (.inr rfl) (ev1 rfl)) ?_
  refine zae ?_
  refine zaf ?_
  refine zad ?_
  refine zab rfl rfl rfl (zac (.inl rfl) (ev1 rfl)) ?_
  refine zab rfl rfl rfl (op_geq rfl (ev1 rfl) (ev1 rfl)) ?_
  refine zab rfl rfl rfl (zac (.inl rfl) (ev1 rfl)) ?_
  refine zah (gd_t rfl rfl rfl) rfl rfl rfl (zac (.inl rfl) (ev1 rfl)) ?_
  refine zah (gd_t rfl rfl rfl) rfl rfl rfl (op_leq rfl (ev2 rfl) (ev1 rfl)) ?_
  refine zab rfl rfl rfl (op_and rfl (ev1 rfl) (ev3 rfl id)) ?_
  refine zab rfl rfl rfl (zac (.inl rfl) (ev1 rfl)) ?_
  refine zah (gd_t rfl rfl rfl) rfl rfl rfl (zac (.inl rfl) (ev1 rfl)) ?_
  refine zah (gd_t rfl rfl rfl) rfl rfl rfl (op_geq rfl (ev2 rfl) (ev1 rfl)) ?_
  refine zab rfl rfl rfl (op_and rfl (ev1 rfl) (ev3 rfl id)) ?_
  refine zab rfl rfl rfl (zac (.inl rfl) (ev1 rfl)) ?_
  refine zah (gd_t rfl rfl rfl) rfl rfl rfl (zac (.inl rfl) (ev1 rfl)) ?_
  refine zah (gd_t rfl rfl rfl) rfl rfl rfl (op_leq rfl (ev2 rfl) (ev1 rfl)) ?_
  refine zab rfl rfl rfl (op_and rfl (ev1 rfl) (ev3 rfl id)) ?_
  refine zab rfl rfl rfl (zac (.inr rfl) (ev1 rfl)) ?_
  refine zae ?_
  refine dwp_ret ?_
  refine kend0 (rs1 rfl (rv_t rfl)) rfl ?_
  unfold sideB
  simp [Bool.and_assoc]
set_option maxRecDepth 4000 in
set_option maxHeartbeats 1000000 in
theorem sright_d (w h : Int) (l : List C4) : DFun Try.prog 10 [.agg [.val (.int .i64 w), .val (.int .i64 h), .slf 4 l.length (l.flatMap c4)]] [] (.val (.bool (rightS w h l))) [] := by
  refine dcalls_go (N := 19) 0 (by kernel_rfl) Try.func10 rfl rfl rfl (by simp only [fr0, Nat.zero_add, Nat.reduceAdd]; exact rfl) rfl fun s0 hs0 => ?_
  refine zaf ?_
  refine zai 1 (by simp only [holes, List.cons_append, List.nil_append]; exact rfl) ?_
  refine zad ?_
  refine zak rfl rfl rfl (op_boxam 0 rfl (ev1 rfl) rfl) (by simp only [upd, za, zaa]; exact rfl) ?_
  refine zab rfl rfl rfl (zac (.inr rfl) (ev1 rfl)) ?_
  refine zae ?_
  refine zaf ?_
  refine zad ?_
  refine zab rfl rfl rfl (op_fa rfl fo24_0 (ev1 rfl)) ?_
  refine zab rfl rfl rfl (op_ldm rfl tb3 (ev1 rfl) rfl rfl) ?_
  refine zab rfl rfl rfl (op_fa rfl fo24_1 (ev1 rfl)) ?_
  refine zab rfl rfl rfl (op_ldm rfl tb3 (ev1 rfl) rfl rfl) ?_
  refine zab rfl rfl rfl (zaj [] [] [] rfl (ev1 rfl) (ec (ev1 rfl) (ec (ev1 rfl) en)) rfl rfl (sides_d _ _) rfl rfl rfl rfl rfl rfl) ?_
  refine zab rfl rfl rfl (zac (.inl rfl) (ev1 rfl)) ?_
  refine zah (gd_t rfl rfl rfl) rfl rfl rfl (op_fa rfl fo24_2 (ev1 rfl)) ?_
  refine zah (gd_t rfl rfl rfl) rfl rfl rfl (op_ldm rfl tb22 (ev2 rfl) rfl rfl) ?_
  refine zah (gd_t rfl rfl rfl) rfl rfl rfl (op_len rfl sl22 (ev2 rfl)) ?_
  refine zah (gd_t rfl rfl rfl) rfl rfl rfl (op_fa rfl fo24_0 (ev1 rfl)) ?_
  refine zah (gd_t rfl rfl rfl) rfl rfl rfl (op_ldm rfl tb3 (ev2 rfl) rfl rfl) ?_
  refine zah (gd_t rfl rfl rfl) rfl rfl rfl (op_fa rfl fo24_1 (ev1 rfl)) ?_
  refine zah (gd_t rfl rfl rfl) rfl rfl rfl (op_ldm rfl tb3 (ev2 rfl) rfl rfl) ?_
  refine zah (gd_t rfl rfl rfl) rfl rfl rfl (op_mul rfl (ev2 rfl) (ev2 rfl)) ?_
  refine zah (gd_t rfl rfl rfl) rfl rfl rfl (op_eql rfl (ev2 rfl) (ev2 rfl)) ?_
  refine zab rfl rfl rfl (op_and rfl (ev1 rfl) (ev3 rfl id)) ?_
  refine zab rfl rfl rfl (zac (.inr rfl) (ev1 rfl)) ?_
  refine zae ?_
  refine dwp_ret ?_
  refine kend0 (rs1 rfl (rv_t rfl)) rfl ?_
  rw [D.val.injEq, Value.bool.injEq]
  cases hw : sideB w with
  | false => unfold rightS; rw [hw]; rfl
  | true =>
    cases hh : sideB h with
    | false => unfold rightS; rw [hw, hh]; rfl
    | true =>
      have hb := side_mul hw hh
      rw [IntWalk.i64_in _ (by omega)]
      unfold rightS
      rw [hw, hh, Bool.eq_iff_iff]
      simp
set_option maxRecDepth 4000 in
set_option maxHeartbeats 1000000 in
theorem srsame_d (w h w2 h2 : Int) (ts us : List C4) (hn : ts.length ≤ 5000) : DFun Try.prog 13 [.agg [.val (.int .i64 w), .val (.int .i64 h), .slf 4 ts.length (ts.flatMap c4)], .agg [.val (.int .i64 w2), .val (.int .i64 h2), .slf 4 us.length (us.flatMap c4)]] [] (.val (.bool (decide (w = w2 ∧ h = h2 ∧ ts = us)))) [] := by
  refine dcalls_go (N := 44) 0 (by kernel_rfl) Try.func13 rfl rfl rfl (by simp only [fr0, Nat.zero_add, Nat.reduceAdd]; exact rfl) rfl fun s0 hs0 => ?_
  refine zaf ?_
  refine zai 2 (by simp only [holes, List.cons_append, List.nil_append]; exact rfl) ?_
  refine zad ?_
  refine zak rfl rfl rfl (op_boxam 0 rfl (ev1 rfl) rfl) (by simp only [upd, za, zaa]; exact rfl) ?_
  refine zak rfl rfl rfl (op_boxam 1 rfl (ev1 rfl) rfl) (by simp only [upd, za, zaa]; exact rfl) ?_
  refine zab rfl rfl rfl (zac (.inr rfl) (ev1 rfl)) ?_
  refine zae ?_
  refine zaf ?_
  refine zaf ?_
  refine zad ?_
  refine zab rfl rfl rfl (op_fa rfl fo24_0 (ev1 rfl)) ?_
  refine zab rfl rfl rfl (op_ldm rfl tb3 (ev1 rfl) rfl rfl) ?_
  refine zab rfl rfl rfl (op_fa rfl fo24_0 (ev1 rfl)) ?_
  refine zab rfl rfl rfl (op_ldm rfl tb3 (ev1 rfl) rfl rfl) ?_
  refine zab rfl rfl rfl (op_neq rfl (ev1 rfl) (ev1 rfl)) ?_
  refine zab rfl rfl rfl (zac (.inl rfl) (ev1 rfl)) ?_
  refine zah (gd_f rfl rfl rfl) rfl rfl rfl (op_fa rfl fo24_1 (ev1 rfl)) ?_
  refine zah (gd_f rfl rfl rfl) rfl rfl rfl (op_ldm rfl tb3 (ev2 rfl) rfl rfl) ?_
  refine zah (gd_f rfl rfl rfl) rfl rfl rfl (op_fa rfl fo24_1 (ev1 rfl)) ?_
  refine zah (gd_f rfl rfl rfl) rfl rfl rfl (op_ldm rfl tb3 (ev2 rfl) rfl rfl) ?_
  refine zah (gd_f rfl rfl rfl) rfl rfl rfl (op_neq rfl (ev2 rfl) (ev2 rfl)) ?_
  refine zab rfl rfl rfl (op_or rfl (ev1 rfl) (ev3 rfl id)) ?_
  refine zab rfl rfl rfl (zac (.inl rfl) (ev1 rfl)) ?_
  refine zah (gd_f rfl rfl rfl) rfl rfl rfl (op_fa rfl fo24_2 (ev1 rfl)) ?_
  refine zah (gd_f rfl rfl rfl) rfl rfl rfl (op_ldm rfl tb22 (ev2 rfl) rfl rfl) ?_
  refine zah (gd_f rfl rfl rfl) rfl rfl rfl (op_len rfl sl22 (ev2 rfl)) ?_
  refine zah (gd_f rfl rfl rfl) rfl rfl rfl (op_fa rfl fo24_2 (ev1 rfl)) ?_
  refine zah (gd_f rfl rfl rfl) rfl rfl rfl (op_ldm rfl tb22 (ev2 rfl) rfl rfl) ?_
  refine zah (gd_f rfl rfl rfl) rfl rfl rfl (op_len rfl sl22 (ev2 rfl)) ?_
  refine zah (gd_f rfl rfl rfl) rfl rfl rfl (op_neq rfl (ev2 rfl) (ev2 rfl)) ?_
  refine zab rfl rfl rfl (op_or rfl (ev1 rfl) (ev3 rfl id)) ?_
  refine zae ?_
  refine dwp_cond rfl (fun c1 => ?_) (fun c1 => ?_)
  · have hne : ¬ (w = w2 ∧ h = h2 ∧ ts = us) := by
      rintro ⟨rfl, rfl, rfl⟩
      simp at c1
    refine zaf ?_
    refine zad ?_
    refine zab rfl rfl rfl (zac (.inr rfl) (ev1 rfl)) ?_
    refine zae ?_
    refine dwp_ret ?_
    refine kend0 (rs1 rfl (rv_t rfl)) rfl ?_
    rw [decide_eq_false hne]
  · obtain ⟨rfl, rfl, hlen⟩ : w = w2 ∧ h = h2 ∧ ts.length = us.length := by
      simp at c1
      omega
    refine dwp_skip ?_
    refine zaf ?_
    refine zaf ?_
    refine zad ?_
    refine zab rfl rfl rfl (op_fa rfl fo24_2 (ev1 rfl)) ?_
    refine zab rfl rfl rfl (op_ldm rfl tb22 (ev1 rfl) rfl rfl) ?_
    refine zab rfl rfl rfl (op_len rfl sl22 (ev1 rfl)) ?_
    refine zab rfl rfl rfl (zac (.inl rfl) (ev1 rfl)) ?_
    refine zae ?_
    refine dwp_block ?_
    refine dwp_loopS ⟨hs0, rfl⟩ (α := Nat) (fun k => [(31, .val (.int .i64 (k : Int)))]) [(3, _), (29, _), (30, _)] (fun k => []) [_, _] (fun k => k ≤ ts.length ∧ ts.take k = us.take k) (fun k => ts.length - k) 0 [0, 1] (by simp) rfl ⟨rfl, rfl, rfl, trivial⟩ ⟨rfl, trivial⟩ ⟨rfl, rfl, trivial⟩ ?_
    intro k hx
    simp only [upd, za, zaa, List.cons_append, List.nil_append]
    obtain ⟨hk, he⟩ := hx
    refine zaf ?_
    refine zad ?_
    refine zab rfl rfl rfl (op_lss rfl (ev1 rfl) (ev1 rfl)) ?_
    refine zae ?_
    refine zaf ?_
    refine dwp_cond rfl (fun c2 => ?_) (fun c2 => ?_)
    · try simp only [yg, ya, beq_iff_eq, bne_iff_ne, yb, yc, yf, ye, yh, yi, yd, ne_eq, yj, Int.not_lt, Int.not_le] at c2
      refine dwp_skip ?_
      refine zaf ?_
      refine dwp_block ?_
      refine zaf ?_
      refine zai 1 (by simp only [holes, List.cons_append, List.nil_append]; exact rfl) ?_
      refine zad ?_
      refine zab rfl rfl rfl (zac (.inl rfl) (ev1 rfl)) ?_
      refine zab rfl rfl rfl (op_ixsr (j := k) rfl sl22 (ev1 rfl) (ev1 rfl) (fun _ => rfl) (by decide) (by omega) (by omega)) ?_
      refine zab rfl rfl rfl (op_ldwd rfl tb38 (ev1 rfl) rfl) ?_
      refine zak rfl rfl rfl (zal 2 rfl zr38 rfl) (by simp only [upd, za, zaa]; exact rfl) ?_
      refine zab rfl rfl rfl (zac (.inr rfl) (ev1 rfl)) ?_
      refine walk_s rfl rfl (op_stwa rfl tb38 (ev1 rfl) (ev1 rfl) rfl rfl rfl rfl) (by simp only [upd, za, zaa]; exact rfl) ?_
      refine zae ?_
      refine zaf ?_
      refine dwp_draw [([2], []), ([], []), ([1], []), ([], []), ([], []), ([], []), ([], [])] mixed (by kernel_rfl) ?_
      refine zag rfl rfl (op_ldw rfl tb38 (ev1 rfl) rfl rfl) ?_
      refine zag rfl rfl (op_fa rfl fo24_2 (ev1 rfl)) ?_
      refine zag rfl rfl (op_ldm rfl tb22 (ev1 rfl) rfl rfl) ?_
      refine zag rfl rfl (zac (.inl rfl) (ev1 rfl)) ?_
      refine zag rfl rfl (op_ixsr (j := k) rfl sl22 (ev1 rfl) (ev1 rfl) (fun _ => rfl) (by decide) (by omega) (by omega)) ?_
      refine zag rfl rfl (op_ldwd rfl tb38 (ev1 rfl) rfl) ?_
      refine zag rfl rfl (op_ner eq38 rfl gd38 tb38 (ev1 rfl) (ev1 rfl)) ?_
      refine lex_nil ?_
      refine dwp_cond rfl (fun c2 => ?_) (fun c2 => ?_)
      · have c3 : ts[k] ≠ us[k] := by simpa using c2
        refine zaf ?_
        refine zad ?_
        refine zab rfl rfl rfl (zac (.inr rfl) (ev1 rfl)) ?_
        refine zae ?_
        refine dwp_ret ?_
        refine kend0 (rs1 rfl (rv_t rfl)) rfl ?_
        have hne : ¬ (w = w ∧ h = h ∧ ts = us) := by
          rintro ⟨_, _, rfl⟩
          exact c3 rfl
        have hne : ts ≠ us := fun e => hne ⟨rfl, rfl, e⟩
        simp [hne]
      · have c3 : ts[k] = us[k] := by simpa using c2
        refine dwp_skip ?_
        refine zad ?_
        refine zab rfl rfl rfl (op_add' rfl (ev1 rfl) (ev1 rfl) (fun _ => IntWalk.i64_in _ (by omega))) ?_
        refine zab rfl rfl rfl (zac (.inl rfl) (ev1 rfl)) ?_
        refine zae ?_
        refine ⟨k + 1, [0, 1], ⟨by omega, by rw [List.take_succ_eq_append_getElem (by omega), List.take_succ_eq_append_getElem (by omega), he, c3]⟩, by simp only []; omega, rfl, ⟨rfl, rfl, rfl, rfl, trivial⟩, ⟨rfl, rfl, trivial⟩⟩
    · try simp only [yg, ya, beq_iff_eq, bne_iff_ne, yb, yc, yf, ye, yh, yi, yd, ne_eq, yj, Int.not_lt, Int.not_le] at c2
      refine dwp_exit ?_
      refine zaf ?_
      refine zad ?_
      refine zab rfl rfl rfl (zac (.inr rfl) (ev1 rfl)) ?_
      refine zae ?_
      refine dwp_ret ?_
      refine kend0 (rs1 rfl (rv_t rfl)) rfl ?_
      have e : ts = us := by
        have h := he
        rw [List.take_of_length_le (by omega), List.take_of_length_le (by omega)] at h
        exact h
      simp [e]
set_option maxRecDepth 4000
set_option maxRecDepth 4000 in
set_option maxHeartbeats 1000000 in
theorem sof_no (w : Int) (l : List C4) (hno : ofB w l = false) (hl : l.length ≤ 5000) : DFun Try.prog 25 [.val (.int .i64 w), .slf 4 l.length (l.flatMap c4)] [] (.tup [.val (.agg #[.int .i64 0, .int .i64 0, .slice none 0 0]), .val (.int .i64 2)]) [] := by
  refine dcalls_go (N := 33) 0 (by kernel_rfl) Try.func25 rfl rfl rfl (by simp only [fr0, Nat.zero_add, Nat.reduceAdd]; exact rfl) rfl fun s0 hs0 => ?_
  refine dwp_len (t := 1) rfl fun hl1 hL1 => ?_
  refine zaf ?_
  refine zai 1 (by simp only [holes, List.cons_append, List.nil_append]; exact rfl) ?_
  refine zad ?_
  refine zak rfl rfl rfl (zal 0 rfl zr24 rfl) (by simp only [upd, za, zaa]; exact rfl) ?_
  refine zab rfl rfl rfl (zac (.inr rfl) (ev1 rfl)) ?_
  refine zae ?_
  refine zaf ?_
  refine zaf ?_
  refine zad ?_
  refine zab rfl rfl rfl (zac (.inl rfl) (ev1 rfl)) ?_
  refine zab rfl rfl rfl (zaj [] [] [] rfl (ev1 rfl) (ec (ev1 rfl) en) rfl rfl (side_d _) rfl rfl rfl rfl rfl rfl) ?_
  refine zab rfl rfl rfl (op_not rfl (ev1 rfl)) ?_
  refine zab rfl rfl rfl (zac (.inl rfl) (ev1 rfl)) ?_
  refine zah (gd_f rfl rfl rfl) rfl rfl rfl (zac (.inl rfl) (ev1 rfl)) ?_
  refine zah (gd_f rfl rfl rfl) rfl rfl rfl (op_len rfl sl22 (ev2 rfl)) ?_
  refine zah (gd_f rfl rfl rfl) rfl rfl rfl (zac (.inl rfl) (ev1 rfl)) ?_
  refine zah (gd_f rfl rfl rfl) rfl rfl rfl (op_rem' rfl (ev2 rfl) (ev2 rfl) (fun hp => by have h8 := sideB_iff.1 (show sideB w = true by simpa using hp); exact ⟨by omega, by omega⟩)) ?_
  refine zah (gd_f rfl rfl rfl) rfl rfl rfl (op_neq rfl (ev2 rfl) (ev1 rfl)) ?_
  refine zab rfl rfl rfl (op_or rfl (ev1 rfl) (ev3 rfl id)) ?_
  refine zab rfl rfl rfl (zac (.inl rfl) (ev1 rfl)) ?_
  refine zah (gd_f rfl rfl rfl) rfl rfl rfl (zac (.inl rfl) (ev1 rfl)) ?_
  refine zah (gd_f rfl rfl rfl) rfl rfl rfl (op_len rfl sl22 (ev2 rfl)) ?_
  refine zah (gd_f rfl rfl rfl) rfl rfl rfl (zac (.inl rfl) (ev1 rfl)) ?_
  refine zah (gd_f rfl rfl rfl) rfl rfl rfl (op_quo' rfl (ev2 rfl) (ev2 rfl) (fun hp => by
      have h8 : sideB w = true := by
        cases hw : sideB w with
        | true => rfl
        | false => rw [hw] at hp; simp at hp
      have h9 := sideB_iff.1 h8
      have h10 := Int.ediv_le_self (a := (l.length : Int)) w (by omega)
      have h11 : 0 ≤ (l.length : Int) / w := Int.ediv_nonneg (by omega) (by omega)
      exact ⟨by omega, by omega, IntWalk.i64_in _ (by omega)⟩)) ?_
  refine zah (gd_f rfl rfl rfl) rfl rfl rfl (zaj [] [] [] rfl (ev1 rfl) (ec (ev2 rfl) en) rfl rfl (side_d _) rfl rfl rfl rfl rfl rfl) ?_
  refine zah (gd_f rfl rfl rfl) rfl rfl rfl (op_not rfl (ev2 rfl)) ?_
  refine zab rfl rfl rfl (op_or rfl (ev1 rfl) (ev3 rfl id)) ?_
  refine zae ?_
  refine dwp_if_t rfl (by
      unfold ofB at hno
      cases hw : sideB w with
      | false => rfl
      | true =>
        rw [hw] at hno
        simp at hno
        simp
        by_cases h0 : (l.length : Int) % w = 0
        · right; exact hno h0
        · left; exact h0) ?_
  refine zaf ?_
  refine zad ?_
  refine zab rfl rfl rfl (op_build0 rfl fl24 zr24) ?_
  refine walk_s rfl rfl (op_stwa rfl tb24 (ev1 rfl) (ev1 rfl) rfl rfl rfl rfl) (by simp only [upd, za, zaa]; exact rfl) ?_
  refine zab rfl rfl rfl (zac (.inr rfl) (ev1 rfl)) ?_
  refine zae ?_
  refine dwp_ret ?_
  refine kend0 (rs2 rfl (rv_w tb24 rfl rfl rfl) (rv_t rfl)) rfl ?_
  rfl
set_option maxRecDepth 4000
theorem int_cast {a b : Int} (h : a = b) : (D.val (.int .i64 a)) = .val (.int .i64 b) := by rw [h]
set_option maxRecDepth 4000
open Go.ChangeShapes Go.WideShapes Go.ChangeAt Go.Joins Go.Deep
theorem fits_p2 (cs : List Value) (h : fitsP [.int .i64, .int .i64] cs) : ∃ p : P2, p.rng ∧ cs = p2 p := by
  obtain ⟨x0, r, rfl, h0, g1⟩ := fitsP_cons h
  obtain ⟨x1, r, rfl, h1, g2⟩ := fitsP_cons g1
  obtain rfl := fitsP_nil g2
  obtain ⟨x, wx, rfl⟩ := fits_prim_i64 h0
  obtain ⟨y, wy, rfl⟩ := fits_prim_i64 h1
  exact ⟨⟨x, y⟩, ⟨wx, wy⟩, rfl⟩
set_option maxRecDepth 4000
theorem setL_cr {l : List C4} {q : Nat} {v : Int} (hq : q < l.length) : setL (l.flatMap c4) (q * 4) [.int .u8 v] = (l.set q { l.getD q zC4 with r := v }).flatMap c4 := by
  refine flat_set_part (c := 0) c4_len hq (by show 0 + 1 ≤ 4; decide) ?_
  rw [List.getD_eq_getElem?_getD, List.getElem?_eq_getElem hq]
  rfl
theorem get_cr {l : List C4} {q : Nat} (hq : q < l.length) : (l.flatMap c4)[q * 4 + 0]? = some (.int .u8 (l.getD q zC4).r) := by
  rw [flat_cell c4_len hq (by decide), List.getD_eq_getElem?_getD, List.getElem?_eq_getElem hq]
  rfl
theorem wk_s0 : Wk (.val (.agg #[.int .i64 0, .int .i64 0, .slice none 0 0])) (.agg [.val (.int .i64 0), .val (.int .i64 0), .slf 4 ([] : List C4).length (([] : List C4).flatMap c4)]) := (Wk.vagg _).trans (Wk.agg (.cons (.refl _) (.cons (.refl _) (.cons (Wk.slf0 4) .nil))))
theorem run_copy_gen {P : Program} (w : World) (dT sT ty elem : TypeId) (sz b o dLen dCap : Nat) (a : Addr) (sLen sCap : Nat) (cs : List Value)
    (hu : P.underlying dT = some (.slice elem)) (hs : (P.info? elem).map (·.size) = some sz) (hn : cs.length = Nat.min sLen dLen * sz)
    (hsrc : ∀ j v, cs[j]? = some v → w.cell? (a.add j) = some v) (hc : ∀ j, j < cs.length → (w.cell? ⟨b, o + j, none⟩).isSome = true) (hf : ∀ j, j < cs.length → w.frozen? ⟨b, o + j, none⟩ = false) (h1 : ∀ v ∈ cs, v.oneCell' = true) :
    (Builtin.copy_ #[dT, sT] ty #[.slice (some ⟨b, o, none⟩) dLen dCap, .slice (some a) sLen sCap]).run P w = .ok (goInt (Nat.min sLen dLen)) (w.setCells b o cs) := by
  have hl := run_loadCells_list (P := P) w a cs hsrc
  have hst := run_storeCells_cells (P := P) b o cs 0 w (by simpa using hc) (by simpa using hf) h1
  cases hq : P.info? elem with
  | none => simp [hq] at hs
  | some i =>
    have hi : i.size = sz := by simpa [hq] using hs
    have e : (Nat.min sLen dLen) * sz = cs.length := hn.symm
    have e' : (min sLen dLen) * sz = cs.length := hn.symm
    simp [Builtin.copy_, run_underlying hu, Builtin.lenOf, Builtin.firstCells, sizeOf, typeInfo, hq, hi, e, e', hl, hst]
section
variable {P : Program} {pc : Bool} {o : Oper} {F : Fr} {M : List Blk} {T e : TypeId} {x y : Operand} {by' sz : Nat}
theorem cpz_go {a : Act} {s : St} {T2 : TypeId} {i p n m N : Nat} {d : D} {L L2 : List Value} {fp : List Nat} (hok : Ok s) (hfp : ∀ k ∈ i :: fp, s.M[k]? = M[k]?) (hrx : Rep s (.own i sz p n) (a.eval x)) (hry : Rep s d (a.eval y)) (ho : o.op = .call { callee := .builtin .copy, args := #[x, y], argTypes := #[T, T2] }) (hT : slE P T = some (e, sz, by')) (hsrc : SrcD M fp d m sz L2) (hM : M[i]? = some (.arr e sz N L)) (h1 : L2.all (·.oneCell') = true) (h0 : 0 < min m n) (hsz : 0 < sz) (hpn : p + n ≤ N) :
    DGives P s (fun s' v => s'.M = upd s.M [(i, .arr e sz N (setL L (p * sz) (L2.take (min m n * sz))))] ∧ Rep s' (.val (.int .i64 ((min m n : Nat) : Int))) v) ((execOp a.eval o).run P s.w) := by
  obtain ⟨e1, ti, e2, e3, e4⟩ := slE_spec hT
  have hM' : s.M[i]? = some (.arr e sz N L) := by rw [hfp i (by simp)]; exact hM
  obtain ⟨hl2, a2, c2, hv2, hso⟩ := hsrc s _ hok (fun k hk => hfp k (by simp [hk])) hry
  have hs1 : (P.info? e).map (·.size) = some sz := by rw [e2]; simp [e3]
  generalize hv : a.eval x = vx at hrx
  cases hrx with
  | @own _ _ _ _ N' cap c b ad h ha hN hz hn hc =>
    obtain ⟨e0, e5, _, _, _, _⟩ := arr_cells hok hM' h
    subst e0
    have had : ad = some ⟨b, p * sz, none⟩ := ha.resolve_left (by omega)
    subst had
    obtain ⟨ad2, rfl, hcells⟩ : ∃ ad, a2 = some ad ∧ ∀ (j : Nat) u, L2[j]? = some u → s.w.cell? (ad.add j) = some u := by
      rcases hso with ⟨_, h, _⟩ | h
      · omega
      · exact h
    have hle : min m n * sz ≤ m * sz := Nat.mul_le_mul_right _ (Nat.min_le_left _ _)
    have hle2 : min m n * sz ≤ n * sz := Nat.mul_le_mul_right _ (Nat.min_le_right _ _)
    have hle3 := Nat.mul_le_mul_right sz hpn
    rw [Nat.add_mul] at hle3
    have hC : (L2.take (min m n * sz)).length = min m n * sz := by rw [List.length_take]; omega
    obtain ⟨t1, t2, t3⟩ := tr_sta (p := p * sz) (C := L2.take (min m n * sz)) hok hM' h (by omega)
    have hr := run_copy_gen (P := P) s.w T T2 o.type e sz b (p * sz) n c ad2 m c2 (L2.take (min m n * sz)) e1 hs1 hC (fun j v hj => hcells j v (by
        rw [List.getElem?_take] at hj
        split at hj
        · exact hj
        · cases hj)) t2 t3 (fun v hv => List.all_eq_true.1 h1 v (List.mem_of_mem_take hv))
    exact dg_step (v := goInt ((min m n : Nat) : Int)) (run_builtin ho (fun cs => rfl) (by simpa [hv, hv2] using hr)) t1 rfl (.val _)
  | ownnil h => omega
theorem op_cpz {T2 : TypeId} {i p n m N : Nat} {d : D} {L L2 : List Value} {fp : List Nat} (ho : o.op = .call { callee := .builtin .copy, args := #[x, y], argTypes := #[T, T2] }) (hT : slE P T = some (e, sz, by')) (hx : Ev pc F x (.own i sz p n)) (hy : Ev pc F y d) (hsrc : SrcD M fp d m sz L2) (hM : M[i]? = some (.arr e sz N L)) (h1 : pc = true → L2.all (·.oneCell') = true) (h0 : pc = true → 0 < min m n) (hsz : 0 < sz) (hpn : pc = true → p + n ≤ N) :
    DOp P pc o F M (i :: fp) (.val (.int .i64 ((min m n : Nat) : Int))) [(i, .arr e sz N (setL L (p * sz) (L2.take (min m n * sz))))] := by
  intro hp a s hok hops hfp
  exact cpz_go hok hfp (ev_at hp hx (by simp [ho, Op.operands, Call.operands]) hops) (ev_at hp hy (by simp [ho, Op.operands, Call.operands]) hops) ho hT hsrc hM (h1 hp) (h0 hp) hsz (hpn hp)
theorem op_cpza {T2 : TypeId} {i m N : Nat} {d : D} {L L2 : List Value} {fp : List Nat} (ho : o.op = .call { callee := .builtin .copy, args := #[x, y], argTypes := #[T, T2] }) (hT : slE P T = some (e, sz, by')) (hx : Ev pc F x (.arr i)) (hy : Ev pc F y d) (hsrc : SrcD M fp d m sz L2) (hM : M[i]? = some (.arr e sz N L)) (h1 : pc = true → L2.all (·.oneCell') = true) (h0 : pc = true → 0 < min m N) (hsz : 0 < sz) :
    DOp P pc o F M (i :: fp) (.val (.int .i64 ((min m N : Nat) : Int))) [(i, .arr e sz N (setL L (0 * sz) (L2.take (min m N * sz))))] := by
  intro hp a s hok hops hfp
  have hM' : s.M[i]? = some (.arr e sz N L) := by rw [hfp i (by simp)]; exact hM
  have hrx := ev_at hp hx (by simp [ho, Op.operands, Call.operands]) hops
  have hN := h0 hp
  have key : Rep s (.own i sz 0 N) (a.eval x) := by
    generalize hv : a.eval x = vx at hrx
    cases hrx with
    | @arr _ ad n' c h =>
      have hk : s.w.ownsRow 0 e sz _ N L := hok.blk i _ _ hM' h
      rcases hk.2 with ⟨e1, e2⟩ | ⟨g, cap, cur, e1, _, e3, e4, e5, _⟩
      · omega
      · cases e1
        exact .own h (.inr (by rw [Nat.zero_mul])) (by omega) (fun q => by cases q) e4 e5
  exact cpz_go hok hfp key (ev_at hp hy (by simp [ho, Op.operands, Call.operands]) hops) ho hT hsrc hM (h1 hp) hN hsz (by omega)
end
set_option maxRecDepth 4000
theorem kn124 : knd Try.prog 124 = some .u64 := by kernel_rfl
theorem ty124 : (tyB Try.prog 124).isSome = true := by kernel_rfl
def repL (c : C4) (n m : Nat) : List C4 := List.replicate m c ++ List.replicate (n - m) zC4
theorem repL_len {c : C4} {n m : Nat} (h : m ≤ n) : (repL c n m).length = n := by rw [repL, List.length_append, List.length_replicate, List.length_replicate]; omega
theorem repL_end (c : C4) (n : Nat) : repL c n n = List.replicate n c := by rw [repL, Nat.sub_self, List.replicate_zero, List.append_nil]
theorem rep_flat (c : C4) (k : Nat) : ((List.replicate k c).flatMap c4).length = k * 4 := by rw [flat_len c4_len, List.length_replicate]
theorem repL_take {c : C4} {n m k : Nat} (hk : k ≤ m) : ((repL c n m).flatMap c4).take (k * 4) = (List.replicate k c).flatMap c4 := by
  have e : repL c n m = List.replicate k c ++ (List.replicate (m - k) c ++ List.replicate (n - m) zC4) := by
    unfold repL
    rw [← List.append_assoc, List.replicate_append_replicate, show k + (m - k) = m by omega]
  rw [e, List.flatMap_append, ← rep_flat c k, List.take_left]
theorem repL_step {c : C4} {n m k : Nat} (hn : m + k ≤ n) : setL ((repL c n m).flatMap c4) (m * 4) ((List.replicate k c).flatMap c4) = (repL c n (m + k)).flatMap c4 := by
  have hl : ((repL c n m).flatMap c4).length = n * 4 := by rw [flat_len c4_len, repL_len (by omega)]
  rw [setL_eq _ _ _ (by rw [rep_flat, hl]; omega), rep_flat, repL_take (Nat.le_refl m)]
  have e : ((repL c n m).flatMap c4).drop (m * 4 + k * 4) = (List.replicate (n - (m + k)) zC4).flatMap c4 := by
    have e2 : repL c n m = List.replicate m c ++ (List.replicate k zC4 ++ List.replicate (n - (m + k)) zC4) := by
      unfold repL
      rw [List.replicate_append_replicate, show k + (n - (m + k)) = n - m by omega]
    rw [e2, List.flatMap_append, List.flatMap_append, ← List.drop_drop, ← rep_flat c m, List.drop_left, ← rep_flat zC4 k, List.drop_left]
  rw [e, repL, List.flatMap_append, ← List.flatMap_append, List.replicate_append_replicate]
theorem rep_cpy {c : C4} {n m : Nat} (h : m ≤ n) : setL ((repL c n m).flatMap c4) (m * 4) ((((repL c n m).flatMap c4).take (m * 4)).take (min m (n - m) * 4)) = (repL c n (m + min m (n - m))).flatMap c4 := by
  have e : (((repL c n m).flatMap c4).take (m * 4)).take (min m (n - m) * 4) = (List.replicate (min m (n - m)) c).flatMap c4 := by
    rw [List.take_take, Nat.min_eq_left (Nat.mul_le_mul_right _ (Nat.min_le_left _ _)), repL_take (Nat.min_le_left _ _)]
  rw [e, repL_step (by omega)]
theorem oc_part {L : List Value} (h : L.all (·.oneCell') = true) (p q : Nat) : ((L.drop p).take q).all (·.oneCell') = true :=
  List.all_eq_true.2 fun v hv => List.all_eq_true.1 h v (List.mem_of_mem_drop (List.mem_of_mem_take hv))
def mulH (n : Int) : Int := IntKind.u64.wrap (IntKind.u64.wrap (IntKind.u64.wrap (1 / 2 ^ 32 * (n / 2 ^ 32)) + IntKind.u64.wrap (IntKind.u64.wrap (1 / 2 ^ 32 * andZ IntKind.u64 n 4294967295) + IntKind.u64.wrap (andZ IntKind.u64 1 4294967295 * andZ IntKind.u64 n 4294967295) / 2 ^ 32) / 2 ^ 32) + IntKind.u64.wrap (andZ IntKind.u64 (IntKind.u64.wrap (IntKind.u64.wrap (1 / 2 ^ 32 * andZ IntKind.u64 n 4294967295) + IntKind.u64.wrap (andZ IntKind.u64 1 4294967295 * andZ IntKind.u64 n 4294967295) / 2 ^ 32)) 4294967295 + IntKind.u64.wrap (andZ IntKind.u64 1 4294967295 * (n / 2 ^ 32))) / 2 ^ 32)
theorem mulH_0 {n : Nat} (hn : n ≤ 64) : mulH (n : Int) = 0 := by
  have h : ((List.range 65).all fun k : Nat => mulH (k : Int) == 0) = true := by kernel_rfl
  have := List.all_eq_true.1 h n (List.mem_range.2 (by omega))
  simpa using this
set_option maxRecDepth 4000 in
set_option maxHeartbeats 1000000 in
theorem mul64_d (n : Nat) (hn : n ≤ 64) : DFun Try.prog 88 [.val (.int .u64 1), .val (.int .u64 (n : Int))] [] (.tup [.val (.int .u64 0), .val (.int .u64 (n : Int))]) [] := by
  refine dcalls_go (N := 51) 0 (by kernel_rfl) Try.func88 rfl rfl rfl (by simp only [fr0, Nat.zero_add, Nat.reduceAdd]; exact rfl) rfl fun s0 hs0 => ?_
  refine zaf ?_
  refine zad ?_
  refine zab rfl rfl rfl (zac (.inr rfl) (ev1 rfl)) ?_
  refine zab rfl rfl rfl (zac (.inr rfl) (ev1 rfl)) ?_
  refine zae ?_
  refine zaf ?_
  refine zad ?_
  refine zab rfl rfl rfl (zac (.inl rfl) (ev1 rfl)) ?_
  refine zab rfl rfl rfl (op_iand rfl (ev1 rfl) (ev1 rfl)) ?_
  refine zab rfl rfl rfl (zac (.inr rfl) (ev1 rfl)) ?_
  refine zae ?_
  refine zaf ?_
  refine zad ?_
  refine zab rfl rfl rfl (zac (.inl rfl) (ev1 rfl)) ?_
  refine zab rfl rfl rfl (op_shr (32) rfl (ev1 rfl) (ev1 rfl) (fun _ => ⟨rfl, by decide⟩)) ?_
  refine zab rfl rfl rfl (zac (.inr rfl) (ev1 rfl)) ?_
  refine zae ?_
  refine zaf ?_
  refine zad ?_
  refine zab rfl rfl rfl (zac (.inl rfl) (ev1 rfl)) ?_
  refine zab rfl rfl rfl (op_iand rfl (ev1 rfl) (ev1 rfl)) ?_
  refine zab rfl rfl rfl (zac (.inr rfl) (ev1 rfl)) ?_
  refine zae ?_
  refine zaf ?_
  refine zad ?_
  refine zab rfl rfl rfl (zac (.inl rfl) (ev1 rfl)) ?_
  refine zab rfl rfl rfl (op_shr (32) rfl (ev1 rfl) (ev1 rfl) (fun _ => ⟨rfl, by decide⟩)) ?_
  refine zab rfl rfl rfl (zac (.inr rfl) (ev1 rfl)) ?_
  refine zae ?_
  refine zaf ?_
  refine zad ?_
  refine zab rfl rfl rfl (zac (.inl rfl) (ev1 rfl)) ?_
  refine zab rfl rfl rfl (zac (.inl rfl) (ev1 rfl)) ?_
  refine zab rfl rfl rfl (op_mul rfl (ev1 rfl) (ev1 rfl)) ?_
  refine zab rfl rfl rfl (zac (.inr rfl) (ev1 rfl)) ?_
  refine zae ?_
  refine zaf ?_
  refine zad ?_
  refine zab rfl rfl rfl (zac (.inl rfl) (ev1 rfl)) ?_
  refine zab rfl rfl rfl (zac (.inl rfl) (ev1 rfl)) ?_
  refine zab rfl rfl rfl (op_mul rfl (ev1 rfl) (ev1 rfl)) ?_
  refine zab rfl rfl rfl (zac (.inl rfl) (ev1 rfl)) ?_
  refine zab rfl rfl rfl (op_shr (32) rfl (ev1 rfl) (ev1 rfl) (fun _ => ⟨rfl, by decide⟩)) ?_
  refine zab rfl rfl rfl (op_add rfl (ev1 rfl) (ev1 rfl)) ?_
  refine zab rfl rfl rfl (zac (.inr rfl) (ev1 rfl)) ?_
  refine zae ?_
  refine zaf ?_
  refine zad ?_
  refine zab rfl rfl rfl (zac (.inl rfl) (ev1 rfl)) ?_
  refine zab rfl rfl rfl (op_iand rfl (ev1 rfl) (ev1 rfl)) ?_
  refine zab rfl rfl rfl (zac (.inr rfl) (ev1 rfl)) ?_
  refine zae ?_
  refine zaf ?_
  refine zad ?_
  refine zab rfl rfl rfl (zac (.inl rfl) (ev1 rfl)) ?_
  refine zab rfl rfl rfl (op_shr (32) rfl (ev1 rfl) (ev1 rfl) (fun _ => ⟨rfl, by decide⟩)) ?_
  refine zab rfl rfl rfl (zac (.inr rfl) (ev1 rfl)) ?_
  refine zae ?_
  refine zaf ?_
  refine zad ?_
  refine zab rfl rfl rfl (zac (.inl rfl) (ev1 rfl)) ?_
  refine zab rfl rfl rfl (zac (.inl rfl) (ev1 rfl)) ?_
  refine zab rfl rfl rfl (zac (.inl rfl) (ev1 rfl)) ?_
  refine zab rfl rfl rfl (op_mul rfl (ev1 rfl) (ev1 rfl)) ?_
  refine zab rfl rfl rfl (op_add rfl (ev1 rfl) (ev1 rfl)) ?_
  refine zab rfl rfl rfl (zac (.inr rfl) (ev1 rfl)) ?_
  refine zae ?_
  refine zaf ?_
  refine zad ?_
  refine zab rfl rfl rfl (zac (.inl rfl) (ev1 rfl)) ?_
  refine zab rfl rfl rfl (zac (.inl rfl) (ev1 rfl)) ?_
  refine zab rfl rfl rfl (op_mul rfl (ev1 rfl) (ev1 rfl)) ?_
  refine zab rfl rfl rfl (zac (.inl rfl) (ev1 rfl)) ?_
  refine zab rfl rfl rfl (op_add rfl (ev1 rfl) (ev1 rfl)) ?_
  refine zab rfl rfl rfl (zac (.inl rfl) (ev1 rfl)) ?_
  refine zab rfl rfl rfl (op_shr (32) rfl (ev1 rfl) (ev1 rfl) (fun _ => ⟨rfl, by decide⟩)) ?_
  refine zab rfl rfl rfl (op_add rfl (ev1 rfl) (ev1 rfl)) ?_
  refine zab rfl rfl rfl (zac (.inr rfl) (ev1 rfl)) ?_
  refine zae ?_
  refine zaf ?_
  refine zad ?_
  refine zab rfl rfl rfl (zac (.inl rfl) (ev1 rfl)) ?_
  refine zab rfl rfl rfl (zac (.inl rfl) (ev1 rfl)) ?_
  refine zab rfl rfl rfl (op_mul rfl (ev1 rfl) (ev1 rfl)) ?_
  refine zab rfl rfl rfl (zac (.inr rfl) (ev1 rfl)) ?_
  refine zae ?_
  refine dwp_ret ?_
  refine kend0 (rs2 rfl (rv_t rfl) (rv_t rfl)) rfl ?_
  have e1 := mulH_0 hn
  have e2 : IntKind.u64.wrap (1 * (n : Int)) = (n : Int) := by rw [Int.one_mul, IntWalk.u64_in _ (by omega)]
  rw [e2]
  show D.tup [.val (.int .u64 (mulH (n : Int))), _] = _
  rw [e1]
set_option maxRecDepth 4000 in
set_option maxHeartbeats 1000000 in
theorem mul_d (n : Nat) (hn : n ≤ 64) : DFun Try.prog 75 [.val (.int .u64 1), .val (.int .u64 (n : Int))] [] (.tup [.val (.int .u64 0), .val (.int .u64 (n : Int))]) [] := by
  refine dcalls_go (N := 30) 0 (by kernel_rfl) Try.func75 rfl rfl rfl (by simp only [fr0, Nat.zero_add, Nat.reduceAdd]; exact rfl) rfl fun s0 hs0 => ?_
  refine zaf ?_
  refine zad ?_
  refine zab rfl rfl rfl (zac (.inr rfl) (ev1 rfl)) ?_
  refine zab rfl rfl rfl (zac (.inr rfl) (ev1 rfl)) ?_
  refine zae ?_
  refine zaf ?_
  refine dwp_if_f rfl (rfl) ?_
  refine dwp_skip ?_
  refine zaf ?_
  refine zad ?_
  refine zab rfl rfl rfl (zac (.inl rfl) (ev1 rfl)) ?_
  refine zab rfl rfl rfl (zac (.inl rfl) (ev1 rfl)) ?_
  refine zab rfl rfl rfl (zaj [] [] [] rfl (ev1 rfl) (ec (ev1 rfl) (ec (ev1 rfl) en)) rfl rfl (mul64_d n hn) rfl rfl rfl rfl rfl rfl) ?_
  refine zab rfl rfl rfl (zac (.inl rfl) (ev1 rfl)) ?_
  refine zab rfl rfl rfl (op_ext rfl (ev1 rfl) rfl) ?_
  refine zab rfl rfl rfl (op_ext rfl (ev1 rfl) rfl) ?_
  refine zab rfl rfl rfl (zac (.inr rfl) (ev1 rfl)) ?_
  refine zab rfl rfl rfl (zac (.inr rfl) (ev1 rfl)) ?_
  refine zae ?_
  refine zaf ?_
  refine zad ?_
  refine zab rfl rfl rfl (zac (.inl rfl) (ev1 rfl)) ?_
  refine zab rfl rfl rfl (zac (.inl rfl) (ev1 rfl)) ?_
  refine zab rfl rfl rfl (zac (.inr rfl) (ev1 rfl)) ?_
  refine zab rfl rfl rfl (zac (.inr rfl) (ev1 rfl)) ?_
  refine zae ?_
  refine dwp_ret ?_
  refine kend0 (rs2 rfl (rv_t rfl) (rv_t rfl)) rfl ?_
  rfl
set_option maxRecDepth 4000 in
set_option maxHeartbeats 1000000 in
theorem repeat_o (c : C4) (n : Nat) (h1 : 1 ≤ n) (hn : n ≤ 64) : DFun Try.prog 51 [.slf 4 [c].length ([c].flatMap c4), .val (.int .i64 (n : Int))] [] (.arr 0) [.arr 38 4 n ((List.replicate n c).flatMap c4)] := by
  refine dcalls_go (N := 48) 0 (by kernel_rfl) Try.func51 rfl rfl rfl (by simp only [fr0, Nat.zero_add, Nat.reduceAdd]; exact rfl) rfl fun s0 hs0 => ?_
  refine dwp_len (t := 0) rfl fun hl0 hL0 => ?_
  refine zaf ?_
  refine zad ?_
  refine zab rfl rfl rfl (zac (.inr rfl) (ev1 rfl)) ?_
  refine zae ?_
  refine zaf ?_
  refine zaf ?_
  refine zad ?_
  refine zab rfl rfl rfl (zac (.inl rfl) (ev1 rfl)) ?_
  refine zab rfl rfl rfl (op_lss rfl (ev1 rfl) (ev1 rfl)) ?_
  refine zae ?_
  refine dwp_if_f rfl (by simp) ?_
  refine dwp_skip ?_
  refine zaf ?_
  refine zad ?_
  refine zab rfl rfl rfl (zac (.inl rfl) (ev1 rfl)) ?_
  refine zab rfl rfl rfl (op_len rfl sl22 (ev1 rfl)) ?_
  refine zab rfl rfl rfl ((op_conv' ty3 kn124 rfl (ev1 rfl) (fun _ => IntWalk.u64_in _ (by simp))).cast (d' := .val (.int .u64 1)) (by rfl)) ?_
  refine zab rfl rfl rfl (zac (.inl rfl) (ev1 rfl)) ?_
  refine zab rfl rfl rfl (op_conv' ty3 kn124 rfl (ev1 rfl) (fun _ => IntWalk.u64_in _ (by omega))) ?_
  refine zab rfl rfl rfl (zaj [] [] [] rfl (ev1 rfl) (ec (ev1 rfl) (ec (ev1 rfl) en)) rfl rfl (mul_d n hn) rfl rfl rfl rfl rfl rfl) ?_
  refine zab rfl rfl rfl (zac (.inl rfl) (ev1 rfl)) ?_
  refine zab rfl rfl rfl (op_ext rfl (ev1 rfl) rfl) ?_
  refine zab rfl rfl rfl (op_ext rfl (ev1 rfl) rfl) ?_
  refine zab rfl rfl rfl (zac (.inr rfl) (ev1 rfl)) ?_
  refine zab rfl rfl rfl (zac (.inr rfl) (ev1 rfl)) ?_
  refine zae ?_
  refine zaf ?_
  refine zaf ?_
  refine zad ?_
  refine zab rfl rfl rfl (zac (.inl rfl) (ev1 rfl)) ?_
  refine zab rfl rfl rfl (op_gtr rfl (ev1 rfl) (ev1 rfl)) ?_
  refine zab rfl rfl rfl (zac (.inl rfl) (ev1 rfl)) ?_
  refine zah (gd_f rfl rfl rfl) rfl rfl rfl (zac (.inl rfl) (ev1 rfl)) ?_
  refine zah (gd_f rfl rfl rfl) rfl rfl rfl (op_gtr rfl (ev2 rfl) (ev1 rfl)) ?_
  refine zab rfl rfl rfl (op_or rfl (ev1 rfl) (ev3 rfl id)) ?_
  refine zae ?_
  refine dwp_if_f rfl (by simp; omega) ?_
  refine dwp_skip ?_
  refine zaf ?_
  refine zai 1 (by simp only [holes, List.cons_append, List.nil_append]; exact rfl) ?_
  refine zad ?_
  refine zab rfl rfl rfl (zac (.inl rfl) (ev1 rfl)) ?_
  refine zab rfl rfl rfl (op_conv' ty124 kn3 rfl (ev1 rfl) (fun _ => IntWalk.i64_in _ (by omega))) ?_
  refine zak rfl rfl rfl (op_mkg 0 (n) (.int .u8 0) rfl sl22 zr38 (by kernel_rfl) (by decide) (ev1 rfl) (ev1 rfl) (fun _ => by omega) (fun _ => by omega) rfl (fun _ => ⟨by omega, by omega⟩)) (by simp only [upd, za, zaa]; exact rfl) ?_
  refine zab rfl rfl rfl (zac (.inr rfl) (ev1 rfl)) ?_
  refine zae ?_
  refine zaf ?_
  rw [← z4_rep, show List.replicate n zC4 = repL c n 0 from rfl]
  refine zad ?_
  refine zab rfl rfl rfl (zac (.inl rfl) (ev1 rfl)) ?_
  refine zab rfl rfl rfl (zac (.inl rfl) (ev1 rfl)) ?_
  refine zak rfl rfl rfl ((op_cpza rfl sl22 (ev1 rfl) (ev1 rfl) src_slf rfl (fun _ => flat_oc (fun _ => rfl) [c]) (fun _ => by simp; omega) (by decide)).cast (d' := .val (.int .i64 1)) (by rw [show min [c].length n = 1 by simp; omega]; rfl)) (by simp only [upd, za, zaa]; exact rfl) ?_
  refine zab rfl rfl rfl (zac (.inr rfl) (ev1 rfl)) ?_
  refine zae ?_
  refine zaf ?_
  refine dwp_block ?_
  refine dwp_loopS ⟨hs0, rfl⟩ (α := Nat) (fun m => [(8, .val (.int .i64 (m : Int)))]) [(7, _)] (fun m => [(0, .arr 38 4 n ((repL c n (m)).flatMap c4))]) [.hole] (fun m => 1 ≤ m ∧ m ≤ n) (fun m => n - m) 1 [0] (⟨Nat.le_refl _, h1⟩) rfl ⟨rfl, trivial⟩ ⟨rfl, trivial⟩ ⟨by rw [show min [c].length n = 1 by simp; omega, show List.take (1 * 4) (List.flatMap c4 [c]) = (List.replicate 1 c).flatMap c4 from rfl, repL_step (m := 0) (k := 1) (by omega)]; rfl, trivial⟩ ?_
  intro m hx
  simp only [upd, za, zaa, List.cons_append, List.nil_append]
  obtain ⟨hm1, hmn⟩ := hx
  refine zaf ?_
  refine zaf ?_
  refine zad ?_
  refine zab rfl rfl rfl (zac (.inl rfl) (ev1 rfl)) ?_
  refine zab rfl rfl rfl (zac (.inl rfl) (ev1 rfl)) ?_
  refine zab rfl rfl rfl (op_lena rfl sl22 (ev1 rfl) rfl) ?_
  refine zab rfl rfl rfl (op_lss rfl (ev1 rfl) (ev1 rfl)) ?_
  refine zae ?_
  refine dwp_cond rfl (fun c3 => ?_) (fun c3 => ?_)
  · try simp only [yg, ya, beq_iff_eq, bne_iff_ne, yb, yc, yf, ye, yh, yi, yd, ne_eq, yj, Int.not_lt, Int.not_le] at c3
    refine dwp_skip ?_
    refine dwp_block ?_
    refine dwp_draw [([], []), ([], []), ([], []), ([0], []), ([], []), ([], []), ([0], []), ([0, 0], [0]), ([], []), ([], [])] mixed (by kernel_rfl) ?_
    refine zag rfl rfl (zac (.inl rfl) (ev1 rfl)) ?_
    refine zag rfl rfl (zac (.inl rfl) (ev1 rfl)) ?_
    refine zag rfl rfl (zac (.inl rfl) (ev1 rfl)) ?_
    refine zag rfl rfl (op_sla rfl sl22 (ev1 rfl) rfl (bd_some (ev1 rfl)) bd_none (fun _ => by omega)) ?_
    refine zag rfl rfl (zac (.inl rfl) (ev1 rfl)) ?_
    refine zag rfl rfl (zac (.inl rfl) (ev1 rfl)) ?_
    refine zag rfl rfl (op_sla rfl sl22 (ev1 rfl) rfl bd_none (bd_some (ev1 rfl)) (fun _ => by omega)) ?_
    refine lex_w rfl rfl (op_cpz rfl sl22 (ev1 rfl) (ev1 rfl) (src_own rfl rfl) rfl (fun _ => oc_part (flat_oc (fun _ => rfl) _) _ _) (fun _ => by omega) (by decide) (fun _ => by omega)) rfl (by simp only [upd, za, zaa]; exact rfl) ?_
    refine zag rfl rfl (op_add' rfl (ev1 rfl) (ev1 rfl) (fun _ => IntWalk.i64_in _ (by omega))) ?_
    refine zag rfl rfl (zac (.inr rfl) (ev1 rfl)) ?_
    refine lex_nil ?_
    refine ⟨m + min m (n - m), [0], ⟨by omega, by omega⟩, by simp only []; omega, rfl, ⟨congrArg (fun z => some (D.val (Value.int .i64 z))) (by omega), rfl, trivial⟩, ⟨by simp only [Int.toNat_natCast, Int.toNat_zero, Nat.zero_mul, List.drop_zero, Nat.sub_zero]; rw [rep_cpy hmn]; rfl, trivial⟩⟩
  · try simp only [yg, ya, beq_iff_eq, bne_iff_ne, yb, yc, yf, ye, yh, yi, yd, ne_eq, yj, Int.not_lt, Int.not_le] at c3
    refine dwp_exit ?_
    refine zaf ?_
    refine zad ?_
    refine zab rfl rfl rfl (zac (.inl rfl) (ev1 rfl)) ?_
    refine zab rfl rfl rfl (zac (.inr rfl) (ev1 rfl)) ?_
    refine zae ?_
    refine dwp_ret ?_
    obtain rfl : m = n := by omega
    refine kend [0] (rs1 rfl (rv_t rfl)) rfl rfl ?_ ⟨?_, trivial⟩
    rfl
    rw [repL_end]; rfl
theorem repeat_d (c : C4) (n : Nat) (h1 : 1 ≤ n) (hn : n ≤ 64) : DFun Try.prog 51 [.slf 4 [c].length ([c].flatMap c4), .val (.int .i64 (n : Int))] [] (.slf 4 (List.replicate n c).length ((List.replicate n c).flatMap c4)) [] := by
  rw [List.length_replicate]
  exact freeze (repeat_o c n h1 hn) rfl
set_option maxRecDepth 4000 in
set_option maxHeartbeats 1000000 in
theorem snew_no (w h : Int) (c : C4) (hno : (sideB w && sideB h) = false) : DFun Try.prog 23 [.val (.int .i64 w), .val (.int .i64 h), .val (.agg (c4 c).toArray)] [] (.tup [.val (.agg #[.int .i64 0, .int .i64 0, .slice none 0 0]), .val (.int .i64 2)]) [] := by
  refine dcalls_go (N := 27) 0 (by kernel_rfl) Try.func23 rfl rfl rfl (by simp only [fr0, Nat.zero_add, Nat.reduceAdd]; exact rfl) rfl fun s0 hs0 => ?_
  refine zaf ?_
  refine zai 2 (by simp only [holes, List.cons_append, List.nil_append]; exact rfl) ?_
  refine zad ?_
  refine zak rfl rfl rfl (op_boxa 0 rfl (ev1 rfl) rfl) (by simp only [upd, za, zaa]; exact rfl) ?_
  refine zak rfl rfl rfl (zal 1 rfl zr24 rfl) (by simp only [upd, za, zaa]; exact rfl) ?_
  refine zab rfl rfl rfl (zac (.inr rfl) (ev1 rfl)) ?_
  refine zae ?_
  refine zaf ?_
  refine zaf ?_
  refine zad ?_
  refine zab rfl rfl rfl (zac (.inl rfl) (ev1 rfl)) ?_
  refine zab rfl rfl rfl (zaj [] [] [] rfl (ev1 rfl) (ec (ev1 rfl) en) rfl rfl (side_d _) rfl rfl rfl rfl rfl rfl) ?_
  refine zab rfl rfl rfl (op_not rfl (ev1 rfl)) ?_
  refine zab rfl rfl rfl (zac (.inl rfl) (ev1 rfl)) ?_
  refine zah (gd_f rfl rfl rfl) rfl rfl rfl (zac (.inl rfl) (ev1 rfl)) ?_
  refine zah (gd_f rfl rfl rfl) rfl rfl rfl (zaj [] [] [] rfl (ev1 rfl) (ec (ev2 rfl) en) rfl rfl (side_d _) rfl rfl rfl rfl rfl rfl) ?_
  refine zah (gd_f rfl rfl rfl) rfl rfl rfl (op_not rfl (ev2 rfl)) ?_
  refine zab rfl rfl rfl (op_or rfl (ev1 rfl) (ev3 rfl id)) ?_
  refine zae ?_
  refine dwp_if_t rfl (by rw [← Bool.not_and, hno]; rfl) ?_
  refine zaf ?_
  refine zad ?_
  refine zab rfl rfl rfl (op_build0 rfl fl24 zr24) ?_
  refine walk_s rfl rfl (op_stwa rfl tb24 (ev1 rfl) (ev1 rfl) rfl rfl rfl rfl) (by simp only [upd, za, zaa]; exact rfl) ?_
  refine zab rfl rfl rfl (zac (.inr rfl) (ev1 rfl)) ?_
  refine zae ?_
  refine dwp_ret ?_
  refine kend0 (rs2 rfl (rv_w tb24 rfl rfl rfl) (rv_t rfl)) rfl ?_
  rfl
set_option maxRecDepth 4000 in
set_option maxHeartbeats 1000000 in
theorem snew_d (W H : Nat) (c : C4) (hw : 1 ≤ W ∧ W ≤ 8) (hh : 1 ≤ H ∧ H ≤ 8) : DFun Try.prog 23 [.val (.int .i64 (W : Int)), .val (.int .i64 (H : Int)), .val (.agg (c4 c).toArray)] [] (.tup [.agg [.val (.int .i64 (W : Int)), .val (.int .i64 (H : Int)), .slf 4 (List.replicate (W * H) c).length ((List.replicate (W * H) c).flatMap c4)], .val (.int .i64 0)]) [] := by
  have hwh := mul_le64 hw.2 hh.2
  have hw1 : 1 ≤ W * H := Nat.mul_pos hw.1 hh.1
  have hm1 := mulc W H
  have hsr : StOk W H (List.replicate (W * H) c) := ⟨hw, hh, List.length_replicate⟩
  refine dcalls_go (N := 27) 0 (by kernel_rfl) Try.func23 rfl rfl rfl (by simp only [fr0, Nat.zero_add, Nat.reduceAdd]; exact rfl) rfl fun s0 hs0 => ?_
  refine zaf ?_
  refine zai 2 (by simp only [holes, List.cons_append, List.nil_append]; exact rfl) ?_
  refine zad ?_
  refine zak rfl rfl rfl (op_boxa 0 rfl (ev1 rfl) rfl) (by simp only [upd, za, zaa]; exact rfl) ?_
  refine zak rfl rfl rfl (zal 1 rfl zr24 rfl) (by simp only [upd, za, zaa]; exact rfl) ?_
  refine zab rfl rfl rfl (zac (.inr rfl) (ev1 rfl)) ?_
  refine zae ?_
  refine zaf ?_
  refine zaf ?_
  refine zad ?_
  refine zab rfl rfl rfl (zac (.inl rfl) (ev1 rfl)) ?_
  refine zab rfl rfl rfl (zaj [] [] [] rfl (ev1 rfl) (ec (ev1 rfl) en) rfl rfl (side_d _) rfl rfl rfl rfl rfl rfl) ?_
  refine zab rfl rfl rfl (op_not rfl (ev1 rfl)) ?_
  refine zab rfl rfl rfl (zac (.inl rfl) (ev1 rfl)) ?_
  refine zah (gd_f rfl rfl rfl) rfl rfl rfl (zac (.inl rfl) (ev1 rfl)) ?_
  refine zah (gd_f rfl rfl rfl) rfl rfl rfl (zaj [] [] [] rfl (ev1 rfl) (ec (ev2 rfl) en) rfl rfl (side_d _) rfl rfl rfl rfl rfl rfl) ?_
  refine zah (gd_f rfl rfl rfl) rfl rfl rfl (op_not rfl (ev2 rfl)) ?_
  refine zab rfl rfl rfl (op_or rfl (ev1 rfl) (ev3 rfl id)) ?_
  refine zae ?_
  refine dwp_if_f rfl (by rw [sideB_iff.2 (show 1 ≤ (W : Int) ∧ (W : Int) ≤ 8 by omega), sideB_iff.2 (show 1 ≤ (H : Int) ∧ (H : Int) ≤ 8 by omega)]; rfl) ?_
  refine dwp_skip ?_
  refine zaf ?_
  refine zad ?_
  refine zab rfl rfl rfl (zac (.inl rfl) (ev1 rfl)) ?_
  refine zab rfl rfl rfl (op_ldw rfl tb38 (ev1 rfl) rfl rfl) ?_
  refine zab rfl rfl rfl (op_bs (ps := [(0, .tmp 18)]) rfl sl22 zr38 rfl (vc (ev1 rfl) vn) rfl (by decide) (by decide)) ?_
  refine zab rfl rfl rfl (zac (.inl rfl) (ev1 rfl)) ?_
  refine zab rfl rfl rfl (zac (.inl rfl) (ev1 rfl)) ?_
  refine zab rfl rfl rfl ((op_mul' rfl (ev1 rfl) (ev1 rfl) (fun _ => IntWalk.i64_in _ (by omega))).cast (d' := .val (.int .i64 ((W * H : Nat) : Int))) (int_cast hm1)) ?_
  refine zab rfl rfl rfl (zaj [] [] [] rfl (ev1 rfl) (ec (ev1 rfl) (ec (ev1 rfl) en)) rfl rfl (repeat_d c (W * H) hw1 hwh) rfl rfl rfl rfl rfl rfl) ?_
  refine zab rfl rfl rfl (zaj [] [] [] rfl (ev1 rfl) (ec (ev1 rfl) (ec (ev1 rfl) en)) rfl rfl (sof_d W H _ hsr) rfl rfl rfl rfl rfl rfl) ?_
  refine zab rfl rfl rfl (op_ext rfl (ev1 rfl) rfl) ?_
  refine zab rfl rfl rfl (op_ext rfl (ev1 rfl) rfl) ?_
  refine walk_s rfl rfl (op_stam rfl tb24 (ev1 rfl) (ev1 rfl) rfl rfl rfl rfl) (by simp only [upd, za, zaa]; exact rfl) ?_
  refine zab rfl rfl rfl (zac (.inr rfl) (ev1 rfl)) ?_
  refine zae ?_
  refine dwp_ret ?_
  refine kend0 (rs2 rfl (rv_mw tb24 rfl rfl rfl) (rv_t rfl)) rfl ?_
  rfl
set_option maxRecDepth 4000
theorem ar47 : arE Try.prog 47 = some (2, 1) := by kernel_rfl
theorem sl45 : slE Try.prog 45 = some (47, 2, 16) := by kernel_rfl
theorem tb47 : tyB Try.prog 47 = some (true, 2) := by kernel_rfl
theorem zr47 : zrC Try.prog 47 = some [.int .i64 0, .int .i64 0] := by kernel_rfl
theorem repL_set {c : C4} {n j : Nat} (h : j < n) : (repL c n j).set j c = repL c n (j + 1) := by
  unfold repL
  rw [List.set_append_right _ _ (by rw [List.length_replicate]; omega), List.length_replicate, Nat.sub_self, show n - j = (n - (j + 1)) + 1 by omega, List.replicate_succ, za, List.replicate_succ', List.append_assoc]
  rfl
theorem ofB_st {w : Int} {l : List C4} (e : ofB w l = true) : ∃ W H : Nat, w = (W : Int) ∧ (l.length : Int) / w = (H : Int) ∧ StOk W H l := by
  unfold ofB at e
  simp only [Bool.and_eq_true, decide_eq_true_eq, sideB_iff] at e
  obtain ⟨h1, h2, h3⟩ := e
  refine ⟨w.toNat, ((l.length : Int) / w).toNat, by omega, by omega, ⟨by omega, by omega, ?_⟩⟩
  have h4 := Int.mul_ediv_add_emod (l.length : Int) w
  rw [h2, Int.add_zero] at h4
  have e1 : ((w.toNat : Nat) : Int) = w := by omega
  have e2 : ((((l.length : Int) / w).toNat : Nat) : Int) = (l.length : Int) / w := by omega
  have : ((w.toNat * ((l.length : Int) / w).toNat : Nat) : Int) = (l.length : Int) := by rw [Int.natCast_mul, e1, e2]; exact h4
  omega
theorem right_of1 {w : Int} {l : List C4} (hno : ofB w l = false) : rightS w ((l.length : Int) / w) l = false := by
  rw [← Bool.not_eq_true] at hno ⊢
  intro h
  refine hno ?_
  unfold rightS at h
  unfold ofB
  simp only [Bool.and_eq_true, decide_eq_true_eq] at h ⊢
  obtain ⟨⟨h1, h2⟩, h3⟩ := h
  refine ⟨h1, ?_, h2⟩
  have h4 := Int.mul_ediv_add_emod (l.length : Int) w
  omega
theorem right_of2 {w h : Int} {l : List C4} (hw : ¬ 0 < w) : rightS w h l = false := by
  unfold rightS
  rw [sideB_no.2 (by omega)]
  rfl
set_option maxRecDepth 4000 in
set_option maxHeartbeats 1000000 in
theorem smakes_d (ps : List P2) (c : C4) (l : List C4) : DFun Try.prog 4 [.slf 2 ps.length (ps.flatMap p2), .val (.agg (c4 c).toArray), .slf 4 l.length (l.flatMap c4)] [] (.val (.bool true)) [] := by
  refine dcalls_go (N := 145) 0 (by kernel_rfl) Try.func4 rfl rfl rfl (by simp only [fr0, Nat.zero_add, Nat.reduceAdd]; exact rfl) rfl fun s0 hs0 => ?_
  refine dwp_len (t := 0) rfl fun hl0 hL0 => ?_
  refine dwp_len (t := 2) rfl fun hl2 hL2 => ?_
  refine zaf ?_
  refine zai 1 (by simp only [holes, List.cons_append, List.nil_append]; exact rfl) ?_
  refine zad ?_
  refine zak rfl rfl rfl (op_boxa 0 rfl (ev1 rfl) rfl) (by simp only [upd, za, zaa]; exact rfl) ?_
  refine zab rfl rfl rfl (zac (.inr rfl) (ev1 rfl)) ?_
  refine zae ?_
  refine zaf ?_
  refine zaf ?_
  refine zad ?_
  refine zab rfl rfl rfl (zaj [] [] [] rfl (ev1 rfl) en rfl rfl (swakes_d) rfl rfl rfl rfl rfl rfl) ?_
  refine zab rfl rfl rfl (op_not rfl (ev1 rfl)) ?_
  refine zae ?_
  refine dwp_if_f rfl (rfl) ?_
  refine dwp_skip ?_
  refine zaf ?_
  obtain ⟨PX, hPX⟩ : ∃ PX, PX = l.take 66 := ⟨_, rfl⟩
  have hPl : PX.length ≤ 66 := by rw [hPX, List.length_take]; omega
  have hPle : PX.length ≤ l.length := by rw [hPX, List.length_take]; omega
  have hPt : l.take PX.length = PX := by rw [hPX, List.length_take, Nat.min_comm, tkmin]
  refine zad ?_
  refine zab rfl rfl rfl (zac (.inl rfl) (ev1 rfl)) ?_
  refine zab rfl rfl rfl (zac (.inl rfl) (ev1 rfl)) ?_
  refine zab rfl rfl rfl (op_len rfl sl22 (ev1 rfl)) ?_
  refine zab rfl rfl rfl (op_min rfl (ev1 rfl) (ev1 rfl)) ?_
  refine zab rfl rfl rfl (op_sltk (j := min l.length 66) rfl sl22 (ev1 rfl) (bd_some (ev1 rfl)) (fun _ => by omega) (fun _ => by omega) (fun _ => rfl)) ?_
  refine zab rfl rfl rfl (zaj [] [] [] rfl (ev1 rfl) (ec (ev1 rfl) en) rfl rfl ((by rw [tkmin, ← hPX]; exact cloneC_f PX (by omega) : DFun Try.prog 22 [.slf 4 (l.take (min l.length 66)).length ((l.take (min l.length 66)).flatMap c4)] [] (.slf 4 PX.length (PX.flatMap c4)) [])) rfl rfl rfl rfl rfl rfl) ?_
  refine zab rfl rfl rfl (zac (.inr rfl) (ev1 rfl)) ?_
  refine zae ?_
  refine zaf ?_
  refine zaf ?_
  refine zad ?_
  refine zab rfl rfl rfl (zac (.inl rfl) (ev1 rfl)) ?_
  refine zab rfl rfl rfl (op_len rfl sl45 (ev1 rfl)) ?_
  refine zab rfl rfl rfl (zac (.inl rfl) (ev1 rfl)) ?_
  refine zae ?_
  refine dwp_block ?_
  refine dwp_loopS ⟨hs0, rfl⟩ (α := Nat) (fun k => [(28, .val (.int .i64 (k : Int)))]) [(2, _), (4, _), (7, _), (26, _), (27, _)] (fun k => []) [_] (fun k => k ≤ ps.length) (fun k => ps.length - k) 0 [0] (Nat.zero_le _) rfl ⟨rfl, rfl, rfl, rfl, rfl, trivial⟩ ⟨rfl, trivial⟩ ⟨rfl, trivial⟩ ?_
  intro k hx
  simp only [upd, za, zaa, List.cons_append, List.nil_append]
  have hk := hx
  refine zaf ?_
  refine zad ?_
  refine zab rfl rfl rfl (op_lss rfl (ev1 rfl) (ev1 rfl)) ?_
  refine zae ?_
  refine zaf ?_
  refine dwp_cond rfl (fun c2 => ?_) (fun c2 => ?_)
  · try simp only [yg, ya, beq_iff_eq, bne_iff_ne, yb, yc, yf, ye, yh, yi, yd, ne_eq, yj, Int.not_lt, Int.not_le] at c2
    refine dwp_skip ?_
    refine zaf ?_
    refine dwp_block ?_
    refine zaf ?_
    refine zai 1 (by simp only [holes, List.cons_append, List.nil_append]; exact rfl) ?_
    refine zad ?_
    refine zab rfl rfl rfl (zac (.inl rfl) (ev1 rfl)) ?_
    refine zab rfl rfl rfl (op_ixsr (j := k) rfl sl45 (ev1 rfl) (ev1 rfl) (fun _ => rfl) (by decide) (by omega) (by omega)) ?_
    refine zab rfl rfl rfl (op_ldwd rfl tb47 (ev1 rfl) rfl) ?_
    refine zak rfl rfl rfl (zal 1 rfl zr47 rfl) (by simp only [upd, za, zaa]; exact rfl) ?_
    refine zab rfl rfl rfl (zac (.inr rfl) (ev1 rfl)) ?_
    refine walk_s rfl rfl (op_stwa rfl tb47 (ev1 rfl) (ev1 rfl) rfl rfl rfl rfl) (by simp only [upd, za, zaa]; exact rfl) ?_
    refine zae ?_
    refine zaf ?_
    refine zaf ?_
    refine zad ?_
    refine zab rfl rfl rfl (zac (.inl rfl) (ev1 rfl)) ?_
    refine zab rfl rfl rfl (op_eql rfl (ev1 rfl) (ev1 rfl)) ?_
    refine zae ?_
    refine dwp_cond rfl (fun c3 => ?_) (fun c3 => ?_)
    · try simp only [yg, ya, beq_iff_eq, bne_iff_ne, yb, yc, yf, ye, yh, yi, yd, ne_eq, yj, Int.not_lt, Int.not_le] at c3
      refine dwp_exit ?_
      refine zaf ?_
      refine zad ?_
      refine zab rfl rfl rfl (zac (.inr rfl) (ev1 rfl)) ?_
      refine zae ?_
      refine dwp_ret ?_
      refine kend0 (rs1 rfl (rv_t rfl)) rfl ?_
      first | rfl | simp
    · try simp only [yg, ya, beq_iff_eq, bne_iff_ne, yb, yc, yf, ye, yh, yi, yd, ne_eq, yj, Int.not_lt, Int.not_le] at c3
      refine dwp_skip ?_
      refine zaf ?_
      by_cases hsz : (sideB ps[k].x && sideB ps[k].y) = true
      · have hsz2 := hsz
        simp only [Bool.and_eq_true, sideB_iff] at hsz2
        obtain ⟨W, hW⟩ : ∃ W : Nat, ps[k].x = (W : Int) := ⟨ps[k].x.toNat, by omega⟩
        obtain ⟨H, hH⟩ : ∃ H : Nat, ps[k].y = (H : Int) := ⟨ps[k].y.toNat, by omega⟩
        have hw8 : 1 ≤ W ∧ W ≤ 8 := by omega
        have hh8 : 1 ≤ H ∧ H ≤ 8 := by omega
        have hwh := mul_le64 hw8.2 hh8.2
        have hr0 := repL_len (c := c) (n := W * H) (Nat.zero_le _)
        refine zai 1 (by simp only [holes, List.cons_append, List.nil_append]; exact rfl) ?_
        refine zad ?_
        refine zab rfl rfl rfl (op_ixl rfl ar47 (ev1 rfl) (ev1 rfl) (fun _ => by omega)) ?_
        refine zab rfl rfl rfl (op_ldo rfl tb3 (ev1 rfl) rfl rfl) ?_
        refine zab rfl rfl rfl (op_ixl rfl ar47 (ev1 rfl) (ev1 rfl) (fun _ => by omega)) ?_
        refine zab rfl rfl rfl (op_ldo rfl tb3 (ev1 rfl) rfl rfl) ?_
        refine zab rfl rfl rfl (op_ldw rfl tb38 (ev1 rfl) rfl rfl) ?_
        refine zab rfl rfl rfl (zaj [] [] [] rfl (ev1 rfl) (ec (ev1 rfl) (ec (ev1 rfl) (ec (ev1 rfl) en))) rfl rfl ((by rw [hW, hH]; exact snew_d W H c hw8 hh8 : DFun Try.prog 23 [.val (.int .i64 ps[k].x), .val (.int .i64 ps[k].y), .val (.agg (c4 c).toArray)] [] (.tup [.agg [.val (.int .i64 (W : Int)), .val (.int .i64 (H : Int)), .slf 4 (List.replicate (W * H) c).length ((List.replicate (W * H) c).flatMap c4)], .val (.int .i64 0)]) [])) rfl rfl rfl rfl rfl rfl) ?_
        refine zab rfl rfl rfl (zac (.inl rfl) (ev1 rfl)) ?_
        refine zab rfl rfl rfl (op_ext rfl (ev1 rfl) rfl) ?_
        refine zab rfl rfl rfl (op_ext rfl (ev1 rfl) rfl) ?_
        refine zak rfl rfl rfl (zal 2 rfl zr24 rfl) (by simp only [upd, za, zaa]; exact rfl) ?_
        refine walk_s rfl rfl (op_stam rfl tb24 (ev1 rfl) (ev1 rfl) rfl rfl rfl rfl) (by simp only [upd, za, zaa]; exact rfl) ?_
        refine zab rfl rfl rfl (zac (.inr rfl) (ev1 rfl)) ?_
        refine zae ?_
        refine zaf ?_
        refine zai 1 (by simp only [holes, List.cons_append, List.nil_append]; exact rfl) ?_
        refine zad ?_
        refine zab rfl rfl rfl (op_build0 rfl fl24 zr24) ?_
        refine zak rfl rfl rfl (zal 3 rfl zr24 rfl) (by simp only [upd, za, zaa]; exact rfl) ?_
        refine walk_s rfl rfl (op_stwa rfl tb24 (ev1 rfl) (ev1 rfl) rfl rfl rfl rfl) (by simp only [upd, za, zaa]; exact rfl) ?_
        refine zab rfl rfl rfl (zac (.inr rfl) (ev1 rfl)) ?_
        refine zae ?_
        refine zaf ?_
        refine zaf ?_
        refine zad ?_
        refine zab rfl rfl rfl (op_ixl rfl ar47 (ev1 rfl) (ev1 rfl) (fun _ => by omega)) ?_
        refine zab rfl rfl rfl (op_ldo rfl tb3 (ev1 rfl) rfl rfl) ?_
        refine zab rfl rfl rfl (op_ixl rfl ar47 (ev1 rfl) (ev1 rfl) (fun _ => by omega)) ?_
        refine zab rfl rfl rfl (op_ldo rfl tb3 (ev1 rfl) rfl rfl) ?_
        refine zab rfl rfl rfl (zaj [] [] [] rfl (ev1 rfl) (ec (ev1 rfl) (ec (ev1 rfl) en)) rfl rfl (sides_d ps[k].x ps[k].y) rfl rfl rfl rfl rfl rfl) ?_
        refine zae ?_
        refine dwp_if_t rfl (hsz) ?_
        refine zaf ?_
        refine dwp_reb 3 reb_mix rfl rfl (by simp only [List.cons_append, List.nil_append, za, zaa, List.map]; exact rfl) ?_
        refine zai 1 (by simp only [holes, List.cons_append, List.nil_append]; exact rfl) ?_
        refine dwp_draw [([], []), ([1], []), ([], []), ([1], []), ([], []), ([1], []), ([], []), ([1], []), ([], []), ([4], [4]), ([], []), ([3], [3]), ([], [])] mixed (by kernel_rfl) ?_
        refine zag rfl rfl (op_ixl rfl ar47 (ev1 rfl) (ev1 rfl) (fun _ => by omega)) ?_
        refine zag rfl rfl (op_ldo rfl tb3 (ev1 rfl) rfl rfl) ?_
        refine zag rfl rfl (op_ixl rfl ar47 (ev1 rfl) (ev1 rfl) (fun _ => by omega)) ?_
        refine zag rfl rfl (op_ldo rfl tb3 (ev1 rfl) rfl rfl) ?_
        refine zag rfl rfl (op_ixl rfl ar47 (ev1 rfl) (ev1 rfl) (fun _ => by omega)) ?_
        refine zag rfl rfl (op_ldo rfl tb3 (ev1 rfl) rfl rfl) ?_
        refine zag rfl rfl (op_ixl rfl ar47 (ev1 rfl) (ev1 rfl) (fun _ => by omega)) ?_
        refine zag rfl rfl (op_ldo rfl tb3 (ev1 rfl) rfl rfl) ?_
        refine zag rfl rfl ((op_mul' rfl (ev1 rfl) (ev1 rfl) (fun _ => IntWalk.i64_in _ (by rw [hW, hH, mulc]; omega))).cast (d' := .val (.int .i64 ((W * H : Nat) : Int))) (int_cast (by rw [hW, hH]; exact mulc W H))) ?_
        refine lex_w rfl rfl (op_mkg 4 (W * H) (.int .u8 0) rfl sl22 zr38 (by kernel_rfl) (by decide) (ev1 rfl) (ev1 rfl) (fun _ => rfl) (fun _ => rfl) rfl (fun _ => ⟨by omega, by omega⟩)) rfl (by simp only [upd, za, zaa]; exact rfl) ?_
        refine zag rfl rfl (op_bldD (ps := [(0, .tmp 51), (1, .tmp 53), (2, .tmp 59)]) rfl fl24 zr24 (ec (ev1 rfl) (ec (ev1 rfl) (ec (ev1 rfl) en))) rfl rfl rfl) ?_
        refine lex_s rfl rfl (op_stmw rfl tb24 (ev1 rfl) (ev1 rfl) rfl rfl rfl rfl) rfl (by simp only [upd, za, zaa]; exact rfl) ?_
        refine zag rfl rfl (zac (.inr rfl) (ev1 rfl)) ?_
        refine lex_nil ?_
        refine zaf ?_
        rw [← z4_rep, show List.replicate (W * H) zC4 = repL c (W * H) 0 from rfl]
        refine zad ?_
        refine zab rfl rfl rfl (op_fa rfl fo24_2 (ev1 rfl)) ?_
        refine zab rfl rfl rfl (op_ldm rfl tb22 (ev1 rfl) rfl rfl) ?_
        refine zab rfl rfl rfl (op_lena rfl sl22 (ev1 rfl) rfl) ?_
        refine zab rfl rfl rfl (zac (.inl rfl) (ev1 rfl)) ?_
        refine zae ?_
        refine dwp_block ?_
        refine dwp_loopS ⟨hs0, rfl⟩ (α := Nat) (fun j => [(64, .val (.int .i64 (j : Int)))]) [(2, _), (4, _), (7, _), (9, _), (10, _), (11, _), (12, _), (13, _), (26, _), (27, _), (28, _), (63, _)] (fun j => [(4, .arr 38 4 (repL c (W * H) (j)).length ((repL c (W * H) (j)).flatMap c4))]) [_, _, _, _, .hole] (fun j => j ≤ W * H) (fun j => W * H - j) 0 [0, 1, 2, 3, 4] (Nat.zero_le _) rfl ⟨rfl, rfl, rfl, rfl, rfl, rfl, rfl, rfl, rfl, rfl, rfl, rfl, trivial⟩ ⟨rfl, trivial⟩ ⟨rfl, rfl, rfl, rfl, arr_eq hr0.symm rfl, trivial⟩ ?_
        intro j hx
        simp only [upd, za, zaa, List.cons_append, List.nil_append]
        have hj := hx
        have hrj := repL_len (c := c) hj
        refine zaf ?_
        refine zad ?_
        refine zab rfl rfl rfl (op_lss rfl (ev1 rfl) (ev1 rfl)) ?_
        refine zae ?_
        refine zaf ?_
        refine dwp_cond rfl (fun c5 => ?_) (fun c5 => ?_)
        · try simp only [yg, ya, beq_iff_eq, bne_iff_ne, yb, yc, yf, ye, yh, yi, yd, ne_eq, yj, Int.not_lt, Int.not_le] at c5
          refine dwp_skip ?_
          refine zaf ?_
          refine dwp_block ?_
          refine zaf ?_
          refine zad ?_
          refine zab rfl rfl rfl (zac (.inl rfl) (ev1 rfl)) ?_
          refine zab rfl rfl rfl (zac (.inr rfl) (ev1 rfl)) ?_
          refine zae ?_
          refine zad ?_
          refine zab rfl rfl rfl (op_fa rfl fo24_2 (ev1 rfl)) ?_
          refine zab rfl rfl rfl (op_ldm rfl tb22 (ev1 rfl) rfl rfl) ?_
          refine zab rfl rfl rfl (zac (.inl rfl) (ev1 rfl)) ?_
          refine zab rfl rfl rfl (op_ldw rfl tb38 (ev1 rfl) rfl rfl) ?_
          refine zab rfl rfl rfl (op_ixar (j := j) rfl sl22 (ev1 rfl) (ev1 rfl) rfl (fun _ => by first | rfl | omega) (fun _ => by omega)) ?_
          refine walk_s rfl rfl (op_star rfl tb38 (ev1 rfl) rfl (ev1 rfl) (fun _ => rfl) (by first | omega | (simp only [List.length_set]; omega)) rfl) (by simp only [upd, za, zaa]; exact rfl) ?_
          refine zae ?_
          refine zad ?_
          refine zab rfl rfl rfl (op_add' rfl (ev1 rfl) (ev1 rfl) (fun _ => IntWalk.i64_in _ (by omega))) ?_
          refine zab rfl rfl rfl (zac (.inl rfl) (ev1 rfl)) ?_
          refine zae ?_
          refine ⟨j + 1, [0, 1, 2, 3, 4], by omega, by simp only []; omega, rfl, ⟨rfl, rfl, rfl, rfl, rfl, rfl, rfl, rfl, rfl, rfl, rfl, rfl, rfl, trivial⟩, ⟨rfl, rfl, rfl, rfl, arr_eq (by rw [repL_len (by omega), repL_len (by omega)]) (by rw [repL_set (by omega)]), trivial⟩⟩
        · try simp only [yg, ya, beq_iff_eq, bne_iff_ne, yb, yc, yf, ye, yh, yi, yd, ne_eq, yj, Int.not_lt, Int.not_le] at c5
          refine dwp_exit ?_
          refine zaf ?_
          refine zaf ?_
          obtain rfl : j = W * H := by omega
          rw [repL_end]
          refine zad ?_
          refine zab rfl rfl rfl (zac (.inl rfl) (ev1 rfl)) ?_
          refine zab rfl rfl rfl (zac (.inl rfl) (ev1 rfl)) ?_
          refine zab rfl rfl rfl (op_neq rfl (ev1 rfl) (ev1 rfl)) ?_
          refine zab rfl rfl rfl (zac (.inl rfl) (ev1 rfl)) ?_
          refine zah (gd_f rfl rfl rfl) rfl rfl rfl (op_ldmw rfl tb24 (ev1 rfl) rfl rfl) ?_
          refine zah (gd_f rfl rfl rfl) rfl rfl rfl (op_ldmw rfl tb24 (ev1 rfl) rfl rfl) ?_
          refine zah (gd_f rfl rfl rfl) rfl rfl rfl (zaj [] [4] [] rfl (ev1 rfl) (ec (ev2 rfl) (ec (ev2 rfl) en)) rfl rfl (srsame_d _ _ _ _ (List.replicate (W * H) c) (List.replicate (W * H) c) (by rw [List.length_replicate]; omega)) rfl rfl rfl rfl rfl rfl) ?_
          refine zah (gd_f rfl rfl rfl) rfl rfl rfl (op_not rfl (ev2 rfl)) ?_
          refine zab rfl rfl rfl (op_or rfl (ev1 rfl) (ev3 rfl id)) ?_
          refine zae ?_
          refine dwp_if_f rfl (by rw [hW, hH]; simp) ?_
          refine dwp_skip ?_
          refine zaf ?_
          by_cases hof : ofB ps[k].x PX = true
          · obtain ⟨W2, H2, hW2, hH2, hs2⟩ := ofB_st hof
            have hm2 := hs2.w
            have hn2 := hs2.h
            refine zai 2 (by simp only [holes, List.cons_append, List.nil_append]; exact rfl) ?_
            refine zad ?_
            refine zab rfl rfl rfl (op_ixl rfl ar47 (ev1 rfl) (ev1 rfl) (fun _ => by omega)) ?_
            refine zab rfl rfl rfl (op_ldo rfl tb3 (ev1 rfl) rfl rfl) ?_
            refine zab rfl rfl rfl (zac (.inl rfl) (ev1 rfl)) ?_
            refine zak rfl rfl rfl (zaj [] [] [5] rfl (ev1 rfl) (ec (ev1 rfl) (ec (ev1 rfl) en)) rfl rfl ((by rw [hW2]; exact sof_o W2 H2 PX hs2 : DFun Try.prog 25 [.val (.int .i64 ps[k].x), .slf 4 PX.length (PX.flatMap c4)] [] (.tup [.agg [.val (.int .i64 (W2 : Int)), .val (.int .i64 (H2 : Int)), .arr 0], .val (.int .i64 0)]) [.arr 38 4 (PX).length ((PX).flatMap c4)])) rfl rfl rfl rfl rfl rfl) (by simp only [upd, za, zaa]; exact rfl) ?_
            refine zab rfl rfl rfl (zac (.inl rfl) (ev1 rfl)) ?_
            refine zab rfl rfl rfl (op_ext rfl (ev1 rfl) rfl) ?_
            refine zab rfl rfl rfl (op_ext rfl (ev1 rfl) rfl) ?_
            refine zak rfl rfl rfl (zal 6 rfl zr24 rfl) (by simp only [upd, za, zaa]; exact rfl) ?_
            refine walk_s rfl rfl (op_stam rfl tb24 (ev1 rfl) (ev1 rfl) rfl rfl rfl rfl) (by simp only [upd, za, zaa]; exact rfl) ?_
            refine zab rfl rfl rfl (zac (.inr rfl) (ev1 rfl)) ?_
            refine zae ?_
            refine zaf ?_
            refine zai 1 (by simp only [holes, List.cons_append, List.nil_append]; exact rfl) ?_
            refine zad ?_
            refine zab rfl rfl rfl (op_ixl rfl ar47 (ev1 rfl) (ev1 rfl) (fun _ => by omega)) ?_
            refine zab rfl rfl rfl (op_ldo rfl tb3 (ev1 rfl) rfl rfl) ?_
            refine zab rfl rfl rfl (zac (.inl rfl) (ev1 rfl)) ?_
            refine zab rfl rfl rfl (op_bldD (ps := [(0, .tmp 90), (2, .tmp 91)]) rfl fl24 zr24 (ec (ev1 rfl) (ec (ev1 rfl) en)) rfl rfl rfl) ?_
            refine zak rfl rfl rfl (zal 7 rfl zr24 rfl) (by simp only [upd, za, zaa]; exact rfl) ?_
            refine walk_s rfl rfl (op_stam rfl tb24 (ev1 rfl) (ev1 rfl) rfl rfl rfl rfl) (by simp only [upd, za, zaa]; exact rfl) ?_
            refine zae ?_
            refine zaf ?_
            refine zaf ?_
            refine zad ?_
            refine zab rfl rfl rfl (op_ixl rfl ar47 (ev1 rfl) (ev1 rfl) (fun _ => by omega)) ?_
            refine zab rfl rfl rfl (op_ldo rfl tb3 (ev1 rfl) rfl rfl) ?_
            refine zab rfl rfl rfl (op_gtr rfl (ev1 rfl) (ev1 rfl)) ?_
            refine zae ?_
            refine dwp_if_t rfl (by simp; omega) ?_
            refine zad ?_
            refine zab rfl rfl rfl (zac (.inl rfl) (ev1 rfl)) ?_
            refine zab rfl rfl rfl (op_len rfl sl22 (ev1 rfl)) ?_
            refine zab rfl rfl rfl (op_ixl rfl ar47 (ev1 rfl) (ev1 rfl) (fun _ => by omega)) ?_
            refine zab rfl rfl rfl (op_ldo rfl tb3 (ev1 rfl) rfl rfl) ?_
            refine zab rfl rfl rfl (op_quo' rfl (ev1 rfl) (ev1 rfl) (fun _ => ⟨by omega, by omega, by rw [hH2]; exact IntWalk.i64_in _ (by omega)⟩)) ?_
            refine zab rfl rfl rfl (op_fa rfl fo24_1 (ev1 rfl)) ?_
            refine walk_s rfl rfl (op_stm rfl tb3 (ev1 rfl) (ev1 rfl) (fun s v h => by cases h <;> exact ⟨rfl, rfl⟩) rfl (by first | decide | exact Nat.le_of_ble_eq_true rfl | simp)) (by simp only [upd, za, zaa]; exact rfl) ?_
            refine zae ?_
            refine zaf ?_
            refine zaf ?_
            refine zad ?_
            refine zab rfl rfl rfl (op_ldmw rfl tb24 (ev1 rfl) rfl rfl) ?_
            refine zab rfl rfl rfl (zaj [] [] [] rfl (ev1 rfl) (ec (ev1 rfl) en) rfl rfl (sright_d _ _ _) rfl rfl rfl rfl rfl rfl) ?_
            refine zab rfl rfl rfl (op_not rfl (ev1 rfl)) ?_
            refine zae ?_
            refine dwp_if_f rfl (by rw [hH2, hW2, hs2.right]; rfl) ?_
            refine dwp_skip ?_
            refine zaf ?_
            refine zaf ?_
            refine zad ?_
            refine zab rfl rfl rfl (zac (.inl rfl) (ev1 rfl)) ?_
            refine zab rfl rfl rfl (op_neq rfl (ev1 rfl) (ev1 rfl)) ?_
            refine zab rfl rfl rfl (zac (.inl rfl) (ev1 rfl)) ?_
            refine zah (gd_f rfl rfl rfl) rfl rfl rfl (op_ldmw rfl tb24 (ev1 rfl) rfl rfl) ?_
            refine zah (gd_f rfl rfl rfl) rfl rfl rfl (op_ldmw rfl tb24 (ev1 rfl) rfl rfl) ?_
            refine zah (gd_f rfl rfl rfl) rfl rfl rfl (zaj [] [5] [] rfl (ev1 rfl) (ec (ev2 rfl) (ec (ev2 rfl) en)) rfl rfl (srsame_d _ _ _ _ PX PX (by omega)) rfl rfl rfl rfl rfl rfl) ?_
            refine zah (gd_f rfl rfl rfl) rfl rfl rfl (op_not rfl (ev2 rfl)) ?_
            refine zab rfl rfl rfl (op_or rfl (ev1 rfl) (ev3 rfl id)) ?_
            refine zae ?_
            refine dwp_if_f rfl (by rw [hH2, hW2]; simp) ?_
            refine dwp_skip ?_
            refine zaf ?_
            refine zaf ?_
            refine zad ?_
            refine zab rfl rfl rfl (op_fa rfl fo24_2 (ev1 rfl)) ?_
            refine zab rfl rfl rfl (op_ldm rfl tb22 (ev1 rfl) rfl rfl) ?_
            refine zab rfl rfl rfl (op_lena rfl sl22 (ev1 rfl) rfl) ?_
            refine zab rfl rfl rfl (zac (.inl rfl) (ev1 rfl)) ?_
            refine zae ?_
            refine dwp_block ?_
            refine dwp_loopS ⟨hs0, rfl⟩ (α := Nat × List C4) (fun x => [(124, .val (.int .i64 (x.1 : Int)))]) [(2, _), (4, _), (7, _), (15, _), (26, _), (27, _), (28, _), (123, _)] (fun x => [(5, .arr 38 4 PX.length (x.2.flatMap c4))]) [_, _, _, _, _, .hole, _, _] (fun x => x.1 ≤ PX.length ∧ x.2.length = PX.length) (fun x => PX.length - x.1) (0, PX) [0, 1, 2, 3, 4, 5, 6, 7] (⟨Nat.zero_le _, rfl⟩) rfl ⟨rfl, rfl, rfl, rfl, rfl, rfl, rfl, rfl, trivial⟩ ⟨rfl, trivial⟩ ⟨rfl, rfl, rfl, rfl, rfl, rfl, rfl, rfl, trivial⟩ ?_
            intro x hx
            simp only [upd, za, zaa, List.cons_append, List.nil_append]
            obtain ⟨k2, V⟩ := x
            obtain ⟨hk2, hV⟩ := hx
            dsimp only at hk2 hV ⊢
            refine zaf ?_
            refine zad ?_
            refine zab rfl rfl rfl (op_lss rfl (ev1 rfl) (ev1 rfl)) ?_
            refine zae ?_
            refine zaf ?_
            refine dwp_cond rfl (fun c10 => ?_) (fun c10 => ?_)
            · try simp only [yg, ya, beq_iff_eq, bne_iff_ne, yb, yc, yf, ye, yh, yi, yd, ne_eq, yj, Int.not_lt, Int.not_le] at c10
              refine dwp_skip ?_
              refine zaf ?_
              refine dwp_block ?_
              refine zaf ?_
              refine zad ?_
              refine zab rfl rfl rfl (zac (.inl rfl) (ev1 rfl)) ?_
              refine zab rfl rfl rfl (zac (.inr rfl) (ev1 rfl)) ?_
              refine zae ?_
              refine zad ?_
              refine zab rfl rfl rfl (op_fa rfl fo24_2 (ev1 rfl)) ?_
              refine zab rfl rfl rfl (op_ldm rfl tb22 (ev1 rfl) rfl rfl) ?_
              refine zab rfl rfl rfl (zac (.inl rfl) (ev1 rfl)) ?_
              refine zab rfl rfl rfl (op_ixar (j := k2) rfl sl22 (ev1 rfl) (ev1 rfl) rfl (fun _ => by first | rfl | omega) (fun _ => by omega)) ?_
              refine zab rfl rfl rfl (op_faa rfl fo38_0 (ev1 rfl)) ?_
              refine zab rfl rfl rfl (op_ldoa rfl tb5 (ev1 rfl) rfl (get_cr (q := k2) (by omega))) ?_
              refine zab rfl rfl rfl (op_add rfl (ev1 rfl) (ev1 rfl)) ?_
              refine zab rfl rfl rfl (op_ixar (j := k2) rfl sl22 (ev1 rfl) (ev1 rfl) rfl (fun _ => by first | rfl | omega) (fun _ => by omega)) ?_
              refine zab rfl rfl rfl (op_faa rfl fo38_0 (ev1 rfl)) ?_
              refine walk_s rfl rfl (op_sta rfl tb5 (ev1 rfl) (ev1 rfl) rfl rfl rfl (by rfl) (by rw [flat_len c4_len]; simp [Value.cells]; omega) (setL_cr (q := k2) (by omega))) (by simp only [upd, za, zaa]; exact rfl) ?_
              refine zae ?_
              refine zad ?_
              refine zab rfl rfl rfl (op_add' rfl (ev1 rfl) (ev1 rfl) (fun _ => IntWalk.i64_in _ (by omega))) ?_
              refine zab rfl rfl rfl (zac (.inl rfl) (ev1 rfl)) ?_
              refine zae ?_
              refine ⟨(k2 + 1, V.set k2 { V.getD k2 zC4 with r := IntKind.u8.wrap ((V.getD k2 zC4).r + 1) }), [0, 1, 2, 3, 4, 5, 6, 7], ⟨by dsimp only; omega, by dsimp only; rw [List.length_set]; exact hV⟩, by dsimp only; omega, rfl, ⟨rfl, rfl, rfl, rfl, rfl, rfl, rfl, rfl, rfl, trivial⟩, ⟨rfl, rfl, rfl, rfl, rfl, rfl, rfl, rfl, trivial⟩⟩
            · try simp only [yg, ya, beq_iff_eq, bne_iff_ne, yb, yc, yf, ye, yh, yi, yd, ne_eq, yj, Int.not_lt, Int.not_le] at c10
              refine dwp_exit ?_
              refine zaf ?_
              refine zad ?_
              refine zab rfl rfl rfl (zac (.inl rfl) (ev1 rfl)) ?_
              refine zab rfl rfl rfl (zac (.inl rfl) (ev1 rfl)) ?_
              refine zab rfl rfl rfl (zac (.inl rfl) (ev1 rfl)) ?_
              refine zab rfl rfl rfl (op_len rfl sl22 (ev1 rfl)) ?_
              refine zab rfl rfl rfl (op_sltk (j := PX.length) rfl sl22 (ev1 rfl) (bd_some (ev1 rfl)) (fun _ => by omega) (fun _ => by omega) (fun _ => rfl)) ?_
              refine zab rfl rfl rfl (zaj [] [] [] rfl (ev1 rfl) (ec (ev1 rfl) (ec (ev1 rfl) en)) rfl rfl (equalC PX (l.take PX.length)) rfl rfl rfl rfl rfl rfl) ?_
              refine zab rfl rfl rfl (op_not rfl (ev1 rfl)) ?_
              refine zae ?_
              refine dwp_if_f rfl (by simp [hPt]) ?_
              refine dwp_skip ?_
              refine zad ?_
              refine zab rfl rfl rfl (op_add' rfl (ev1 rfl) (ev1 rfl) (fun _ => IntWalk.i64_in _ (by omega))) ?_
              refine zab rfl rfl rfl (zac (.inl rfl) (ev1 rfl)) ?_
              refine zae ?_
              refine ⟨k + 1, [0], by omega, by simp only []; omega, rfl, ⟨rfl, rfl, rfl, rfl, rfl, rfl, trivial⟩, ⟨rfl, trivial⟩⟩
          · have hno : ofB ps[k].x PX = false := by simpa using hof
            refine zai 1 (by simp only [holes, List.cons_append, List.nil_append]; exact rfl) ?_
            refine zad ?_
            refine zab rfl rfl rfl (op_ixl rfl ar47 (ev1 rfl) (ev1 rfl) (fun _ => by omega)) ?_
            refine zab rfl rfl rfl (op_ldo rfl tb3 (ev1 rfl) rfl rfl) ?_
            refine zab rfl rfl rfl (zac (.inl rfl) (ev1 rfl)) ?_
            refine zab rfl rfl rfl (zaj [] [] [] rfl (ev1 rfl) (ec (ev1 rfl) (ec (ev1 rfl) en)) rfl rfl ((sof_no ps[k].x PX hno (by omega)).wk (wk_zst 2)) rfl rfl rfl rfl rfl rfl) ?_
            refine zab rfl rfl rfl (zac (.inl rfl) (ev1 rfl)) ?_
            refine zab rfl rfl rfl (op_ext rfl (ev1 rfl) rfl) ?_
            refine zab rfl rfl rfl (op_ext rfl (ev1 rfl) rfl) ?_
            refine zak rfl rfl rfl (zal 5 rfl zr24 rfl) (by simp only [upd, za, zaa]; exact rfl) ?_
            refine walk_s rfl rfl (op_stam rfl tb24 (ev1 rfl) (ev1 rfl) rfl rfl rfl rfl) (by simp only [upd, za, zaa]; exact rfl) ?_
            refine zab rfl rfl rfl (zac (.inr rfl) (ev1 rfl)) ?_
            refine zae ?_
            refine zaf ?_
            refine zai 1 (by simp only [holes, List.cons_append, List.nil_append]; exact rfl) ?_
            refine zad ?_
            refine zab rfl rfl rfl (op_ixl rfl ar47 (ev1 rfl) (ev1 rfl) (fun _ => by omega)) ?_
            refine zab rfl rfl rfl (op_ldo rfl tb3 (ev1 rfl) rfl rfl) ?_
            refine zab rfl rfl rfl (zac (.inl rfl) (ev1 rfl)) ?_
            refine zab rfl rfl rfl (op_bldD (ps := [(0, .tmp 90), (2, .tmp 91)]) rfl fl24 zr24 (ec (ev1 rfl) (ec (ev1 rfl) en)) rfl rfl rfl) ?_
            refine zak rfl rfl rfl (zal 6 rfl zr24 rfl) (by simp only [upd, za, zaa]; exact rfl) ?_
            refine walk_s rfl rfl (op_stam rfl tb24 (ev1 rfl) (ev1 rfl) rfl rfl rfl rfl) (by simp only [upd, za, zaa]; exact rfl) ?_
            refine zae ?_
            refine zaf ?_
            refine zaf ?_
            refine zad ?_
            refine zab rfl rfl rfl (op_ixl rfl ar47 (ev1 rfl) (ev1 rfl) (fun _ => by omega)) ?_
            refine zab rfl rfl rfl (op_ldo rfl tb3 (ev1 rfl) rfl rfl) ?_
            refine zab rfl rfl rfl (op_gtr rfl (ev1 rfl) (ev1 rfl)) ?_
            refine zae ?_
            refine dwp_cond rfl (fun hx0 => ?_) (fun hx0 => ?_)
            · have hx1 : 0 < ps[k].x := by simpa using hx0
              have hdv : 0 ≤ (PX.length : Int) / ps[k].x := Int.ediv_nonneg (by omega) (by omega)
              have hdv2 := Int.ediv_le_self (a := (PX.length : Int)) ps[k].x (by omega)
              refine zad ?_
              refine zab rfl rfl rfl (zac (.inl rfl) (ev1 rfl)) ?_
              refine zab rfl rfl rfl (op_len rfl sl22 (ev1 rfl)) ?_
              refine zab rfl rfl rfl (op_ixl rfl ar47 (ev1 rfl) (ev1 rfl) (fun _ => by omega)) ?_
              refine zab rfl rfl rfl (op_ldo rfl tb3 (ev1 rfl) rfl rfl) ?_
              refine zab rfl rfl rfl (op_quo' rfl (ev1 rfl) (ev1 rfl) (fun _ => ⟨by omega, by omega, IntWalk.i64_in _ (by omega)⟩)) ?_
              refine zab rfl rfl rfl (op_fa rfl fo24_1 (ev1 rfl)) ?_
              refine walk_s rfl rfl (op_stm rfl tb3 (ev1 rfl) (ev1 rfl) (fun s v h => by cases h <;> exact ⟨rfl, rfl⟩) rfl (by first | decide | exact Nat.le_of_ble_eq_true rfl | simp)) (by simp only [upd, za, zaa]; exact rfl) ?_
              refine zae ?_
              refine zaf ?_
              refine zaf ?_
              refine zad ?_
              refine zab rfl rfl rfl (op_ldmw rfl tb24 (ev1 rfl) rfl rfl) ?_
              refine zab rfl rfl rfl (zaj [] [] [] rfl (ev1 rfl) (ec (ev1 rfl) en) rfl rfl (sright_d _ _ _) rfl rfl rfl rfl rfl rfl) ?_
              refine zab rfl rfl rfl (op_not rfl (ev1 rfl)) ?_
              refine zae ?_
              refine dwp_if_t rfl (by first | (rw [right_of1 hno]; rfl) | (rw [right_of2 hx1]; rfl)) ?_
              refine zaf ?_
              refine zaf ?_
              refine zad ?_
              refine zab rfl rfl rfl (zac (.inl rfl) (ev1 rfl)) ?_
              refine zab rfl rfl rfl (op_neq rfl (ev1 rfl) (ev1 rfl)) ?_
              refine zab rfl rfl rfl (zac (.inl rfl) (ev1 rfl)) ?_
              refine zah (gd_f rfl rfl rfl) rfl rfl rfl (op_ldmw rfl tb24 (ev1 rfl) rfl rfl) ?_
              refine zah (gd_f rfl rfl rfl) rfl rfl rfl (op_build0 rfl fl24 zr24) ?_
              refine zah (gd_f rfl rfl rfl) rfl rfl rfl (zaj [] [] [] rfl (ev1 rfl) (ec (ev2 rfl) (ec (evwk (ev2 rfl) wk_s0) en)) rfl rfl (srsame_d 0 0 0 0 [] [] (by simp)) rfl rfl rfl rfl rfl rfl) ?_
              refine zah (gd_f rfl rfl rfl) rfl rfl rfl (op_not rfl (ev2 rfl)) ?_
              refine zab rfl rfl rfl (op_or rfl (ev1 rfl) (ev3 rfl id)) ?_
              refine zae ?_
              refine dwp_if_f rfl (by simp) ?_
              refine dwp_skip ?_
              refine dwp_exit ?_
              refine zad ?_
              refine zab rfl rfl rfl (op_add' rfl (ev1 rfl) (ev1 rfl) (fun _ => IntWalk.i64_in _ (by omega))) ?_
              refine zab rfl rfl rfl (zac (.inl rfl) (ev1 rfl)) ?_
              refine zae ?_
              refine ⟨k + 1, [0], by omega, by simp only []; omega, rfl, ⟨rfl, rfl, rfl, rfl, rfl, rfl, trivial⟩, ⟨rfl, trivial⟩⟩
            · have hx1 : ¬ 0 < ps[k].x := by simpa using hx0
              refine dwp_skip ?_
              refine zaf ?_
              refine zaf ?_
              refine zad ?_
              refine zab rfl rfl rfl (op_ldmw rfl tb24 (ev1 rfl) rfl rfl) ?_
              refine zab rfl rfl rfl (zaj [] [] [] rfl (ev1 rfl) (ec (ev1 rfl) en) rfl rfl (sright_d _ _ _) rfl rfl rfl rfl rfl rfl) ?_
              refine zab rfl rfl rfl (op_not rfl (ev1 rfl)) ?_
              refine zae ?_
              refine dwp_if_t rfl (by first | (rw [right_of1 hno]; rfl) | (rw [right_of2 hx1]; rfl)) ?_
              refine zaf ?_
              refine zaf ?_
              refine zad ?_
              refine zab rfl rfl rfl (zac (.inl rfl) (ev1 rfl)) ?_
              refine zab rfl rfl rfl (op_neq rfl (ev1 rfl) (ev1 rfl)) ?_
              refine zab rfl rfl rfl (zac (.inl rfl) (ev1 rfl)) ?_
              refine zah (gd_f rfl rfl rfl) rfl rfl rfl (op_ldmw rfl tb24 (ev1 rfl) rfl rfl) ?_
              refine zah (gd_f rfl rfl rfl) rfl rfl rfl (op_build0 rfl fl24 zr24) ?_
              refine zah (gd_f rfl rfl rfl) rfl rfl rfl (zaj [] [] [] rfl (ev1 rfl) (ec (ev2 rfl) (ec (evwk (ev2 rfl) wk_s0) en)) rfl rfl (srsame_d 0 0 0 0 [] [] (by simp)) rfl rfl rfl rfl rfl rfl) ?_
              refine zah (gd_f rfl rfl rfl) rfl rfl rfl (op_not rfl (ev2 rfl)) ?_
              refine zab rfl rfl rfl (op_or rfl (ev1 rfl) (ev3 rfl id)) ?_
              refine zae ?_
              refine dwp_if_f rfl (by simp) ?_
              refine dwp_skip ?_
              refine dwp_exit ?_
              refine zad ?_
              refine zab rfl rfl rfl (op_add' rfl (ev1 rfl) (ev1 rfl) (fun _ => IntWalk.i64_in _ (by omega))) ?_
              refine zab rfl rfl rfl (zac (.inl rfl) (ev1 rfl)) ?_
              refine zae ?_
              refine ⟨k + 1, [0], by omega, by simp only []; omega, rfl, ⟨rfl, rfl, rfl, rfl, rfl, rfl, trivial⟩, ⟨rfl, trivial⟩⟩
      · have hsn : (sideB ps[k].x && sideB ps[k].y) = false := by simpa using hsz
        refine zai 1 (by simp only [holes, List.cons_append, List.nil_append]; exact rfl) ?_
        refine zad ?_
        refine zab rfl rfl rfl (op_ixl rfl ar47 (ev1 rfl) (ev1 rfl) (fun _ => by omega)) ?_
        refine zab rfl rfl rfl (op_ldo rfl tb3 (ev1 rfl) rfl rfl) ?_
        refine zab rfl rfl rfl (op_ixl rfl ar47 (ev1 rfl) (ev1 rfl) (fun _ => by omega)) ?_
        refine zab rfl rfl rfl (op_ldo rfl tb3 (ev1 rfl) rfl rfl) ?_
        refine zab rfl rfl rfl (op_ldw rfl tb38 (ev1 rfl) rfl rfl) ?_
        refine zab rfl rfl rfl (zaj [] [] [] rfl (ev1 rfl) (ec (ev1 rfl) (ec (ev1 rfl) (ec (ev1 rfl) en))) rfl rfl ((snew_no ps[k].x ps[k].y c hsn).wk (wk_zst 2)) rfl rfl rfl rfl rfl rfl) ?_
        refine zab rfl rfl rfl (zac (.inl rfl) (ev1 rfl)) ?_
        refine zab rfl rfl rfl (op_ext rfl (ev1 rfl) rfl) ?_
        refine zab rfl rfl rfl (op_ext rfl (ev1 rfl) rfl) ?_
        refine zak rfl rfl rfl (zal 2 rfl zr24 rfl) (by simp only [upd, za, zaa]; exact rfl) ?_
        refine walk_s rfl rfl (op_stam rfl tb24 (ev1 rfl) (ev1 rfl) rfl rfl rfl rfl) (by simp only [upd, za, zaa]; exact rfl) ?_
        refine zab rfl rfl rfl (zac (.inr rfl) (ev1 rfl)) ?_
        refine zae ?_
        refine zaf ?_
        refine zai 1 (by simp only [holes, List.cons_append, List.nil_append]; exact rfl) ?_
        refine zad ?_
        refine zab rfl rfl rfl (op_build0 rfl fl24 zr24) ?_
        refine zak rfl rfl rfl (zal 3 rfl zr24 rfl) (by simp only [upd, za, zaa]; exact rfl) ?_
        refine walk_s rfl rfl (op_stwa rfl tb24 (ev1 rfl) (ev1 rfl) rfl rfl rfl rfl) (by simp only [upd, za, zaa]; exact rfl) ?_
        refine zab rfl rfl rfl (zac (.inr rfl) (ev1 rfl)) ?_
        refine zae ?_
        refine zaf ?_
        refine zaf ?_
        refine zad ?_
        refine zab rfl rfl rfl (op_ixl rfl ar47 (ev1 rfl) (ev1 rfl) (fun _ => by omega)) ?_
        refine zab rfl rfl rfl (op_ldo rfl tb3 (ev1 rfl) rfl rfl) ?_
        refine zab rfl rfl rfl (op_ixl rfl ar47 (ev1 rfl) (ev1 rfl) (fun _ => by omega)) ?_
        refine zab rfl rfl rfl (op_ldo rfl tb3 (ev1 rfl) rfl rfl) ?_
        refine zab rfl rfl rfl (zaj [] [] [] rfl (ev1 rfl) (ec (ev1 rfl) (ec (ev1 rfl) en)) rfl rfl (sides_d ps[k].x ps[k].y) rfl rfl rfl rfl rfl rfl) ?_
        refine zae ?_
        refine dwp_if_f rfl (hsn) ?_
        refine dwp_skip ?_
        refine zaf ?_
        refine zaf ?_
        refine zad ?_
        refine zab rfl rfl rfl (zac (.inl rfl) (ev1 rfl)) ?_
        refine zab rfl rfl rfl (zac (.inl rfl) (ev1 rfl)) ?_
        refine zab rfl rfl rfl (op_neq rfl (ev1 rfl) (ev1 rfl)) ?_
        refine zab rfl rfl rfl (zac (.inl rfl) (ev1 rfl)) ?_
        refine zah (gd_f rfl rfl rfl) rfl rfl rfl (op_ldmw rfl tb24 (ev1 rfl) rfl rfl) ?_
        refine zah (gd_f rfl rfl rfl) rfl rfl rfl (op_ldw rfl tb24 (ev1 rfl) rfl rfl) ?_
        refine zah (gd_f rfl rfl rfl) rfl rfl rfl (zaj [] [] [] rfl (ev1 rfl) (ec (ev2 rfl) (ec (evwk (ev2 rfl) wk_s0) en)) rfl rfl (srsame_d 0 0 0 0 [] [] (by simp)) rfl rfl rfl rfl rfl rfl) ?_
        refine zah (gd_f rfl rfl rfl) rfl rfl rfl (op_not rfl (ev2 rfl)) ?_
        refine zab rfl rfl rfl (op_or rfl (ev1 rfl) (ev3 rfl id)) ?_
        refine zae ?_
        refine dwp_if_f rfl (by simp) ?_
        refine dwp_skip ?_
        refine zaf ?_
        by_cases hof : ofB ps[k].x PX = true
        · obtain ⟨W2, H2, hW2, hH2, hs2⟩ := ofB_st hof
          have hm2 := hs2.w
          have hn2 := hs2.h
          refine zai 2 (by simp only [holes, List.cons_append, List.nil_append]; exact rfl) ?_
          refine zad ?_
          refine zab rfl rfl rfl (op_ixl rfl ar47 (ev1 rfl) (ev1 rfl) (fun _ => by omega)) ?_
          refine zab rfl rfl rfl (op_ldo rfl tb3 (ev1 rfl) rfl rfl) ?_
          refine zab rfl rfl rfl (zac (.inl rfl) (ev1 rfl)) ?_
          refine zak rfl rfl rfl (zaj [] [] [4] rfl (ev1 rfl) (ec (ev1 rfl) (ec (ev1 rfl) en)) rfl rfl ((by rw [hW2]; exact sof_o W2 H2 PX hs2 : DFun Try.prog 25 [.val (.int .i64 ps[k].x), .slf 4 PX.length (PX.flatMap c4)] [] (.tup [.agg [.val (.int .i64 (W2 : Int)), .val (.int .i64 (H2 : Int)), .arr 0], .val (.int .i64 0)]) [.arr 38 4 (PX).length ((PX).flatMap c4)])) rfl rfl rfl rfl rfl rfl) (by simp only [upd, za, zaa]; exact rfl) ?_
          refine zab rfl rfl rfl (zac (.inl rfl) (ev1 rfl)) ?_
          refine zab rfl rfl rfl (op_ext rfl (ev1 rfl) rfl) ?_
          refine zab rfl rfl rfl (op_ext rfl (ev1 rfl) rfl) ?_
          refine zak rfl rfl rfl (zal 5 rfl zr24 rfl) (by simp only [upd, za, zaa]; exact rfl) ?_
          refine walk_s rfl rfl (op_stam rfl tb24 (ev1 rfl) (ev1 rfl) rfl rfl rfl rfl) (by simp only [upd, za, zaa]; exact rfl) ?_
          refine zab rfl rfl rfl (zac (.inr rfl) (ev1 rfl)) ?_
          refine zae ?_
          refine zaf ?_
          refine zai 1 (by simp only [holes, List.cons_append, List.nil_append]; exact rfl) ?_
          refine zad ?_
          refine zab rfl rfl rfl (op_ixl rfl ar47 (ev1 rfl) (ev1 rfl) (fun _ => by omega)) ?_
          refine zab rfl rfl rfl (op_ldo rfl tb3 (ev1 rfl) rfl rfl) ?_
          refine zab rfl rfl rfl (zac (.inl rfl) (ev1 rfl)) ?_
          refine zab rfl rfl rfl (op_bldD (ps := [(0, .tmp 90), (2, .tmp 91)]) rfl fl24 zr24 (ec (ev1 rfl) (ec (ev1 rfl) en)) rfl rfl rfl) ?_
          refine zak rfl rfl rfl (zal 6 rfl zr24 rfl) (by simp only [upd, za, zaa]; exact rfl) ?_
          refine walk_s rfl rfl (op_stam rfl tb24 (ev1 rfl) (ev1 rfl) rfl rfl rfl rfl) (by simp only [upd, za, zaa]; exact rfl) ?_
          refine zae ?_
          refine zaf ?_
          refine zaf ?_
          refine zad ?_
          refine zab rfl rfl rfl (op_ixl rfl ar47 (ev1 rfl) (ev1 rfl) (fun _ => by omega)) ?_
          refine zab rfl rfl rfl (op_ldo rfl tb3 (ev1 rfl) rfl rfl) ?_
          refine zab rfl rfl rfl (op_gtr rfl (ev1 rfl) (ev1 rfl)) ?_
          refine zae ?_
          refine dwp_if_t rfl (by simp; omega) ?_
          refine zad ?_
          refine zab rfl rfl rfl (zac (.inl rfl) (ev1 rfl)) ?_
          refine zab rfl rfl rfl (op_len rfl sl22 (ev1 rfl)) ?_
          refine zab rfl rfl rfl (op_ixl rfl ar47 (ev1 rfl) (ev1 rfl) (fun _ => by omega)) ?_
          refine zab rfl rfl rfl (op_ldo rfl tb3 (ev1 rfl) rfl rfl) ?_
          refine zab rfl rfl rfl (op_quo' rfl (ev1 rfl) (ev1 rfl) (fun _ => ⟨by omega, by omega, by rw [hH2]; exact IntWalk.i64_in _ (by omega)⟩)) ?_
          refine zab rfl rfl rfl (op_fa rfl fo24_1 (ev1 rfl)) ?_
          refine walk_s rfl rfl (op_stm rfl tb3 (ev1 rfl) (ev1 rfl) (fun s v h => by cases h <;> exact ⟨rfl, rfl⟩) rfl (by first | decide | exact Nat.le_of_ble_eq_true rfl | simp)) (by simp only [upd, za, zaa]; exact rfl) ?_
          refine zae ?_
          refine zaf ?_
          refine zaf ?_
          refine zad ?_
          refine zab rfl rfl rfl (op_ldmw rfl tb24 (ev1 rfl) rfl rfl) ?_
          refine zab rfl rfl rfl (zaj [] [] [] rfl (ev1 rfl) (ec (ev1 rfl) en) rfl rfl (sright_d _ _ _) rfl rfl rfl rfl rfl rfl) ?_
          refine zab rfl rfl rfl (op_not rfl (ev1 rfl)) ?_
          refine zae ?_
          refine dwp_if_f rfl (by rw [hH2, hW2, hs2.right]; rfl) ?_
          refine dwp_skip ?_
          refine zaf ?_
          refine zaf ?_
          refine zad ?_
          refine zab rfl rfl rfl (zac (.inl rfl) (ev1 rfl)) ?_
          refine zab rfl rfl rfl (op_neq rfl (ev1 rfl) (ev1 rfl)) ?_
          refine zab rfl rfl rfl (zac (.inl rfl) (ev1 rfl)) ?_
          refine zah (gd_f rfl rfl rfl) rfl rfl rfl (op_ldmw rfl tb24 (ev1 rfl) rfl rfl) ?_
          refine zah (gd_f rfl rfl rfl) rfl rfl rfl (op_ldmw rfl tb24 (ev1 rfl) rfl rfl) ?_
          refine zah (gd_f rfl rfl rfl) rfl rfl rfl (zaj [] [4] [] rfl (ev1 rfl) (ec (ev2 rfl) (ec (ev2 rfl) en)) rfl rfl (srsame_d _ _ _ _ PX PX (by omega)) rfl rfl rfl rfl rfl rfl) ?_
          refine zah (gd_f rfl rfl rfl) rfl rfl rfl (op_not rfl (ev2 rfl)) ?_
          refine zab rfl rfl rfl (op_or rfl (ev1 rfl) (ev3 rfl id)) ?_
          refine zae ?_
          refine dwp_if_f rfl (by rw [hH2, hW2]; simp) ?_
          refine dwp_skip ?_
          refine zaf ?_
          refine zaf ?_
          refine zad ?_
          refine zab rfl rfl rfl (op_fa rfl fo24_2 (ev1 rfl)) ?_
          refine zab rfl rfl rfl (op_ldm rfl tb22 (ev1 rfl) rfl rfl) ?_
          refine zab rfl rfl rfl (op_lena rfl sl22 (ev1 rfl) rfl) ?_
          refine zab rfl rfl rfl (zac (.inl rfl) (ev1 rfl)) ?_
          refine zae ?_
          refine dwp_block ?_
          refine dwp_loopS ⟨hs0, rfl⟩ (α := Nat × List C4) (fun x => [(124, .val (.int .i64 (x.1 : Int)))]) [(2, _), (4, _), (7, _), (15, _), (26, _), (27, _), (28, _), (123, _)] (fun x => [(4, .arr 38 4 PX.length (x.2.flatMap c4))]) [_, _, _, _, .hole, _, _] (fun x => x.1 ≤ PX.length ∧ x.2.length = PX.length) (fun x => PX.length - x.1) (0, PX) [0, 1, 2, 3, 4, 5, 6] (⟨Nat.zero_le _, rfl⟩) rfl ⟨rfl, rfl, rfl, rfl, rfl, rfl, rfl, rfl, trivial⟩ ⟨rfl, trivial⟩ ⟨rfl, rfl, rfl, rfl, rfl, rfl, rfl, trivial⟩ ?_
          intro x hx
          simp only [upd, za, zaa, List.cons_append, List.nil_append]
          obtain ⟨k2, V⟩ := x
          obtain ⟨hk2, hV⟩ := hx
          dsimp only at hk2 hV ⊢
          refine zaf ?_
          refine zad ?_
          refine zab rfl rfl rfl (op_lss rfl (ev1 rfl) (ev1 rfl)) ?_
          refine zae ?_
          refine zaf ?_
          refine dwp_cond rfl (fun c22 => ?_) (fun c22 => ?_)
          · try simp only [yg, ya, beq_iff_eq, bne_iff_ne, yb, yc, yf, ye, yh, yi, yd, ne_eq, yj, Int.not_lt, Int.not_le] at c22
            refine dwp_skip ?_
            refine zaf ?_
            refine dwp_block ?_
            refine zaf ?_
            refine zad ?_
            refine zab rfl rfl rfl (zac (.inl rfl) (ev1 rfl)) ?_
            refine zab rfl rfl rfl (zac (.inr rfl) (ev1 rfl)) ?_
            refine zae ?_
            refine zad ?_
            refine zab rfl rfl rfl (op_fa rfl fo24_2 (ev1 rfl)) ?_
            refine zab rfl rfl rfl (op_ldm rfl tb22 (ev1 rfl) rfl rfl) ?_
            refine zab rfl rfl rfl (zac (.inl rfl) (ev1 rfl)) ?_
            refine zab rfl rfl rfl (op_ixar (j := k2) rfl sl22 (ev1 rfl) (ev1 rfl) rfl (fun _ => by first | rfl | omega) (fun _ => by omega)) ?_
            refine zab rfl rfl rfl (op_faa rfl fo38_0 (ev1 rfl)) ?_
            refine zab rfl rfl rfl (op_ldoa rfl tb5 (ev1 rfl) rfl (get_cr (q := k2) (by omega))) ?_
            refine zab rfl rfl rfl (op_add rfl (ev1 rfl) (ev1 rfl)) ?_
            refine zab rfl rfl rfl (op_ixar (j := k2) rfl sl22 (ev1 rfl) (ev1 rfl) rfl (fun _ => by first | rfl | omega) (fun _ => by omega)) ?_
            refine zab rfl rfl rfl (op_faa rfl fo38_0 (ev1 rfl)) ?_
            refine walk_s rfl rfl (op_sta rfl tb5 (ev1 rfl) (ev1 rfl) rfl rfl rfl (by rfl) (by rw [flat_len c4_len]; simp [Value.cells]; omega) (setL_cr (q := k2) (by omega))) (by simp only [upd, za, zaa]; exact rfl) ?_
            refine zae ?_
            refine zad ?_
            refine zab rfl rfl rfl (op_add' rfl (ev1 rfl) (ev1 rfl) (fun _ => IntWalk.i64_in _ (by omega))) ?_
            refine zab rfl rfl rfl (zac (.inl rfl) (ev1 rfl)) ?_
            refine zae ?_
            refine ⟨(k2 + 1, V.set k2 { V.getD k2 zC4 with r := IntKind.u8.wrap ((V.getD k2 zC4).r + 1) }), [0, 1, 2, 3, 4, 5, 6], ⟨by dsimp only; omega, by dsimp only; rw [List.length_set]; exact hV⟩, by dsimp only; omega, rfl, ⟨rfl, rfl, rfl, rfl, rfl, rfl, rfl, rfl, rfl, trivial⟩, ⟨rfl, rfl, rfl, rfl, rfl, rfl, rfl, trivial⟩⟩
          · try simp only [yg, ya, beq_iff_eq, bne_iff_ne, yb, yc, yf, ye, yh, yi, yd, ne_eq, yj, Int.not_lt, Int.not_le] at c22
            refine dwp_exit ?_
            refine zaf ?_
            refine zad ?_
            refine zab rfl rfl rfl (zac (.inl rfl) (ev1 rfl)) ?_
            refine zab rfl rfl rfl (zac (.inl rfl) (ev1 rfl)) ?_
            refine zab rfl rfl rfl (zac (.inl rfl) (ev1 rfl)) ?_
            refine zab rfl rfl rfl (op_len rfl sl22 (ev1 rfl)) ?_
            refine zab rfl rfl rfl (op_sltk (j := PX.length) rfl sl22 (ev1 rfl) (bd_some (ev1 rfl)) (fun _ => by omega) (fun _ => by omega) (fun _ => rfl)) ?_
            refine zab rfl rfl rfl (zaj [] [] [] rfl (ev1 rfl) (ec (ev1 rfl) (ec (ev1 rfl) en)) rfl rfl (equalC PX (l.take PX.length)) rfl rfl rfl rfl rfl rfl) ?_
            refine zab rfl rfl rfl (op_not rfl (ev1 rfl)) ?_
            refine zae ?_
            refine dwp_if_f rfl (by simp [hPt]) ?_
            refine dwp_skip ?_
            refine zad ?_
            refine zab rfl rfl rfl (op_add' rfl (ev1 rfl) (ev1 rfl) (fun _ => IntWalk.i64_in _ (by omega))) ?_
            refine zab rfl rfl rfl (zac (.inl rfl) (ev1 rfl)) ?_
            refine zae ?_
            refine ⟨k + 1, [0], by omega, by simp only []; omega, rfl, ⟨rfl, rfl, rfl, rfl, rfl, rfl, trivial⟩, ⟨rfl, trivial⟩⟩
        · have hno : ofB ps[k].x PX = false := by simpa using hof
          refine zai 1 (by simp only [holes, List.cons_append, List.nil_append]; exact rfl) ?_
          refine zad ?_
          refine zab rfl rfl rfl (op_ixl rfl ar47 (ev1 rfl) (ev1 rfl) (fun _ => by omega)) ?_
          refine zab rfl rfl rfl (op_ldo rfl tb3 (ev1 rfl) rfl rfl) ?_
          refine zab rfl rfl rfl (zac (.inl rfl) (ev1 rfl)) ?_
          refine zab rfl rfl rfl (zaj [] [] [] rfl (ev1 rfl) (ec (ev1 rfl) (ec (ev1 rfl) en)) rfl rfl ((sof_no ps[k].x PX hno (by omega)).wk (wk_zst 2)) rfl rfl rfl rfl rfl rfl) ?_
          refine zab rfl rfl rfl (zac (.inl rfl) (ev1 rfl)) ?_
          refine zab rfl rfl rfl (op_ext rfl (ev1 rfl) rfl) ?_
          refine zab rfl rfl rfl (op_ext rfl (ev1 rfl) rfl) ?_
          refine zak rfl rfl rfl (zal 4 rfl zr24 rfl) (by simp only [upd, za, zaa]; exact rfl) ?_
          refine walk_s rfl rfl (op_stam rfl tb24 (ev1 rfl) (ev1 rfl) rfl rfl rfl rfl) (by simp only [upd, za, zaa]; exact rfl) ?_
          refine zab rfl rfl rfl (zac (.inr rfl) (ev1 rfl)) ?_
          refine zae ?_
          refine zaf ?_
          refine zai 1 (by simp only [holes, List.cons_append, List.nil_append]; exact rfl) ?_
          refine zad ?_
          refine zab rfl rfl rfl (op_ixl rfl ar47 (ev1 rfl) (ev1 rfl) (fun _ => by omega)) ?_
          refine zab rfl rfl rfl (op_ldo rfl tb3 (ev1 rfl) rfl rfl) ?_
          refine zab rfl rfl rfl (zac (.inl rfl) (ev1 rfl)) ?_
          refine zab rfl rfl rfl (op_bldD (ps := [(0, .tmp 90), (2, .tmp 91)]) rfl fl24 zr24 (ec (ev1 rfl) (ec (ev1 rfl) en)) rfl rfl rfl) ?_
          refine zak rfl rfl rfl (zal 5 rfl zr24 rfl) (by simp only [upd, za, zaa]; exact rfl) ?_
          refine walk_s rfl rfl (op_stam rfl tb24 (ev1 rfl) (ev1 rfl) rfl rfl rfl rfl) (by simp only [upd, za, zaa]; exact rfl) ?_
          refine zae ?_
          refine zaf ?_
          refine zaf ?_
          refine zad ?_
          refine zab rfl rfl rfl (op_ixl rfl ar47 (ev1 rfl) (ev1 rfl) (fun _ => by omega)) ?_
          refine zab rfl rfl rfl (op_ldo rfl tb3 (ev1 rfl) rfl rfl) ?_
          refine zab rfl rfl rfl (op_gtr rfl (ev1 rfl) (ev1 rfl)) ?_
          refine zae ?_
          refine dwp_cond rfl (fun hx0 => ?_) (fun hx0 => ?_)
          · have hx1 : 0 < ps[k].x := by simpa using hx0
            have hdv : 0 ≤ (PX.length : Int) / ps[k].x := Int.ediv_nonneg (by omega) (by omega)
            have hdv2 := Int.ediv_le_self (a := (PX.length : Int)) ps[k].x (by omega)
            refine zad ?_
            refine zab rfl rfl rfl (zac (.inl rfl) (ev1 rfl)) ?_
            refine zab rfl rfl rfl (op_len rfl sl22 (ev1 rfl)) ?_
            refine zab rfl rfl rfl (op_ixl rfl ar47 (ev1 rfl) (ev1 rfl) (fun _ => by omega)) ?_
            refine zab rfl rfl rfl (op_ldo rfl tb3 (ev1 rfl) rfl rfl) ?_
            refine zab rfl rfl rfl (op_quo' rfl (ev1 rfl) (ev1 rfl) (fun _ => ⟨by omega, by omega, IntWalk.i64_in _ (by omega)⟩)) ?_
            refine zab rfl rfl rfl (op_fa rfl fo24_1 (ev1 rfl)) ?_
            refine walk_s rfl rfl (op_stm rfl tb3 (ev1 rfl) (ev1 rfl) (fun s v h => by cases h <;> exact ⟨rfl, rfl⟩) rfl (by first | decide | exact Nat.le_of_ble_eq_true rfl | simp)) (by simp only [upd, za, zaa]; exact rfl) ?_
            refine zae ?_
            refine zaf ?_
            refine zaf ?_
            refine zad ?_
            refine zab rfl rfl rfl (op_ldmw rfl tb24 (ev1 rfl) rfl rfl) ?_
            refine zab rfl rfl rfl (zaj [] [] [] rfl (ev1 rfl) (ec (ev1 rfl) en) rfl rfl (sright_d _ _ _) rfl rfl rfl rfl rfl rfl) ?_
            refine zab rfl rfl rfl (op_not rfl (ev1 rfl)) ?_
            refine zae ?_
            refine dwp_if_t rfl (by first | (rw [right_of1 hno]; rfl) | (rw [right_of2 hx1]; rfl)) ?_
            refine zaf ?_
            refine zaf ?_
            refine zad ?_
            refine zab rfl rfl rfl (zac (.inl rfl) (ev1 rfl)) ?_
            refine zab rfl rfl rfl (op_neq rfl (ev1 rfl) (ev1 rfl)) ?_
            refine zab rfl rfl rfl (zac (.inl rfl) (ev1 rfl)) ?_
            refine zah (gd_f rfl rfl rfl) rfl rfl rfl (op_ldmw rfl tb24 (ev1 rfl) rfl rfl) ?_
            refine zah (gd_f rfl rfl rfl) rfl rfl rfl (op_build0 rfl fl24 zr24) ?_
            refine zah (gd_f rfl rfl rfl) rfl rfl rfl (zaj [] [] [] rfl (ev1 rfl) (ec (ev2 rfl) (ec (evwk (ev2 rfl) wk_s0) en)) rfl rfl (srsame_d 0 0 0 0 [] [] (by simp)) rfl rfl rfl rfl rfl rfl) ?_
            refine zah (gd_f rfl rfl rfl) rfl rfl rfl (op_not rfl (ev2 rfl)) ?_
            refine zab rfl rfl rfl (op_or rfl (ev1 rfl) (ev3 rfl id)) ?_
            refine zae ?_
            refine dwp_if_f rfl (by simp) ?_
            refine dwp_skip ?_
            refine dwp_exit ?_
            refine zad ?_
            refine zab rfl rfl rfl (op_add' rfl (ev1 rfl) (ev1 rfl) (fun _ => IntWalk.i64_in _ (by omega))) ?_
            refine zab rfl rfl rfl (zac (.inl rfl) (ev1 rfl)) ?_
            refine zae ?_
            refine ⟨k + 1, [0], by omega, by simp only []; omega, rfl, ⟨rfl, rfl, rfl, rfl, rfl, rfl, trivial⟩, ⟨rfl, trivial⟩⟩
          · have hx1 : ¬ 0 < ps[k].x := by simpa using hx0
            refine dwp_skip ?_
            refine zaf ?_
            refine zaf ?_
            refine zad ?_
            refine zab rfl rfl rfl (op_ldmw rfl tb24 (ev1 rfl) rfl rfl) ?_
            refine zab rfl rfl rfl (zaj [] [] [] rfl (ev1 rfl) (ec (ev1 rfl) en) rfl rfl (sright_d _ _ _) rfl rfl rfl rfl rfl rfl) ?_
            refine zab rfl rfl rfl (op_not rfl (ev1 rfl)) ?_
            refine zae ?_
            refine dwp_if_t rfl (by first | (rw [right_of1 hno]; rfl) | (rw [right_of2 hx1]; rfl)) ?_
            refine zaf ?_
            refine zaf ?_
            refine zad ?_
            refine zab rfl rfl rfl (zac (.inl rfl) (ev1 rfl)) ?_
            refine zab rfl rfl rfl (op_neq rfl (ev1 rfl) (ev1 rfl)) ?_
            refine zab rfl rfl rfl (zac (.inl rfl) (ev1 rfl)) ?_
            refine zah (gd_f rfl rfl rfl) rfl rfl rfl (op_ldmw rfl tb24 (ev1 rfl) rfl rfl) ?_
            refine zah (gd_f rfl rfl rfl) rfl rfl rfl (op_build0 rfl fl24 zr24) ?_
            refine zah (gd_f rfl rfl rfl) rfl rfl rfl (zaj [] [] [] rfl (ev1 rfl) (ec (ev2 rfl) (ec (evwk (ev2 rfl) wk_s0) en)) rfl rfl (srsame_d 0 0 0 0 [] [] (by simp)) rfl rfl rfl rfl rfl rfl) ?_
            refine zah (gd_f rfl rfl rfl) rfl rfl rfl (op_not rfl (ev2 rfl)) ?_
            refine zab rfl rfl rfl (op_or rfl (ev1 rfl) (ev3 rfl id)) ?_
            refine zae ?_
            refine dwp_if_f rfl (by simp) ?_
            refine dwp_skip ?_
            refine dwp_exit ?_
            refine zad ?_
            refine zab rfl rfl rfl (op_add' rfl (ev1 rfl) (ev1 rfl) (fun _ => IntWalk.i64_in _ (by omega))) ?_
            refine zab rfl rfl rfl (zac (.inl rfl) (ev1 rfl)) ?_
            refine zae ?_
            refine ⟨k + 1, [0], by omega, by simp only []; omega, rfl, ⟨rfl, rfl, rfl, rfl, rfl, rfl, trivial⟩, ⟨rfl, trivial⟩⟩
  · try simp only [yg, ya, beq_iff_eq, bne_iff_ne, yb, yc, yf, ye, yh, yi, yd, ne_eq, yj, Int.not_lt, Int.not_le] at c2
    refine dwp_exit ?_
    refine zaf ?_
    refine zad ?_
    refine zab rfl rfl rfl (zac (.inr rfl) (ev1 rfl)) ?_
    refine zae ?_
    refine dwp_ret ?_
    refine kend0 (rs1 rfl (rv_t rfl)) rfl ?_
    first | rfl | simp
end Go.Proofs.Ytadjbiccndaclaa
