/- Operations: numbers, bools, structs, memory that is read and written. Conditions: what a type is, by the kernel; Operations that make memory, and write it. Conditions: what a type is, by the kernel; Operations on slices: made, cut, grown; tuples; function values; structs. Conditions: what a type is, by the kernel; Ends of calls; structs built; bools and strings compared; least and greatest; slices taken over, and given up. Conditions: what a type is, by the kernel; Functions that are deferred: a body up to there; closures that recover; results in cells; Loops over functions: rounds, calls of yield, the loop itself; Scopes; slices beside nil; rows of one's own, element by element. Conditions: what a type is, by the kernel; Structs and arrays compared, cell by cell. Conditions: what a type is, by the kernel; Codes within a function; a loop's rounds one by one; strings; Strings: put togethe. No condition. -/
import Derived.Test.YtmpodnadoebclaaQ1
import Derived.Deep.MidRow
import Derived.Laws.MakeOwn
import Derived.IntWalk
import Derived.Laws.OwnMore
import Derived.OwnWalk
import Derived.Recover
import Derived.RangeFuncIn
import Derived.Laws.Pointers
import Derived.Laws.StructEq
import Derived.Test.YtmpodnadoebclaaRows
import Derived.LaidMore
import Derived.Handed
import Derived.LaidHandle
import Derived.Stop.Joined
import Derived.Laws.IdiomCopy
import Derived.Laws.LoneSync
namespace Go.Proofs.Ytmpodnadoebclaa
set_option linter.unusedVariables false
set_option linter.unusedSimpArgs false
open Go.RowKit

/-! ### what a type is -/
/-- a struct or an array? how many cells? -/
def tyB (P : Program) (T : TypeId) : Option (Bool × Nat) := match P.underlying T, P.info? T with
  | some d, some i => some (d.isRow, i.size)
  | _, _ => none
/-- a slice's element: its type, cells, bytes -/
def slE (P : Program) (T : TypeId) : Option (TypeId × Nat × Nat) := match P.underlying T with
  | some (.slice e) => (P.info? e).map fun i => (e, i.size, i.bytes)
  | _ => none
/-- an array's length, and its element's cells -/
def arE (P : Program) (T : TypeId) : Option (Nat × Nat) := match P.underlying T with
  | some (.array n e) => (P.info? e).map fun i => (n, i.size)
  | _ => none
/-- where a field that has cells stands -/
def fdO (P : Program) (T : TypeId) (f : Nat) : Option Nat := match P.underlying T with
  | some (.struct fs) => (fs[f]?).bind fun d => (P.info? d.type).bind fun i => if i.size = 0 then none else some d.offset
  | _ => none
def zrC (P : Program) (T : TypeId) : Option (List Value) := (P.info? T).bind fun i => i.zero.map fun z => z.cells.toList
def knd (P : Program) (T : TypeId) : Option IntKind := match P.underlying T with
  | some (.int k) => some k
  | _ => none
theorem tyB_spec {P : Program} {T : TypeId} {b : Bool} {k : Nat} (h : tyB P T = some (b, k)) : ∃ d i, P.underlying T = some d ∧ P.info? T = some i ∧ d.isRow = b ∧ i.size = k := by
  unfold tyB at h
  split at h
  · rename_i d i h1 h2
    simp only [Option.some.injEq, Prod.mk.injEq] at h
    exact ⟨d, i, h1, h2, h.1, h.2⟩
  · cases h
theorem slE_spec {P : Program} {T e : TypeId} {sz by' : Nat} (h : slE P T = some (e, sz, by')) : P.underlying T = some (.slice e) ∧ ∃ i, P.info? e = some i ∧ i.size = sz ∧ i.bytes = by' := by
  unfold slE at h
  split at h
  · rename_i e' h1
    simp only [Option.map_eq_some_iff, Prod.mk.injEq] at h
    obtain ⟨i, h2, rfl, h3, h4⟩ := h
    exact ⟨h1, i, h2, h3, h4⟩
  · cases h
theorem arE_spec {P : Program} {T : TypeId} {n sz : Nat} (h : arE P T = some (n, sz)) : ∃ e i, P.underlying T = some (.array n e) ∧ P.info? e = some i ∧ i.size = sz := by
  unfold arE at h
  split at h
  · rename_i m e' h1
    simp only [Option.map_eq_some_iff, Prod.mk.injEq] at h
    obtain ⟨i, h2, rfl, h3⟩ := h
    exact ⟨e', i, h1, h2, h3⟩
  · cases h
section
variable {P : Program} {pc : Bool} {o : Oper} {F : Fr} {M : List Blk}
theorem run_v {s : Sem Value} {w w' : World} {v : Value} (h : s.run P w = .ok v w') : (do pure (Next.value (← s)) : Sem Next).run P w = .ok (.value v) w' := by
  simp only [Sem.run_bind, h, Result.andThen_ok, Sem.run_pure]
theorem run_u {s : Sem Unit} {w w' : World} (h : s.run P w = .ok () w') : (do s; pure Next.skip : Sem Next).run P w = .ok .skip w' := by
  simp only [Sem.run_bind, h, Result.andThen_ok, Sem.run_pure]
/-- an operand's value, where an operation stands -/
theorem ev_at {x : Operand} {d : D} {a : Act} {s : St} (hp : pc = true) (hx : Ev pc F x d) (hm : x ∈ o.op.operands) (hops : ∀ x ∈ o.op.operands, ∀ d, ev F x = some d → Rep s d (a.eval x)) : Rep s d (a.eval x) := by
  obtain ⟨d', e1, e2⟩ := hx
  exact e2 s _ hp (hops x hm d' e1)
theorem dg_val {a : Act} {s : St} {d : D} {v : Value} (ho : Ok s) (h : (execOp a.eval o).run P s.w = .ok (.value v) s.w) (hr : Rep s d v) : DGives P s (fun s' v => s'.M = upd s.M [] ∧ Rep s' d v) ((execOp a.eval o).run P s.w) := by
  rw [h]; exact ⟨s, rfl, Tr.refl ho, rfl, hr⟩
/-- it takes a value over -/
theorem zac {x : Operand} {d : D} (ho : o.op = .move x ∨ o.op = .assign x) (hx : Ev pc F x d) : DOp P pc o F M [] d [] := by
  intro hp a s hok hops _
  have hm : x ∈ o.op.operands := by rcases ho with h | h <;> simp [h, Op.operands]
  refine dg_val hok ?_ (ev_at hp hx hm hops)
  unfold execOp
  rcases ho with h | h <;> simp only [h] <;> rfl
theorem op_and {c x : Operand} {y p : Bool} (ho : o.op = .pick c x (.const (.bool false))) (hc : Ev pc F c (.val (.bool y))) (hx : Ev (pc && y) F x (.val (.bool p))) : DOp P pc o F M [] (.val (.bool (y && p))) [] := by
  intro hp a s hok hops _
  have h1 := (ev_at hp hc (by simp [ho, Op.operands]) hops).val_eq
  refine dg_val (v := .bool (y && p)) hok ?_ (.val _)
  cases y with
  | false => unfold execOp; simp only [ho, h1, asBool]; rfl
  | true =>
    have h2 := (ev_at (by simp [hp]) hx (by simp [ho, Op.operands]) hops).val_eq
    unfold execOp
    simp only [ho, h1, h2, asBool]
    rfl
theorem op_or {c x : Operand} {y p : Bool} (ho : o.op = .pick c (.const (.bool true)) x) (hc : Ev pc F c (.val (.bool y))) (hx : Ev (pc && !y) F x (.val (.bool p))) : DOp P pc o F M [] (.val (.bool (y || p))) [] := by
  intro hp a s hok hops _
  have h1 := (ev_at hp hc (by simp [ho, Op.operands]) hops).val_eq
  refine dg_val (v := .bool (y || p)) hok ?_ (.val _)
  cases y with
  | true => unfold execOp; simp only [ho, h1, asBool]; rfl
  | false =>
    have h2 := (ev_at (by simp [hp]) hx (by simp [ho, Op.operands]) hops).val_eq
    unfold execOp
    simp only [ho, h1, h2, asBool]
    rfl

/-! ### numbers -/
theorem int_bin {op : BinOp} {T T' : TypeId} {x y : Operand} {k : IntKind} {p q : Int} {r : Value} (ho : o.op = .binOp op T x y T') (hx : Ev pc F x (.val (.int k p))) (hy : Ev pc F y (.val (.int k q)))
    (hr : ∀ w, (eqGuard op T x y (.int k p) (.int k q)).run P w = .ok () w ∧ (binOp op T (.int k p) (.int k q)).run P w = .ok r w) : DOp P pc o F M [] (.val r) [] := by
  intro hp a s hok hops _
  have h1 := (ev_at hp hx (by simp [ho, Op.operands]) hops).val_eq
  have h2 := (ev_at hp hy (by simp [ho, Op.operands]) hops).val_eq
  refine dg_val (v := r) hok ?_ (.val _)
  unfold execOp
  simp only [ho, h1, h2]
  refine run_v ?_
  rw [Sem.run_bind, (hr s.w).1, Result.andThen_ok]
  exact (hr s.w).2
theorem guard_int (op : BinOp) (T : TypeId) (x y : Operand) (k : IntKind) (p q : Int) (w : World) : (eqGuard op T x y (.int k p) (.int k q)).run P w = .ok () w := by
  unfold eqGuard; cases op <;> rfl
section
variable {T T' : TypeId} {x y : Operand} {k : IntKind} {p q : Int}
theorem op_add (ho : o.op = .binOp .add T x y T') (hx : Ev pc F x (.val (.int k p))) (hy : Ev pc F y (.val (.int k q))) : DOp P pc o F M [] (.val (.int k (k.wrap (p + q)))) [] := int_bin ho hx hy fun w => ⟨guard_int .., by simp [binOp, Op.intArith]⟩
theorem op_sub (ho : o.op = .binOp .sub T x y T') (hx : Ev pc F x (.val (.int k p))) (hy : Ev pc F y (.val (.int k q))) : DOp P pc o F M [] (.val (.int k (k.wrap (p - q)))) [] := int_bin ho hx hy fun w => ⟨guard_int .., by simp [binOp, Op.intArith]⟩
theorem op_mul (ho : o.op = .binOp .mul T x y T') (hx : Ev pc F x (.val (.int k p))) (hy : Ev pc F y (.val (.int k q))) : DOp P pc o F M [] (.val (.int k (k.wrap (p * q)))) [] := int_bin ho hx hy fun w => ⟨guard_int .., by simp [binOp, Op.intArith]⟩
/-- .. with no wrap -/
theorem op_add' (ho : o.op = .binOp .add T x y T') (hx : Ev pc F x (.val (.int k p))) (hy : Ev pc F y (.val (.int k q))) (h : pc = true → k.wrap (p + q) = p + q) : DOp P pc o F M [] (.val (.int k (p + q))) [] := fun hp => by
  have := op_add (P := P) (M := M) ho hx hy hp; rwa [h hp] at this
theorem op_sub' (ho : o.op = .binOp .sub T x y T') (hx : Ev pc F x (.val (.int k p))) (hy : Ev pc F y (.val (.int k q))) (h : pc = true → k.wrap (p - q) = p - q) : DOp P pc o F M [] (.val (.int k (p - q))) [] := fun hp => by
  have := op_sub (P := P) (M := M) ho hx hy hp; rwa [h hp] at this
theorem op_mul' (ho : o.op = .binOp .mul T x y T') (hx : Ev pc F x (.val (.int k p))) (hy : Ev pc F y (.val (.int k q))) (h : pc = true → k.wrap (p * q) = p * q) : DOp P pc o F M [] (.val (.int k (p * q))) [] := fun hp => by
  have := op_mul (P := P) (M := M) ho hx hy hp; rwa [h hp] at this
theorem op_lss (ho : o.op = .binOp .lss T x y T') (hx : Ev pc F x (.val (.int k p))) (hy : Ev pc F y (.val (.int k q))) : DOp P pc o F M [] (.val (.bool (decide (p < q)))) [] := int_bin ho hx hy fun w => ⟨guard_int .., by simp [binOp, Op.intCmp]⟩
theorem op_leq (ho : o.op = .binOp .leq T x y T') (hx : Ev pc F x (.val (.int k p))) (hy : Ev pc F y (.val (.int k q))) : DOp P pc o F M [] (.val (.bool (decide (p ≤ q)))) [] := int_bin ho hx hy fun w => ⟨guard_int .., by simp [binOp, Op.intCmp]⟩
theorem op_gtr (ho : o.op = .binOp .gtr T x y T') (hx : Ev pc F x (.val (.int k p))) (hy : Ev pc F y (.val (.int k q))) : DOp P pc o F M [] (.val (.bool (decide (q < p)))) [] := int_bin ho hx hy fun w => ⟨guard_int .., by simp [binOp, Op.intCmp]⟩
theorem op_geq (ho : o.op = .binOp .geq T x y T') (hx : Ev pc F x (.val (.int k p))) (hy : Ev pc F y (.val (.int k q))) : DOp P pc o F M [] (.val (.bool (decide (q ≤ p)))) [] := int_bin ho hx hy fun w => ⟨guard_int .., by simp [binOp, Op.intCmp]⟩
theorem op_eql (ho : o.op = .binOp .eql T x y T') (hx : Ev pc F x (.val (.int k p))) (hy : Ev pc F y (.val (.int k q))) : DOp P pc o F M [] (.val (.bool (p == q))) [] := int_bin ho hx hy fun w => ⟨guard_int .., by simp [binOp, Op.intCmp]⟩
theorem op_neq (ho : o.op = .binOp .neq T x y T') (hx : Ev pc F x (.val (.int k p))) (hy : Ev pc F y (.val (.int k q))) : DOp P pc o F M [] (.val (.bool (p != q))) [] := int_bin ho hx hy fun w => ⟨guard_int .., by simp [binOp, Op.intCmp]⟩
theorem op_quo (ho : o.op = .binOp .quo T x y T') (hx : Ev pc F x (.val (.int k p))) (hy : Ev pc F y (.val (.int k q))) (h0 : pc = true → q ≠ 0) : DOp P pc o F M [] (.val (.int k (k.wrap (p.tdiv q)))) [] :=
  fun hp => int_bin ho hx hy (fun w => ⟨guard_int .., by have := h0 hp; simp [binOp, Op.intDiv, this]⟩) hp
theorem op_rem (ho : o.op = .binOp .rem T x y T') (hx : Ev pc F x (.val (.int k p))) (hy : Ev pc F y (.val (.int k q))) (h0 : pc = true → q ≠ 0) : DOp P pc o F M [] (.val (.int k (p.tmod q))) [] :=
  fun hp => int_bin ho hx hy (fun w => ⟨guard_int .., by have := h0 hp; simp [binOp, Op.intDiv, this]⟩) hp
theorem op_quo' (ho : o.op = .binOp .quo T x y T') (hx : Ev pc F x (.val (.int k p))) (hy : Ev pc F y (.val (.int k q))) (h0 : pc = true → 0 < q ∧ 0 ≤ p ∧ k.wrap (p / q) = p / q) : DOp P pc o F M [] (.val (.int k (p / q))) [] := fun hp => by
  obtain ⟨h1, h2, h3⟩ := h0 hp
  have := op_quo (P := P) (M := M) ho hx hy (fun _ => by omega) hp
  rwa [Int.tdiv_eq_ediv_of_nonneg h2, h3] at this
theorem op_rem' (ho : o.op = .binOp .rem T x y T') (hx : Ev pc F x (.val (.int k p))) (hy : Ev pc F y (.val (.int k q))) (h0 : pc = true → q ≠ 0 ∧ 0 ≤ p) : DOp P pc o F M [] (.val (.int k (p % q))) [] := fun hp => by
  obtain ⟨h1, h2⟩ := h0 hp
  have := op_rem (P := P) (M := M) ho hx hy (fun _ => h1) hp
  rwa [Int.tmod_eq_emod_of_nonneg h2] at this
end
theorem op_not {T : TypeId} {x : Operand} {b : Bool} (ho : o.op = .unOp .not T x) (hx : Ev pc F x (.val (.bool b))) : DOp P pc o F M [] (.val (.bool (!b))) [] := by
  intro hp a s hok hops _
  have h1 := (ev_at hp hx (by simp [ho, Op.operands]) hops).val_eq
  refine dg_val (v := .bool (!b)) hok ?_ (.val _)
  unfold execOp
  simp only [ho, h1]
  exact run_v (by simp [Op.unary])
theorem op_conv {S T : TypeId} {x : Operand} {k k' : IntKind} {p : Int} (hS : (tyB P S).isSome = true) (hT : knd P T = some k) (ho : o.op = .convert S T x) (hx : Ev pc F x (.val (.int k' p))) : DOp P pc o F M [] (.val (.int k (k.wrap p))) [] := by
  intro hp a s hok hops _
  have h1 := (ev_at hp hx (by simp [ho, Op.operands]) hops).val_eq
  refine dg_val (v := .int k (k.wrap p)) hok ?_ (.val _)
  obtain ⟨⟨b, m⟩, hS⟩ := Option.isSome_iff_exists.1 hS
  obtain ⟨d, i, e1, e2, _, _⟩ := tyB_spec hS
  have e3 : P.underlying T = some (.int k) := by
    unfold knd at hT
    split at hT
    · rename_i k' h; rw [h, Option.some.inj hT]
    · cases hT
  unfold execOp
  simp only [ho, h1]
  exact run_v (by simp [convert, run_underlying e1, run_underlying e3, Conv.intToInt])
theorem op_conv' {S T : TypeId} {x : Operand} {k k' : IntKind} {p : Int} (hS : (tyB P S).isSome = true) (hT : knd P T = some k) (ho : o.op = .convert S T x) (hx : Ev pc F x (.val (.int k' p))) (h : pc = true → k.wrap p = p) : DOp P pc o F M [] (.val (.int k p)) [] := fun hp => by
  have := op_conv (P := P) (M := M) hS hT ho hx hp; rwa [h hp] at this
theorem op_val2 {x y : Operand} {v u r : Value} (hx : Ev pc F x (.val v)) (hy : Ev pc F y (.val u)) (hm : x ∈ o.op.operands ∧ y ∈ o.op.operands) (h : pc = true → ∀ (a : Act) (w : World), a.eval x = v → a.eval y = u → (execOp a.eval o).run P w = .ok (.value r) w) : DOp P pc o F M [] (.val r) [] := by
  intro hp a s hok hops _
  have h1 := (ev_at hp hx hm.1 hops).val_eq
  have h2 := (ev_at hp hy hm.2 hops).val_eq
  exact dg_val (v := r) hok (h hp a s.w h1 h2) (.val _)
/-- two values of one type compared, by a law on their equality -/
theorem op_eqv {T T' : TypeId} {x y : Operand} {v u : Value} {b : Bool} (ho : o.op = .binOp .eql T x y T') (hx : Ev pc F x (.val v)) (hy : Ev pc F y (.val u)) (hg : ∀ w, (eqGuard .eql T x y v u).run P w = .ok () w) (h : ∀ w, (binOp .eql T v u).run P w = .ok (.bool b) w) : DOp P pc o F M [] (.val (.bool b)) [] :=
  op_val2 hx hy (by simp [ho, Op.operands]) fun _ a w e1 e2 => by
    unfold execOp
    simp only [ho, e1, e2]
    exact run_v (by rw [Sem.run_bind, hg, Result.andThen_ok, h])
theorem op_nev {T T' : TypeId} {x y : Operand} {v u : Value} {b : Bool} (ho : o.op = .binOp .neq T x y T') (hx : Ev pc F x (.val v)) (hy : Ev pc F y (.val u)) (hg : ∀ w, (eqGuard .neq T x y v u).run P w = .ok () w) (h : ∀ w, (binOp .neq T v u).run P w = .ok (.bool b) w) : DOp P pc o F M [] (.val (.bool b)) [] :=
  op_val2 hx hy (by simp [ho, Op.operands]) fun _ a w e1 e2 => by
    unfold execOp
    simp only [ho, e1, e2]
    exact run_v (by rw [Sem.run_bind, hg, Result.andThen_ok, h])

/-! ### memory that is read -/
theorem cellsAt_range {w : World} {b p : Nat} {L R : List Value} (h : cellsAt w b p L) (o k : Nat) (hR : (L.drop o).take k = R) : w.rangeAt b (p + o) R := by
  subst hR
  intro j v hj
  exact cellsAt_sub h o k j v hj
theorem run_load_row {T : TypeId} {x : Operand} {a : Act} {w : World} {b p k : Nat} {R : List Value} (ho : o.op = .load T x) (hT : tyB P T = some (true, k)) (hx : a.eval x = .pointer (some ⟨b, p, none⟩)) (hR : w.rangeAt b p R) (hl : R.length = k) :
    (execOp a.eval o).run P w = .ok (.value (.agg R.toArray)) w := by
  obtain ⟨d, i, e1, e2, e3, e4⟩ := tyB_spec hT
  unfold execOp
  simp only [ho, hx]
  exact run_v (run_loadAt_mid w b p T R d hR e1 e3 (by rw [e2]; simp [e4, hl]))
theorem run_load_one {T : TypeId} {x : Operand} {a : Act} {w : World} {b p k : Nat} {v : Value} (ho : o.op = .load T x) (hT : tyB P T = some (false, k)) (hx : a.eval x = .pointer (some ⟨b, p, none⟩)) (hv : w.cell? ⟨b, p, none⟩ = some v) :
    (execOp a.eval o).run P w = .ok (.value v) w := by
  obtain ⟨d, i, e1, e2, e3, e4⟩ := tyB_spec hT
  unfold execOp
  simp only [ho, hx]
  have hagg : (isAgg T).run P w = .ok false w := by
    unfold isAgg
    rw [Sem.run_bind, run_underlying e1 w]
    cases d <;> simp_all
  exact run_v (by simp [Instr.loadAt, Instr.sureAddr, loadVar, Sem.run_bind, hagg, load, Sem.run, hv])
section
variable {T : TypeId} {x : Operand} {i p k : Nat} {L R : List Value} {v : Value}
theorem flat_cells {s : St} (hok : Ok s) {T' : TypeId} {h : Value} {b : Nat} (h1 : s.M[i]? = some (.flat T' L)) (h2 : s.β[i]? = some h) (h3 : h = .pointer (some ⟨b, 0, none⟩)) : s.w.heap[b]? = some (.cells L.toArray T' (0, 0)) := by
  obtain ⟨b', e1, e2⟩ := hok.blk i _ h h1 h2
  rw [h3] at e1
  cases e1
  exact e2
theorem op_ldr {T' : TypeId} (ho : o.op = .load T x) (hT : tyB P T = some (true, k)) (hx : Ev pc F x (.loc i p)) (hM : M[i]? = some (.flat T' L)) (hR : (L.drop p).take k = R) (hl : R.length = k) : DOp P pc o F M [i] (.val (.agg R.toArray)) [] := by
  intro hp a s hok hops hfp
  have hr := ev_at hp hx (by simp [ho, Op.operands]) hops
  generalize hv : a.eval x = vx at hr
  cases hr with
  | @loc _ _ b h =>
    have hc := flat_cells hok (by rw [hfp i (by simp)]; exact hM) h rfl
    have := cellsAt_range (by simpa using cellsAt_block hc 0) p k hR
    rw [Nat.zero_add] at this
    exact dg_val hok (run_load_row ho hT hv this hl) (.val _)
theorem op_ldw {T' : TypeId} (ho : o.op = .load T x) (hT : tyB P T = some (true, k)) (hx : Ev pc F x (.loc i 0)) (hM : M[i]? = some (.flat T' L)) (hl : L.length = k) : DOp P pc o F M [i] (.val (.agg L.toArray)) [] :=
  op_ldr ho hT hx hM (by subst hl; simp) hl
theorem op_ldo {T' : TypeId} (ho : o.op = .load T x) (hT : tyB P T = some (false, k)) (hx : Ev pc F x (.loc i p)) (hM : M[i]? = some (.flat T' L)) (hR : L[p]? = some v) : DOp P pc o F M [i] (.val v) [] := by
  intro hp a s hok hops hfp
  have hr := ev_at hp hx (by simp [ho, Op.operands]) hops
  generalize hv : a.eval x = vx at hr
  cases hr with
  | @loc _ _ b h =>
    have hc := flat_cells hok (by rw [hfp i (by simp)]; exact hM) h rfl
    have h2 := cellsAt_block hc 0 p v (by simpa using hR)
    exact dg_val hok (run_load_one ho hT hv (by simpa using h2)) (.val _)
theorem op_ldm {T' : TypeId} {l : List D} {d : D} (ho : o.op = .load T x) (hT : tyB P T = some (false, k)) (hx : Ev pc F x (.loc i p)) (hM : M[i]? = some (.mix T' l)) (hR : l[p]? = some d) : DOp P pc o F M [i] d [] := by
  intro hp a s hok hops hfp
  have hr := ev_at hp hx (by simp [ho, Op.operands]) hops
  generalize hv : a.eval x = vx at hr
  cases hr with
  | @loc _ _ b h =>
    obtain ⟨b', vs, e1, e2, e3, e4⟩ := hok.blk i _ _ (by rw [hfp i (by simp)]; exact hM) h
    cases e1
    have hp' : p < vs.length := by rw [e3]; exact (List.getElem?_eq_some_iff.1 hR).1
    have h2 := cellsAt_block e2 0 p vs[p] (by simp [hp'])
    exact dg_val hok (run_load_one ho hT hv (by simpa using h2)) (e4 p d _ hR (List.getElem?_eq_getElem hp'))
theorem op_ldrd (ho : o.op = .load T x) (hT : tyB P T = some (true, k)) (hx : Ev pc F x (.dpf L)) (hR : L.take k = R) (hl : R.length = k) : DOp P pc o F M [] (.val (.agg R.toArray)) [] := by
  intro hp a s hok hops hfp
  have hr := ev_at hp hx (by simp [ho, Op.operands]) hops
  generalize hv : a.eval x = vx at hr
  cases hr with
  | @dpf b q _ hI h =>
    have := cellsAt_range h 0 k (by simpa using hR)
    exact dg_val hok (run_load_row ho hT hv (by simpa using this) hl) (.val _)
theorem op_ldwd (ho : o.op = .load T x) (hT : tyB P T = some (true, k)) (hx : Ev pc F x (.dpf L)) (hl : L.length = k) : DOp P pc o F M [] (.val (.agg L.toArray)) [] := op_ldrd ho hT hx (by subst hl; simp) hl
theorem op_ldod (ho : o.op = .load T x) (hT : tyB P T = some (false, k)) (hx : Ev pc F x (.dpf L)) (hR : L[0]? = some v) : DOp P pc o F M [] (.val v) [] := by
  intro hp a s hok hops hfp
  have hr := ev_at hp hx (by simp [ho, Op.operands]) hops
  generalize hv : a.eval x = vx at hr
  cases hr with
  | @dpf b q _ hI h => exact dg_val hok (run_load_one ho hT hv (by simpa using h 0 v hR)) (.val _)
theorem arr_cells {s : St} (hok : Ok s) {T' : TypeId} {sz n n' c b : Nat} (h1 : s.M[i]? = some (.arr T' sz n L)) (h2 : s.β[i]? = some (.slice (some ⟨b, 0, none⟩) n' c)) : n' = n ∧ L.length = n * sz ∧ n ≤ c ∧ c ≤ maxLen ∧ cellsAt s.w b 0 L ∧ ∃ cur, s.w.heap[b]? = some (.cells cur T' (0, 0)) ∧ L.length ≤ cur.size ∧ cur.toList.take L.length = L := by
  have hk : s.w.ownsRow 0 T' sz _ n L := hok.blk i _ _ h1 h2
  rcases hk.2 with ⟨e1, e2⟩ | ⟨g, cap, cur, e1, e2, e3, e4, e5, e6, e7⟩
  · cases e1
  · cases e1
    have hc0 := cellsAt_sub (cellsAt_block e3 0) 0 (n * sz)
    have hle := Nat.mul_le_mul_right sz e4
    exact ⟨rfl, hk.1, e4, e5, by simpa [e7] using hc0, cur, e3, by rw [hk.1, e6]; exact hle, by rw [hk.1]; exact e7⟩
theorem run_fieldAddr {T : TypeId} {f q : Nat} {a : Act} {w : World} {b p : Nat} (ho : o.op = .fieldAddr T x f) (hT : fdO P T f = some q) (hx : a.eval x = .pointer (some ⟨b, p, none⟩)) : (execOp a.eval o).run P w = .ok (.value (.pointer (some ⟨b, p + q, none⟩))) w := by
  unfold fdO at hT
  split at hT
  · rename_i fs hu
    simp only [Option.bind_eq_some_iff] at hT
    obtain ⟨d, hd, i, hi, hq⟩ := hT
    by_cases hz : i.size = 0
    · rw [if_pos hz] at hq; cases hq
    · rw [if_neg hz] at hq
      obtain rfl := Option.some.inj hq
      unfold execOp
      simp only [ho, hx]
      refine run_v ?_
      unfold Instr.fieldAt
      simp [run_underlying hu, hd, Instr.sureAddr, fieldPlace, sizeOf, typeInfo, hi, hz, Addr.add_mid]
  · cases hT
theorem op_fa {f q : Nat} (ho : o.op = .fieldAddr T x f) (hT : fdO P T f = some q) (hx : Ev pc F x (.loc i p)) : DOp P pc o F M [] (.loc i (p + q)) [] := by
  intro hp a s hok hops hfp
  have hr := ev_at hp hx (by simp [ho, Op.operands]) hops
  generalize hv : a.eval x = vx at hr
  cases hr with
  | @loc _ _ b h => exact dg_val hok (run_fieldAddr ho hT hv) (.loc h)
end
theorem run_index_arr {T : TypeId} {x y : Operand} {a : Act} {w : World} {n sz b p : Nat} {k : IntKind} {z : Int} (ho : o.op = .indexAddr T x y) (hT : arE P T = some (n, sz)) (hx : a.eval x = .pointer (some ⟨b, p, none⟩)) (hy : a.eval y = .int k z) (h0 : 0 ≤ z) (h1 : z < n) :
    (execOp a.eval o).run P w = .ok (.value (.pointer (some ⟨b, p + z.toNat * sz, none⟩))) w := by
  obtain ⟨e, i, e1, e2, e3⟩ := arE_spec hT
  unfold execOp
  simp only [ho, hx, hy]
  refine run_v ?_
  unfold Instr.indexAt
  simp [run_underlying e1, asIntOf, Instr.sureAddr, h0, h1, sizeOf, typeInfo, e2, e3, Addr.add_mid]
theorem run_index_sl {T e : TypeId} {x y : Operand} {a : Act} {w : World} {n c sz by' : Nat} {ad : Addr} {k : IntKind} {z : Int} (ho : o.op = .indexAddr T x y) (hT : slE P T = some (e, sz, by')) (hx : a.eval x = .slice (some ad) n c) (hy : a.eval y = .int k z) (h0 : 0 ≤ z) (h1 : z < n) :
    (execOp a.eval o).run P w = .ok (.value (.pointer (some (ad.add (z.toNat * sz))))) w := by
  obtain ⟨e1, i, e2, e3, _⟩ := slE_spec hT
  unfold execOp
  simp only [ho, hx, hy]
  refine run_v ?_
  unfold Instr.indexAt
  simp [run_underlying e1, asIntOf, h0, h1, sizeOf, typeInfo, e2, e3]
section
variable {T : TypeId} {x y : Operand} {i p n sz : Nat} {k : IntKind} {z : Int} {L : List Value}
theorem op_ixl (ho : o.op = .indexAddr T x y) (hT : arE P T = some (n, sz)) (hx : Ev pc F x (.loc i p)) (hy : Ev pc F y (.val (.int k z))) (h : pc = true → 0 ≤ z ∧ z < n) : DOp P pc o F M [] (.loc i (p + z.toNat * sz)) [] := by
  intro hp a s hok hops hfp
  have hr := ev_at hp hx (by simp [ho, Op.operands]) hops
  have h2 := (ev_at hp hy (by simp [ho, Op.operands]) hops).val_eq
  generalize hv : a.eval x = vx at hr
  cases hr with
  | @loc _ _ b hb => exact dg_val hok (run_index_arr ho hT hv h2 (h hp).1 (h hp).2) (.loc hb)
variable {e : TypeId} {by' m : Nat}
/-- an element of a slice that stays -/
theorem op_ixs (ho : o.op = .indexAddr T x y) (hT : slE P T = some (e, sz, by')) (hx : Ev pc F x (.slf sz m L)) (hy : Ev pc F y (.val (.int k z))) (h : pc = true → 0 ≤ z ∧ z < m) (hsz : 0 < sz) : DOp P pc o F M [] (.dpf (L.drop (z.toNat * sz))) [] := by
  intro hp a s hok hops hfp
  have hr := ev_at hp hx (by simp [ho, Op.operands]) hops
  have h2 := (ev_at hp hy (by simp [ho, Op.operands]) hops).val_eq
  obtain ⟨h3, h4⟩ := h hp
  generalize hv : a.eval x = vx at hr
  cases hr with
  | @slf _ _ cap ad _ hl hn hc ha hL =>
    rcases hL with rfl | ⟨b, q, rfl, hI, hcl⟩
    · exfalso
      have : m * sz = 0 := by simpa using hl.symm
      rcases Nat.mul_eq_zero.1 this with h | h <;> omega
    · refine dg_val hok (run_index_sl ho hT hv h2 h3 h4) ?_
      rw [Addr.add_mid]
      refine .dpf hI fun j v hj => ?_
      rw [List.getElem?_drop] at hj
      rw [Nat.add_assoc]
      exact hcl _ v hj
theorem op_ixsr {α : Type} {en : α → List Value} {l : List α} {j : Nat} (ho : o.op = .indexAddr T x y) (hT : slE P T = some (e, sz, by')) (hx : Ev pc F x (.slf sz l.length (l.flatMap en))) (hy : Ev pc F y (.val (.int k z))) (hen : ∀ a, (en a).length = sz) (hsz : 0 < sz) (hz : z = (j : Int)) (hj : j < l.length) : DOp P pc o F M [] (.dpf (en l[j])) [] := by
  intro hp a s hok hops hfp
  have h1 := op_ixs (P := P) (M := M) ho hT hx hy (fun _ => by omega) hsz hp a s hok hops hfp
  revert h1
  generalize (execOp a.eval o).run P s.w = r
  have key : ∀ (s' : St) v, Rep s' (.dpf ((l.flatMap en).drop (z.toNat * sz))) v → Rep s' (.dpf (en l[j])) v := by
    intro s' v hr
    cases hr with
    | dpf hI hc =>
      refine .dpf hI fun i v hi => hc i v ?_
      rw [List.getElem?_drop, show z.toNat = j by omega]
      have : ∀ (l : List α) (j : Nat) (hj : j < l.length), (l.flatMap en)[j * sz + i]? = (en l[j])[i]? := by
        intro l
        induction l with
        | nil => intro j hj; simp at hj
        | cons b l ih =>
          intro j hj
          have hil : i < sz := by rw [← hen]; exact (List.getElem?_eq_some_iff.1 hi).1
          cases j with
          | zero => rw [List.flatMap_cons, Nat.zero_mul, Nat.zero_add, List.getElem?_append_left (by rw [hen]; exact hil)]; rfl
          | succ j =>
            rw [List.flatMap_cons, List.getElem?_append_right (by rw [hen, Nat.succ_mul]; omega), hen, show (j + 1) * sz + i - sz = j * sz + i by rw [Nat.succ_mul]; omega]
            exact ih j (by simpa using hj)
      rw [this l j hj]
      exact hi
  intro h1
  cases r with
  | halt x w' => exact h1
  | ok nx w' =>
    cases nx with
    | value v => obtain ⟨s', a1, a2, a3, a4⟩ := h1; exact ⟨s', a1, a2, a3, key s' v a4⟩
    | skip => obtain ⟨s', a1, a2, a3, a4⟩ := h1; exact ⟨s', a1, a2, a3, key s' _ a4⟩
    | enter f args => exact ⟨h1.1, h1.2.mono fun e w'' ⟨s', v, b1, b2, b3, b4, b5⟩ => ⟨s', v, b1, b2, b3, b4, key s' v b5⟩⟩
    | round l f tmps asg body => exact ⟨h1.1, h1.2.mono fun e w'' ⟨s', v, b1, b2, b3, b4, b5⟩ => ⟨s', v, b1, b2, b3, b4, key s' v b5⟩⟩
    | _ => exact h1
end
end
end Go.Proofs.Ytmpodnadoebclaa
namespace Go.Proofs.Ytmpodnadoebclaa
set_option linter.unusedVariables false
set_option linter.unusedSimpArgs false
open Go.RowKit
/-- a new block, in a place that was kept for it -/
theorem tr_new {s : St} (ho : Ok s) {j : Nat} (hj : s.M[j]? = some .hole) (h' : Value) (k' : Blk) (w' : World) (hn : h' ≠ .nilFunc) (hh : ∀ b, hb h' = some b → b = s.w.heap.size)
    (keep : ∀ b, b < s.w.heap.size → w'.heap[b]? = s.w.heap[b]?) (hlt : ∀ b, hb h' = some b → b < w'.heap.size) (hsz : s.w.heap.size ≤ w'.heap.size) (hos : w'.os = s.w.os) (htape : w'.tape = s.w.tape) (hout : w'.output = s.w.output)
    (hblk : BlkOk ⟨s.β.set j h', s.I, s.M.set j k', w'⟩ h' k') (hk : k'.nf = true := by rfl) : Tr s ⟨s.β.set j h', s.I, s.M.set j k', w'⟩ := by
  have hjl : j < s.M.length := (List.getElem?_eq_some_iff.1 hj).1
  have hβ : s.β[j]? = some .nilFunc := by
    have hjb : j < s.β.length := by rw [ho.len]; exact hjl
    have e : s.β[j]? = some s.β[j] := List.getElem?_eq_getElem hjb
    have : s.β[j] = .nilFunc := ho.blk j .hole _ hj e
    rw [e, this]
  refine step_set ho j s.M h' k' w' rfl (fun i k h => .inl h) hjl (.inl hβ) hn hblk (fun b hb i k h hne h1 h2 h3 h4 => ?_) (fun b hb => .inl (by rw [hh b ((owns_nf hk).1 hb)]; exact Nat.le_refl _)) (fun b hb => hlt b ((owns_nf hk).1 hb)) (fun _ => False) (fun _ h => h.elim) (fun b hb _ _ => keep b hb) hos htape hout hsz
  have := (ho.lt b (live_of h1 h2 h3 h4)).1
  rw [hh b ((owns_nf hk).1 hb)] at this
  omega
/-- cells set, one behind the other -/
def setL : List Value → Nat → List Value → List Value
  | L, _, [] => L
  | L, p, v :: r => setL (L.set p v) (p + 1) r
theorem setL_len : ∀ (C L : List Value) (p : Nat), (setL L p C).length = L.length
  | [], _, _ => rfl
  | v :: r, L, p => by rw [setL, setL_len r]; simp
theorem setL_eq : ∀ (C L : List Value) (p : Nat), p + C.length ≤ L.length → setL L p C = L.take p ++ C ++ L.drop (p + C.length)
  | [], L, p, _ => by simp [setL]
  | v :: r, L, p, h => by
    simp only [List.length_cons] at h
    rw [setL, setL_eq r _ (p + 1) (by simp; omega)]
    have h1 : p < L.length := by omega
    rw [List.take_set, List.drop_set_of_lt (by omega), List.take_succ_eq_append_getElem h1, List.set_append_right _ _ (by simp; omega)]
    simp [show min p L.length = p by omega, show p + 1 + r.length = p + (r.length + 1) by omega]
theorem setL_all {C L : List Value} (h : C.length = L.length) : setL L 0 C = C := by
  rw [setL_eq C L 0 (by omega)]; simp [h]
theorem flat_len {α : Type} {en : α → List Value} {sz : Nat} (hen : ∀ a, (en a).length = sz) : ∀ l : List α, (l.flatMap en).length = l.length * sz
  | [] => by simp
  | a :: l => by rw [List.flatMap_cons, List.length_append, hen, flat_len hen l, List.length_cons, Nat.succ_mul]; omega
theorem flat_drop {α : Type} {en : α → List Value} {sz : Nat} (hen : ∀ a, (en a).length = sz) : ∀ (l : List α) (k : Nat), (l.flatMap en).drop (k * sz) = (l.drop k).flatMap en
  | l, 0 => by simp
  | [], k + 1 => by simp
  | a :: l, k + 1 => by
    rw [List.flatMap_cons, List.drop_append, hen, Nat.succ_mul, List.drop_succ_cons, List.drop_eq_nil_of_le (by rw [hen]; omega), List.nil_append, show k * sz + sz - sz = k * sz by omega, flat_drop hen l k]
theorem flat_take {α : Type} {en : α → List Value} {sz : Nat} (hen : ∀ a, (en a).length = sz) : ∀ (l : List α) (k : Nat), (l.flatMap en).take (k * sz) = (l.take k).flatMap en
  | l, 0 => by simp
  | [], k + 1 => by simp
  | a :: l, k + 1 => by
    rw [List.flatMap_cons, List.take_append, hen, Nat.succ_mul, List.take_succ_cons, List.flatMap_cons, List.take_of_length_le (by rw [hen]; omega), show k * sz + sz - sz = k * sz by omega, flat_take hen l k]
/-- the cells of one of a row, and of a part of it -/
theorem flat_part {α : Type} {en : α → List Value} {sz : Nat} (hen : ∀ a, (en a).length = sz) {l : List α} {j c k : Nat} (hj : j < l.length) (hc : c + k ≤ sz) : ((l.flatMap en).drop (j * sz + c)).take k = ((en l[j]).drop c).take k := by
  rw [← List.drop_drop, flat_drop hen, List.drop_eq_getElem_cons hj, List.flatMap_cons, List.drop_append_of_le_length (by rw [hen]; omega), List.take_append_of_le_length (by rw [List.length_drop, hen]; omega)]
theorem flat_cell {α : Type} {en : α → List Value} {sz : Nat} (hen : ∀ a, (en a).length = sz) {l : List α} {j c : Nat} (hj : j < l.length) (hc : c < sz) : (l.flatMap en)[j * sz + c]? = (en l[j])[c]? := by
  have := flat_part hen (c := c) (k := 1) hj (by omega)
  have h := congrArg (fun x : List Value => x[0]?) this
  simpa [List.getElem?_take, List.getElem?_drop] using h
theorem flat_set {α : Type} {en : α → List Value} {sz : Nat} (hen : ∀ a, (en a).length = sz) {l : List α} {j : Nat} (hj : j < l.length) (x : α) : setL (l.flatMap en) (j * sz) (en x) = (l.set j x).flatMap en := by
  have h1 : (j + 1) * sz ≤ l.length * sz := Nat.mul_le_mul_right _ hj
  rw [Nat.succ_mul] at h1
  rw [setL_eq _ _ _ (by rw [hen, flat_len hen]; exact h1), hen, show j * sz + sz = (j + 1) * sz by rw [Nat.succ_mul], flat_take hen, flat_drop hen]
  conv => rhs; rw [List.set_eq_take_append_cons_drop]
  rw [if_pos hj, List.flatMap_append, List.flatMap_cons, List.append_assoc]
theorem setCells_block (b : Nat) : ∀ (C : List Value) (p : Nat) (w : World) (L : List Value) (T : TypeId), w.heap[b]? = some (.cells L.toArray T (0, 0)) → (w.setCells b p C).heap[b]? = some (.cells (setL L p C).toArray T (0, 0))
  | [], _, _, _, _, h => h
  | v :: r, p, w, L, T, h => by
    rw [World.setCells, setL]
    refine setCells_block b r (p + 1) _ _ T ?_
    simp only [World.setCell, Array.getElem?_modify]
    simp [h]
theorem setCells_other (b : Nat) : ∀ (C : List Value) (p : Nat) (w : World) (k : Nat), k ≠ b → (w.setCells b p C).heap[k]? = w.heap[k]?
  | [], _, _, _, _ => rfl
  | v :: r, p, w, k, h => by
    rw [World.setCells, setCells_other b r _ _ k h]
    exact Below.heap_setCell _ _ _ _ h
theorem setCells_rest (b : Nat) : ∀ (C : List Value) (p : Nat) (w : World), (w.setCells b p C).heap.size = w.heap.size ∧ (w.setCells b p C).os = w.os ∧ (w.setCells b p C).tape = w.tape ∧ (w.setCells b p C).output = w.output
  | [], _, _ => ⟨rfl, rfl, rfl, rfl⟩
  | v :: r, p, w => by
    rw [World.setCells]
    obtain ⟨h1, h2, h3, h4⟩ := setCells_rest b r (p + 1) (w.setCell ⟨b, p, none⟩ v)
    exact ⟨h1.trans (by simp [World.setCell]), h2, h3, h4⟩
/-- a store into a block that the call may write -/
theorem tr_store {s : St} (ho : Ok s) {i : Nat} {k k' : Blk} {h : Value} {b : Nat} (hi : s.M[i]? = some k) (hl : k.live = true) (hh : s.β[i]? = some h) (hbb : hb h = some b) (p : Nat) (C : List Value)
    (hblk : BlkOk ⟨s.β.set i h, s.I, s.M.set i k', s.w.setCells b p C⟩ h k') : Tr s ⟨s.β.set i h, s.I, s.M.set i k', s.w.setCells b p C⟩ := by
  have hil : i < s.M.length := (List.getElem?_eq_some_iff.1 hi).1
  obtain ⟨r1, r2, r3, r4⟩ := setCells_rest b C p s.w
  have hko := ho.blk i k h hi hh
  have tw : ∀ b', owns k' h b' → owns k h b' := fun b' q => (owns_blk hko hbb).2 (owns_hb hbb q)
  refine step_set ho i s.M h k' _ rfl (fun i k h => .inl h) hil (.inr (.inl hh)) ((ho.blk i k h hi hh).live_ne hl) hblk (fun b' hb' j kj hj hne h1 h2 h3 h4 => ?_) (fun b' hb' => .inr (live_of hi hl hh (tw b' hb'))) (fun b' hb' => ?_) (fun _ => False) (fun _ h => h.elim) (fun b' hlt hne _ => ?_) r2 r3 r4 (by rw [r1]; exact Nat.le_refl _)
  · exact hne (ho.inj j i kj k hj h b' h1 h2 h3 h4 hi hl hh (tw b' hb'))
  · rw [r1]; exact (ho.lt b' (live_of hi hl hh (tw b' hb'))).1
  · refine setCells_other b C p s.w b' fun e => hne ?_
    rw [e]; exact owns_of hblk hbb
section
variable {P : Program} {pc : Bool} {o : Oper} {F : Fr} {M : List Blk}
theorem dg_step {a : Act} {s s' : St} {d : D} {v : Value} {wr : List (Nat × Blk)} (h : (execOp a.eval o).run P s.w = .ok (.value v) s'.w) (ht : Tr s s') (hM : s'.M = upd s.M wr) (hr : Rep s' d v) : DGives P s (fun s' v => s'.M = upd s.M wr ∧ Rep s' d v) ((execOp a.eval o).run P s.w) := by
  rw [h]; exact ⟨s', rfl, ht, hM, hr⟩
theorem dg_skip {a : Act} {s s' : St} {wr : List (Nat × Blk)} (h : (execOp a.eval o).run P s.w = .ok .skip s'.w) (ht : Tr s s') (hM : s'.M = upd s.M wr) : DGives P s (fun s' v => s'.M = upd s.M wr ∧ Rep s' .junk v) ((execOp a.eval o).run P s.w) := by
  rw [h]; exact ⟨s', rfl, ht, hM, .junk _⟩
theorem run_newVar (t : TypeId) (v : Value) (w : World) : (newVar t v).run P w = .ok ⟨w.heap.size, 0, none⟩ (w.alloc (.cells v.cells t)) := rfl
theorem zrC_spec {T : TypeId} {Z : List Value} (h : zrC P T = some Z) : ∃ i z, P.info? T = some i ∧ i.zero = some z ∧ z.cells.toList = Z := by
  simp only [zrC, Option.bind_eq_some_iff, Option.map_eq_some_iff] at h
  obtain ⟨i, h1, z, h2, h3⟩ := h
  exact ⟨i, z, h1, h2, h3⟩
theorem new_flat {s : St} (ho : Ok s) {j : Nat} (hj : s.M[j]? = some .hole) (T : TypeId) (cs : Array Value) (L : List Value) (hL : cs.toList = L) :
    Tr s ⟨s.β.set j (.pointer (some ⟨s.w.heap.size, 0, none⟩)), s.I, s.M.set j (.flat T L), s.w.alloc (.cells cs T)⟩ := by
  subst hL
  refine tr_new ho hj _ _ _ (by simp) (fun b hb => by simpa [hb] using (Option.some.inj hb).symm) (fun b h => Below.heap_alloc _ _ _ h) (fun b hb => ?_) (by simp) rfl rfl rfl ⟨_, rfl, by simpa using heap_alloc_new s.w _⟩
  cases hb; simp
theorem rep_new {s : St} {j : Nat} {h : Value} {M' : List Blk} {w' : World} {b : Nat} (hj : j < s.β.length) (hh : h = .pointer (some ⟨b, 0, none⟩)) : Rep ⟨s.β.set j h, s.I, M', w'⟩ (.loc j 0) (.pointer (some ⟨b, 0, none⟩)) :=
  .loc (by simp [hj, hh])
/-- a new variable of zeros, in the place j -/
theorem op_alloc {T : TypeId} {Z : List Value} (j : Nat) (ho : o.op = .alloc T) (hT : zrC P T = some Z) (hj : M[j]? = some .hole) : DOp P pc o F M [j] (.loc j 0) [(j, .flat T Z)] := by
  intro hp a s hok hops hfp
  obtain ⟨i, z, e1, e2, e3⟩ := zrC_spec hT
  have hj' : s.M[j]? = some .hole := by rw [hfp j (by simp)]; exact hj
  have hjl : j < s.β.length := by rw [hok.len]; exact (List.getElem?_eq_some_iff.1 hj').1
  refine dg_step (v := .pointer (some ⟨s.w.heap.size, 0, none⟩)) ?_ (new_flat hok hj' T z.cells Z e3) rfl (rep_new hjl rfl)
  unfold execOp
  simp only [ho]
  exact run_v (by simp [Instr.alloc, zeroValue, typeInfo, e1, e2, Sem.run_bind, run_newVar])
/-- a new variable that holds a plain value -/
theorem op_box {T : TypeId} {x : Operand} {v : Value} {L : List Value} (j : Nat) (ho : o.op = .box T x) (hx : Ev pc F x (.val v)) (hL : v.cells.toList = L) (hj : M[j]? = some .hole) : DOp P pc o F M [j] (.loc j 0) [(j, .flat T L)] := by
  intro hp a s hok hops hfp
  have h1 := (ev_at hp hx (by simp [ho, Op.operands]) hops).val_eq
  have hj' : s.M[j]? = some .hole := by rw [hfp j (by simp)]; exact hj
  have hjl : j < s.β.length := by rw [hok.len]; exact (List.getElem?_eq_some_iff.1 hj').1
  refine dg_step (v := .pointer (some ⟨s.w.heap.size, 0, none⟩)) ?_ (new_flat hok hj' T v.cells L hL) rfl (rep_new hjl rfl)
  unfold execOp
  simp only [ho, h1]
  exact run_v (by simp only [Instr.box, Sem.run_bind, run_newVar, Result.andThen_ok, Sem.run_pure])
theorem op_boxa {T : TypeId} {x : Operand} {L : List Value} (j : Nat) (ho : o.op = .box T x) (hx : Ev pc F x (.val (.agg L.toArray))) (hj : M[j]? = some .hole) : DOp P pc o F M [j] (.loc j 0) [(j, .flat T L)] := op_box j ho hx rfl hj
theorem op_boxi {T : TypeId} {x : Operand} {k : IntKind} {z : Int} (j : Nat) (ho : o.op = .box T x) (hx : Ev pc F x (.val (.int k z))) (hj : M[j]? = some .hole) : DOp P pc o F M [j] (.loc j 0) [(j, .flat T [.int k z])] := op_box j ho hx rfl hj
/-- .. a value with addresses, of one cell -/
theorem op_boxm {T : TypeId} {x : Operand} {d : D} (j : Nat) (ho : o.op = .box T x) (hx : Ev pc F x d) (h1 : ∀ (s : St) v, Rep s d v → v.cells = #[v]) (hj : M[j]? = some .hole) : DOp P pc o F M [j] (.loc j 0) [(j, .mix T [d])] := by
  intro hp a s hok hops hfp
  have hr := ev_at hp hx (by simp [ho, Op.operands]) hops
  have hc := h1 s _ hr
  have hj' : s.M[j]? = some .hole := by rw [hfp j (by simp)]; exact hj
  have hjl : j < s.β.length := by rw [hok.len]; exact (List.getElem?_eq_some_iff.1 hj').1
  have hβ : s.β[j]? = some .nilFunc := by
    have e : s.β[j]? = some s.β[j] := List.getElem?_eq_getElem hjl
    have : s.β[j] = .nilFunc := hok.blk j .hole _ hj' e
    rw [e, this]
  have ht : Tr s ⟨s.β.set j (.pointer (some ⟨s.w.heap.size, 0, none⟩)), s.I, s.M.set j (.mix T [d]), s.w.alloc (.cells #[a.eval x] T)⟩ := by
    refine tr_new hok hj' _ _ _ (by simp) (fun b hb => by simpa [hb] using (Option.some.inj hb).symm) (fun b h => Below.heap_alloc _ _ _ h) (fun b hb => ?_) (by simp) rfl rfl rfl ⟨_, [a.eval x], rfl, heap_alloc_new s.w _, rfl, fun k e v hk hv => ?_⟩
    · cases hb; simp
    · cases k with
      | zero =>
        simp at hk hv
        subst hk; subst hv
        refine Rep.mono' (s := s) (s' := ⟨s.β.set j (.pointer (some ⟨s.w.heap.size, 0, none⟩)), s.I, s.M.set j (.mix T [d]), s.w.alloc (.cells #[a.eval x] T)⟩) (fun i h hi hne => ?_) (fun _ h => h) (fun b hI => Below.heap_alloc _ _ _ (hok.il b hI)) hr
        show (s.β.set j _)[i]? = some h
        by_cases e : j = i
        · subst e; rw [hi] at hβ; exact absurd (Option.some.inj hβ) hne
        · rw [List.getElem?_set_ne e]; exact hi
      | succ k => simp at hk
  refine dg_step (v := .pointer (some ⟨s.w.heap.size, 0, none⟩)) ?_ ht rfl (rep_new hjl rfl)
  unfold execOp
  simp only [ho]
  exact run_v (by simp only [Instr.box, Sem.run_bind, run_newVar, Result.andThen_ok, Sem.run_pure, hc])
/-- a plain value into a variable -/
theorem run_store {T : TypeId} {x y : Operand} {a : Act} {w : World} {b p k : Nat} {rw' : Bool} {v : Value} {C : List Value} (ho : o.op = .store T x y) (hT : tyB P T = some (rw', k)) (hx : a.eval x = .pointer (some ⟨b, p, none⟩)) (hy : a.eval y = v) (hC : v.cells.toList = C) (hk : C.length = k)
    (hc : ∀ j, j < C.length → (w.cell? ⟨b, p + j, none⟩).isSome = true) (hf : ∀ j, j < C.length → w.frozen? ⟨b, p + j, none⟩ = false) (h1 : ∀ u ∈ C, u.oneCell' = true) : (execOp a.eval o).run P w = .ok .skip (w.setCells b p C) := by
  obtain ⟨d, i, e1, e2, e3, e4⟩ := tyB_spec hT
  subst hC
  have := run_storeCells_cells (P := P) b p v.cells.toList 0 w (by simpa using hc) (by simpa using hf) h1
  simp only [Nat.add_zero] at this
  unfold execOp
  simp only [ho, hx, hy]
  refine run_u ?_
  have hs : v.cells.size = i.size := by rw [e4, ← hk]; simp
  simp [Instr.storeAt, Instr.sureAddr, storeVar, sizeOf, typeInfo, e2, hs, this]
theorem op_st {T T' : TypeId} {x y : Operand} {i p k : Nat} {rw' : Bool} {v : Value} {L C L' : List Value} (ho : o.op = .store T x y) (hT : tyB P T = some (rw', k)) (hx : Ev pc F x (.loc i p)) (hy : Ev pc F y (.val v)) (hM : M[i]? = some (.flat T' L)) (hC : v.cells.toList = C) (hk : C.length = k) (h1 : C.all (·.oneCell') = true)
    (hfit : p + C.length ≤ L.length) (hL : setL L p C = L') : DOp P pc o F M [i] .junk [(i, .flat T' L')] := by
  intro hp a s hok hops hfp
  have hr := ev_at hp hx (by simp [ho, Op.operands]) hops
  have h2 := (ev_at hp hy (by simp [ho, Op.operands]) hops).val_eq
  have hM' : s.M[i]? = some (.flat T' L) := by rw [hfp i (by simp)]; exact hM
  subst hL
  generalize hv : a.eval x = vx at hr
  cases hr with
  | @loc _ _ b h =>
    have hc := flat_cells hok hM' h rfl
    have hcell := cellsAt_block hc 0
    have hrun := run_store (P := P) (w := s.w) ho hT hv h2 hC hk (fun j hj => by
        have := hcell (p + j) _ (by simpa using List.getElem?_eq_getElem (by omega : p + j < L.length))
        rw [Nat.zero_add] at this
        rw [this]; rfl) (fun j hj => by simp [World.frozen?, hc]) (fun u hu => List.all_eq_true.1 h1 u hu)
    exact dg_skip (s' := ⟨s.β.set i (.pointer (some ⟨b, 0, none⟩)), s.I, s.M.set i (.flat T' (setL L p C)), s.w.setCells b p C⟩) hrun (tr_store hok hM' rfl h rfl p C ⟨b, rfl, setCells_block b C p s.w L T' hc⟩) rfl
/-- the whole variable -/
theorem op_stw {T T' : TypeId} {x y : Operand} {i k : Nat} {rw' : Bool} {v : Value} {L C : List Value} (ho : o.op = .store T x y) (hT : tyB P T = some (rw', k)) (hx : Ev pc F x (.loc i 0)) (hy : Ev pc F y (.val v)) (hM : M[i]? = some (.flat T' L)) (hC : v.cells.toList = C) (hk : C.length = k) (h1 : C.all (·.oneCell') = true)
    (hfit : C.length = L.length) : DOp P pc o F M [i] .junk [(i, .flat T' C)] := op_st ho hT hx hy hM hC hk h1 (by omega) (setL_all hfit)
theorem op_stwa {T T' : TypeId} {x y : Operand} {i k : Nat} {rw' : Bool} {L C : List Value} (ho : o.op = .store T x y) (hT : tyB P T = some (rw', k)) (hx : Ev pc F x (.loc i 0)) (hy : Ev pc F y (.val (.agg C.toArray))) (hM : M[i]? = some (.flat T' L)) (hk : C.length = k) (h1 : C.all (·.oneCell') = true)
    (hfit : C.length = L.length) : DOp P pc o F M [i] .junk [(i, .flat T' C)] := op_stw ho hT hx hy hM rfl hk h1 hfit
theorem op_stwi {T T' : TypeId} {x y : Operand} {i : Nat} {rw' : Bool} {kd : IntKind} {z : Int} {v : Value} (ho : o.op = .store T x y) (hT : tyB P T = some (rw', 1)) (hx : Ev pc F x (.loc i 0)) (hy : Ev pc F y (.val (.int kd z))) (hM : M[i]? = some (.flat T' [v])) : DOp P pc o F M [i] .junk [(i, .flat T' [.int kd z])] :=
  op_stw ho hT hx hy hM rfl rfl rfl rfl
theorem op_stwb {T T' : TypeId} {x y : Operand} {i : Nat} {rw' : Bool} {z : Bool} {v : Value} (ho : o.op = .store T x y) (hT : tyB P T = some (rw', 1)) (hx : Ev pc F x (.loc i 0)) (hy : Ev pc F y (.val (.bool z))) (hM : M[i]? = some (.flat T' [v])) : DOp P pc o F M [i] .junk [(i, .flat T' [.bool z])] :=
  op_stw ho hT hx hy hM rfl rfl rfl rfl
/-- a value of one cell into a cell of a variable with addresses -/
theorem op_stm {T T' : TypeId} {x y : Operand} {i p : Nat} {rw' : Bool} {d : D} {l : List D} (ho : o.op = .store T x y) (hT : tyB P T = some (rw', 1)) (hx : Ev pc F x (.loc i p)) (hy : Ev pc F y d) (h1 : ∀ (s : St) v, Rep s d v → v.cells = #[v] ∧ v.oneCell' = true) (hM : M[i]? = some (.mix T' l)) (hfit : p < l.length) : DOp P pc o F M [i] .junk [(i, .mix T' (l.set p d))] := by
  intro hp a s hok hops hfp
  have hr := ev_at hp hx (by simp [ho, Op.operands]) hops
  have hry := ev_at hp hy (by simp [ho, Op.operands]) hops
  obtain ⟨hc1, hc2⟩ := h1 s _ hry
  have hM' : s.M[i]? = some (.mix T' l) := by rw [hfp i (by simp)]; exact hM
  generalize hv : a.eval x = vx at hr
  cases hr with
  | @loc _ _ b h =>
    obtain ⟨b', vs, e1, e2, e3, e4⟩ := hok.blk i _ _ hM' h
    cases e1
    have hcell := cellsAt_block e2 0
    have hrun := run_store (P := P) (w := s.w) (C := [a.eval y]) ho hT hv rfl (by rw [hc1]) rfl (fun j hj => by
        have hj0 : j = 0 := by simp at hj; exact hj
        subst hj0
        have hp' : p < vs.length := by omega
        have := hcell p vs[p] (by simp [hp'])
        rw [Nat.zero_add] at this
        rw [Nat.add_zero, this]; rfl) (fun j hj => by simp [World.frozen?, e2]) (fun u hu => by rw [List.mem_singleton.1 hu]; exact hc2)
    refine dg_skip (s' := ⟨s.β.set i (.pointer (some ⟨b, 0, none⟩)), s.I, s.M.set i (.mix T' (l.set p d)), s.w.setCells b p [a.eval y]⟩) hrun (tr_store hok hM' rfl h rfl p _ ?_) rfl
    refine ⟨b, vs.set p (a.eval y), rfl, setCells_block b _ p s.w vs T' e2, by simp [e3], fun j e v hj hv' => ?_⟩
    have hβ : s.β.set i (.pointer (some ⟨b, 0, none⟩)) = s.β := by
      apply List.ext_getElem?
      intro k
      by_cases e : i = k
      · subst e; rw [List.getElem?_set_self (List.getElem?_eq_some_iff.1 h).1, h]
      · rw [List.getElem?_set_ne e]
    have lift : ∀ {e : D} {v : Value}, Rep s e v → Rep ⟨s.β.set i (.pointer (some ⟨b, 0, none⟩)), s.I, s.M.set i (.mix T' (l.set p d)), s.w.setCells b p [a.eval y]⟩ e v := by
      intro e v hr
      refine Rep.mono' (s := s) (s' := ⟨s.β.set i (.pointer (some ⟨b, 0, none⟩)), s.I, s.M.set i (.mix T' (l.set p d)), s.w.setCells b p [a.eval y]⟩) (fun k x hk _ => by show (s.β.set i _)[k]? = _; rw [hβ]; exact hk) (fun _ h => h) (fun b' hI => setCells_other b _ p s.w b' fun e => ?_) hr
      subst e
      exact (hok.lt b' (live_of hM' rfl h rfl)).2 hI
    by_cases e' : p = j
    · subst e'
      rw [List.getElem?_set_self hfit] at hj
      rw [List.getElem?_set_self (by omega)] at hv'
      cases hj; cases hv'
      exact lift hry
    · rw [List.getElem?_set_ne e'] at hj hv'
      exact lift (e4 j e v hj hv')
end
end Go.Proofs.Ytmpodnadoebclaa
namespace Go.Proofs.Ytmpodnadoebclaa
set_option linter.unusedVariables false
set_option linter.unusedSimpArgs false
open Go.RowKit
section
variable {P : Program} {pc : Bool} {o : Oper} {F : Fr} {M : List Blk}
/-- plain operands -/
def EvV (pc : Bool) (F : Fr) : List Operand → List Value → Prop
  | [], [] => True
  | x :: xs, v :: vs => Ev pc F x (.val v) ∧ EvV pc F xs vs
  | _, _ => False
theorem vn : EvV pc F [] [] := trivial
theorem vc {x : Operand} {xs : List Operand} {v : Value} {vs : List Value} (h : Ev pc F x (.val v)) (h' : EvV pc F xs vs) : EvV pc F (x :: xs) (v :: vs) := ⟨h, h'⟩
theorem evV_eq {a : Act} {s : St} (hp : pc = true) : ∀ (xs : List Operand) (vs : List Value), EvV pc F xs vs → (∀ x ∈ xs, ∀ d, ev F x = some d → Rep s d (a.eval x)) → xs.map a.eval = vs
  | [], [], _, _ => rfl
  | x :: xs, v :: vs, ⟨⟨d', e1, e2⟩, h⟩, hr => by
    rw [List.map_cons, evV_eq hp xs vs h (fun y hy => hr y (List.mem_cons_of_mem _ hy)), (e2 s _ hp (hr x (List.mem_cons_self ..) d' e1)).val_eq]
  | [], _ :: _, h, _ => by cases h
  | _ :: _, [], h, _ => by cases h
theorem run_builtin {b : Builtin} {xs : Array Operand} {ts : Array TypeId} {a : Act} {w w' : World} {s : Sem Value} {v : Value} (ho : o.op = .call { callee := .builtin b, args := xs, argTypes := ts })
    (hb : ∀ cs, builtin b ts o.type cs (xs.map a.eval) = (do pure (Next.value (← s)))) (h : s.run P w = .ok v w') : (execOp a.eval o).run P w = .ok (.value v) w' := by
  unfold execOp
  simp only [ho, resolve, Sem.run_bind, Sem.run_pure, Result.andThen_ok, invoke]
  rw [hb]
  exact run_v h
/-- a component of a tuple -/
theorem op_ext {x : Operand} {i : Nat} {l : List D} {d : D} (ho : o.op = .extract x i) (hx : Ev pc F x (.tup l)) (hl : l[i]? = some d) : DOp P pc o F M [] d [] := by
  intro hp a s hok hops _
  have hr := ev_at hp hx (by simp [ho, Op.operands]) hops
  generalize hv : a.eval x = vx at hr
  cases hr with
  | @tup _ vs h1 h2 =>
    have hi : i < vs.length := by rw [h1]; exact (List.getElem?_eq_some_iff.1 hl).1
    refine dg_val (v := vs[i]) hok ?_ (h2 i d _ hl (List.getElem?_eq_getElem hi))
    unfold execOp
    simp only [ho, hv]
    exact run_v (by simp [Instr.extract, hi])
/-- a function value -/
theorem op_mkf {fn : Fn} {fs cs : List Operand} {ds es : List D} (ho : o.op = .makeFunc fn fs.toArray cs.toArray) (h1 : EvL pc F fs ds) (h2 : EvL pc F cs es) : DOp P pc o F M [] (.fn fn ds es) [] := by
  intro hp a s hok hops _
  have r1 := evL_reps (a := a) (s := s) hp fs ds h1 (fun y hy => hops y (by rw [ho]; simp [Op.operands, hy]))
  have r2 := evL_reps (a := a) (s := s) hp cs es h2 (fun y hy => hops y (by rw [ho]; simp [Op.operands, hy]))
  refine dg_val (v := .func fn (fs.map a.eval).toArray (cs.map a.eval).toArray) hok ?_ (.fn r1.1 r2.1 r1.2 r2.2)
  unfold execOp
  simp only [ho]
  exact run_v (by simp [Instr.makeFunc])

/-! ### len -/
theorem op_len {T : TypeId} {x : Operand} {q : TypeId × Nat × Nat} {sz n : Nat} {L : List Value} (ho : o.op = .call { callee := .builtin .len, args := #[x], argTypes := #[T] }) (hT : slE P T = some q) (hx : Ev pc F x (.slf sz n L)) : DOp P pc o F M [] (.val (.int .i64 n)) [] := by
  intro hp a s hok hops _
  obtain ⟨e1, _⟩ := slE_spec hT
  have hr := ev_at hp hx (by simp [ho, Op.operands, Call.operands]) hops
  generalize hv : a.eval x = vx at hr
  cases hr with
  | slf h1 h2 h3 h4 h5 =>
    refine dg_val hok (run_builtin ho (fun cs => rfl) ?_) (.val (.int .i64 n))
    simp [Builtin.len_, hv, run_underlying e1, goInt]
theorem op_lenm {T : TypeId} {x : Operand} {q : TypeId × Nat × Nat} {sz n : Nat} {l : List D} (ho : o.op = .call { callee := .builtin .len, args := #[x], argTypes := #[T] }) (hT : slE P T = some q) (hx : Ev pc F x (.slm sz n l)) : DOp P pc o F M [] (.val (.int .i64 n)) [] := by
  intro hp a s hok hops _
  obtain ⟨e1, _⟩ := slE_spec hT
  have hr := ev_at hp hx (by simp [ho, Op.operands, Call.operands]) hops
  generalize hv : a.eval x = vx at hr
  cases hr with
  | slm h0 h1 h2 h3 h4 h5 =>
    refine dg_val hok (run_builtin ho (fun cs => rfl) ?_) (.val (.int .i64 n))
    simp [Builtin.len_, hv, run_underlying e1, goInt]

/-! ### slices cut -/
def Bd (pc : Bool) (F : Fr) (y : Option Operand) (dflt z : Int) : Prop := match y with
  | none => z = dflt
  | some y => ∃ k, Ev pc F y (.val (.int k z))
theorem bd_none {z : Int} : Bd pc F none z z := rfl
theorem bd_some {y : Operand} {k : IntKind} {z q : Int} (h : Ev pc F y (.val (.int k z))) : Bd pc F (some y) q z := ⟨k, h⟩
theorem run_slice {T e : TypeId} {sz by' : Nat} {x : Operand} {lo hi : Option Operand} {a : Act} {w : World} {ad : Option Addr} {n c : Nat} {l h : Int} (ho : o.op = .slice T x lo hi none) (hT : slE P T = some (e, sz, by')) (hx : a.eval x = .slice ad n c)
    (hlo : lo.map a.eval = none ∧ l = 0 ∨ ∃ k, lo.map a.eval = some (.int k l)) (hhi : hi.map a.eval = none ∧ h = n ∨ ∃ k, hi.map a.eval = some (.int k h)) (h0 : 0 ≤ l) (h1 : l ≤ h) (h2 : h ≤ n) (h3 : n ≤ c) :
    (execOp a.eval o).run P w = .ok (.value (.slice (if c = l.toNat then ad else ad.map (·.add (l.toNat * sz))) (h.toNat - l.toNat) (c - l.toNat))) w := by
  obtain ⟨e1, i, e2, e3, _⟩ := slE_spec hT
  have eh : (h.toNat : Int) = h := Int.toNat_of_nonneg (by omega)
  unfold execOp
  simp only [ho, hx]
  refine run_v ?_
  have hb : (Instr.sliceBounds true n c (lo.map a.eval) (hi.map a.eval) none).run P w = .ok (l.toNat, h.toNat, c) w := by
    have sb : ∀ (k : IntKind) (z : Int) (m : Nat) (cd : BoundsCode), 0 ≤ z → z ≤ m → (Instr.sliceBound (.int k z) m cd).run P w = .ok z.toNat w := fun k z m cd a b => by
      simp [Instr.sliceBound, asIntOf, a, b]
    have el : l.toNat ≤ h.toNat := by omega
    rcases hlo with ⟨q1, q3⟩ | ⟨kl, q1⟩ <;> rcases hhi with ⟨q2, q4⟩ | ⟨kh, q2⟩ <;> rw [q1, q2]
    · have g1 : l.toNat = 0 := by omega
      have g2 : h.toNat = n := by omega
      simp [Instr.sliceBounds, g1, g2]
    · have g1 : l.toNat = 0 := by omega
      simp [Instr.sliceBounds, g1, sb kh h c _ (by omega) (by omega)]
    · have g2 : h.toNat = n := by omega
      simp [Instr.sliceBounds, g2, sb kl l n _ (by omega) (by omega)]
    · simp [Instr.sliceBounds, sb kh h c _ (by omega) (by omega), sb kl l h.toNat _ (by omega) (by omega)]
  simp [Instr.sliceAt, Instr.slice, run_underlying e1, Sem.run_bind, hb, sizeOf, typeInfo, e2, e3]
theorem bd_at {y : Option Operand} {dflt z : Int} {a : Act} {s : St} (hp : pc = true) (h : Bd pc F y dflt z) (hm : ∀ u, y = some u → u ∈ o.op.operands) (hops : ∀ x ∈ o.op.operands, ∀ d, ev F x = some d → Rep s d (a.eval x)) :
    y.map a.eval = none ∧ z = dflt ∨ ∃ k, y.map a.eval = some (.int k z) := by
  cases y with
  | none => exact .inl ⟨rfl, h⟩
  | some u =>
    obtain ⟨k, h⟩ := h
    exact .inr ⟨k, by rw [Option.map_some, (ev_at hp h (hm u rfl) hops).val_eq]⟩
/-- a part of a slice that stays -/
theorem op_sls {T e : TypeId} {sz by' n : Nat} {x : Operand} {lo hi : Option Operand} {L : List Value} {l h : Int} (ho : o.op = .slice T x lo hi none) (hT : slE P T = some (e, sz, by')) (hx : Ev pc F x (.slf sz n L)) (hlo : Bd pc F lo 0 l) (hhi : Bd pc F hi n h)
    (hb : pc = true → 0 ≤ l ∧ l ≤ h ∧ h ≤ n) : DOp P pc o F M [] (.slf sz (h.toNat - l.toNat) ((L.drop (l.toNat * sz)).take ((h.toNat - l.toNat) * sz))) [] := by
  intro hp a s hok hops _
  obtain ⟨b1, b2, b3⟩ := hb hp
  have hr := ev_at hp hx (by simp [ho, Op.operands]) hops
  generalize hv : a.eval x = vx at hr
  cases hr with
  | @slf _ _ cap ad _ hl hn hc ha hL =>
    refine dg_val hok (run_slice ho hT hv (bd_at hp hlo (fun u e => by subst e; simp [ho, Op.operands]) hops) (bd_at hp hhi (fun u e => by subst e; simp [ho, Op.operands]) hops) b1 b2 b3 hn) ?_
    have hlen : ((L.drop (l.toNat * sz)).take ((h.toNat - l.toNat) * sz)).length = (h.toNat - l.toNat) * sz := by
      rw [List.length_take, List.length_drop, hl, ← Nat.mul_sub_right_distrib]
      exact Nat.min_eq_left (Nat.mul_le_mul_right _ (by omega))
    refine .slf hlen (by omega) (by omega) (fun e => ?_) ?_
    · split at e
      · omega
      · cases ad with
        | none => have := ha rfl; omega
        | some ad => cases e
    · rcases hL with rfl | ⟨b, q, rfl, hI, hcl⟩
      · left; simp
      · by_cases hz : cap = l.toNat
        · left
          have : h.toNat - l.toNat = 0 := by omega
          rw [this]; simp
        · right
          rw [if_neg hz]
          exact ⟨b, q + l.toNat * sz, by rw [Option.map_some, Addr.add_mid], hI, cellsAt_sub hcl _ _⟩
theorem op_slsr {α : Type} {en : α → List Value} {r : List α} {T e : TypeId} {sz by' : Nat} {x : Operand} {lo hi : Option Operand} {l h : Int} {i j : Nat} (hen : ∀ a, (en a).length = sz) (ho : o.op = .slice T x lo hi none) (hT : slE P T = some (e, sz, by')) (hx : Ev pc F x (.slf sz r.length (r.flatMap en))) (hlo : Bd pc F lo 0 l) (hhi : Bd pc F hi r.length h)
    (hl : l = (i : Int)) (hh : h = (j : Int)) (hij : pc = true → i ≤ j ∧ j ≤ r.length) : DOp P pc o F M [] (.slf sz (j - i) (((r.drop i).take (j - i)).flatMap en)) [] := by
  subst hl hh
  have := op_sls (P := P) (M := M) ho hT hx hlo hhi (fun hp => by have := hij hp; omega)
  rw [Int.toNat_natCast, Int.toNat_natCast, flat_drop hen, flat_take hen] at this
  exact this
theorem fill_full {sz : Nat} : ∀ (vs : List Value) (k : Nat) (cs : Array Value) (pre : List Value), (∀ v ∈ vs, v.cells.size = sz) → pre.length = k * sz → cs.toList.take (k * sz) = pre → cs.size = (k + vs.length) * sz →
    Instr.fill (fun i => some (i * sz, sz)) cs ((List.range' k vs.length).zip vs) = some (pre ++ vs.flatMap fun v => v.cells.toList).toArray
  | [], k, cs, pre, _, hpl, hp, hs => by
    simp only [List.length_nil, List.range'_zero, List.zip_nil_left, Instr.fill, List.flatMap_nil, List.append_nil, Option.some.injEq]
    have : cs.toList = pre := by
      rw [← hp]
      exact (List.take_of_length_le (by simp [hs])).symm
    rw [← this]
  | v :: vs, k, cs, pre, hv, hpl, hp, hs => by
    have hv0 := hv v (List.mem_cons_self ..)
    simp only [List.length_cons] at hs
    rw [List.length_cons, List.range'_succ, List.zip_cons_cons, Instr.fill]
    have hfit : ¬ (k * sz + v.cells.size > cs.size) := by
      rw [hv0, hs, ← Nat.succ_mul]
      exact Nat.not_lt.2 (Nat.mul_le_mul_right _ (by omega))
    simp only [hv0, bne_self_eq_false, Bool.false_or, ne_eq, not_true_eq_false, decide_false, decide_eq_true_eq]
    rw [if_neg (by simp; rw [hs, ← Nat.succ_mul]; exact Nat.mul_le_mul_right _ (by omega))]
    -- the fold is a setL
    have fold : ∀ (C : List Value) (j : Nat) (cs : Array Value), (List.foldl (fun (acc : Array Value) (p : Value × Nat) => acc.setIfInBounds (k * sz + p.2) p.1) cs (C.zipIdx j)).toList = setL cs.toList (k * sz + j) C := by
      intro C
      induction C with
      | nil => intro j cs; rfl
      | cons c C ih => intro j cs; rw [List.zipIdx_cons, List.foldl_cons, ih, setL, Array.toList_setIfInBounds, Nat.add_assoc]
    have hfold := fold v.cells.toList 0 cs
    rw [Nat.add_zero] at hfold
    have hcl : v.cells.toList.length = sz := by simpa using hv0
    have hle : k * sz + v.cells.toList.length ≤ cs.toList.length := by
      simp only [hcl, Array.length_toList]; rw [hs, ← Nat.succ_mul]; exact Nat.mul_le_mul_right _ (by omega)
    rw [setL_eq _ _ _ hle] at hfold
    have hz : (v.cells.zipIdx.foldl (fun (acc : Array Value) (p : Value × Nat) => acc.setIfInBounds (k * sz + p.2) p.1) cs).toList = (pre ++ v.cells.toList) ++ cs.toList.drop (k * sz + v.cells.toList.length) := by
      rw [← hp, ← hfold, ← Array.foldl_toList]
      congr 1
      simp [Array.toList_zipIdx]
    have ih := fill_full vs (k + 1) (v.cells.zipIdx.foldl (fun (acc : Array Value) (p : Value × Nat) => acc.setIfInBounds (k * sz + p.2) p.1) cs) (pre ++ v.cells.toList) (fun u hu => hv u (List.mem_cons_of_mem _ hu)) (by rw [List.length_append, hpl, hcl, Nat.succ_mul])
      (by rw [hz]; exact List.take_left' (by rw [List.length_append, hpl, hcl, Nat.succ_mul])) (by
        rw [← Array.length_toList, hz, List.length_append, List.length_append, List.length_drop, hpl, hcl, Array.length_toList, hs]
        have : (k + 1) * sz ≤ (k + (vs.length + 1)) * sz := Nat.mul_le_mul_right _ (by omega)
        rw [Nat.succ_mul] at this
        rw [show k + 1 + vs.length = k + (vs.length + 1) by omega]
        omega)
    rw [List.flatMap_cons, ← List.append_assoc]
    exact ih
theorem run_buildSlice {T e : TypeId} {sz by' n : Nat} {ps : List (Nat × Operand)} {vs : List Value} {a : Act} {w : World} {Z : List Value} (ho : o.op = .buildSlice T n ps.toArray) (hT : slE P T = some (e, sz, by')) (hZ : zrC P e = some Z) (hi : ps.map (·.1) = List.range' 0 n) (hv : (ps.map (·.2)).map a.eval = vs)
    (hs : ∀ v ∈ vs, v.cells.size = sz) (hbig : n * sz ≤ 16777216) : (execOp a.eval o).run P w = .ok (.value (.slice (some ⟨w.heap.size, 0, none⟩) n n)) (w.alloc (.cells (vs.flatMap fun v => v.cells.toList).toArray e)) := by
  obtain ⟨e1, i, e2, e3, _⟩ := slE_spec hT
  obtain ⟨i', z, q1, q2, q3⟩ := zrC_spec hZ
  rw [e2] at q1
  obtain rfl := Option.some.inj q1
  have hlen : vs.length = n := by
    rw [← hv, List.length_map, List.length_map]
    have := congrArg List.length hi
    simpa using this
  have hparts : (ps.toArray.map fun (i, x) => (i, a.eval x)).toList = (List.range' 0 n).zip vs := by
    simp only [List.map_toArray]
    rw [← hi, ← hv]
    clear hi hv ho
    induction ps with
    | nil => rfl
    | cons p ps ih => simp only [List.map_cons, List.zip_cons_cons]; rw [← ih]
  unfold execOp
  simp only [ho]
  refine run_v ?_
  have hfill : ∀ zs : Array Value, Instr.fill (fun i => some (i * sz, sz)) ((Array.range (n * sz)).map (zs[· % zs.size]!)) ((List.range' 0 n).zip vs) = some (vs.flatMap fun v => v.cells.toList).toArray := by
    intro zs
    have := fill_full (sz := sz) vs 0 ((Array.range (n * sz)).map (zs[· % zs.size]!)) [] hs (by simp) (by simp) (by simp [hlen])
    rw [hlen] at this
    simpa using this
  have hb : ¬ (2 ^ 24 < n * sz) := by omega
  have hsz : (sizeOf e).run P w = .ok sz w := by simp [sizeOf, typeInfo, e2, e3]
  have hz0 : (zeroValue e).run P w = .ok z w := by simp [zeroValue, typeInfo, e2, q2]
  have hnr : ∀ (cs : Array Value), (newRow e cs).run P w = .ok ⟨w.heap.size, 0, none⟩ (w.alloc (.cells cs e)) := fun _ => rfl
  simp only [Instr.buildSlice, Sem.run_bind, run_underlying e1, Result.andThen_ok, hsz, gt_iff_lt, hb, if_false, hparts]
  by_cases hz : n * sz = 0
  · have h1 := hfill #[]
    simp only [hz, if_true, Sem.run_pure, Result.andThen_ok]
    rw [hz] at h1
    simp only [h1, Sem.run_bind, hnr, Result.andThen_ok, Sem.run_pure]
  · have h1 := hfill z.cells
    simp only [hz, if_false, Sem.run_bind, hz0, Sem.run_pure, Result.andThen_ok, h1, hnr]
section
variable {T e : TypeId} {sz by' n : Nat} {ps : List (Nat × Operand)} {vs Z : List Value}
theorem evV_ps {a : Act} {s : St} (hp : pc = true) (ho : o.op = .buildSlice T n ps.toArray) (h : EvV pc F (ps.map (·.2)) vs) (hops : ∀ x ∈ o.op.operands, ∀ d, ev F x = some d → Rep s d (a.eval x)) : (ps.map (·.2)).map a.eval = vs :=
  evV_eq hp _ _ h fun x hx => hops x (by rw [ho]; simpa [Op.operands] using hx)
theorem cells_sum (hs : ∀ v ∈ vs, v.cells.size = sz) : (vs.flatMap fun v => v.cells.toList).length = vs.length * sz := by
  induction vs with
  | nil => simp
  | cons v vs ih => rw [List.flatMap_cons, List.length_append, ih (fun u hu => hs u (List.mem_cons_of_mem _ hu)), List.length_cons, Nat.succ_mul]; simp [hs v (List.mem_cons_self ..)]; omega
/-- a slice of plain values, that stays as it is made -/
theorem op_bs (ho : o.op = .buildSlice T n ps.toArray) (hT : slE P T = some (e, sz, by')) (hZ : zrC P e = some Z) (hi : ps.map (·.1) = List.range' 0 n) (hv : EvV pc F (ps.map (·.2)) vs) (hs : vs.all (fun v => v.cells.size == sz) = true) (hbig : n * sz ≤ 16777216) (hn : n ≤ 16777216) :
    DOp P pc o F M [] (.slf sz n (vs.flatMap fun v => v.cells.toList)) [] := by
  intro hp a s hok hops _
  have hs' : ∀ v ∈ vs, v.cells.size = sz := fun v hv => by simpa using List.all_eq_true.1 hs v hv
  have hvs := evV_ps hp ho hv hops
  have hlen : vs.length = n := by
    rw [← hvs, List.length_map, List.length_map]
    have := congrArg List.length hi
    simpa using this
  have hrun := run_buildSlice (P := P) (w := s.w) ho hT hZ hi hvs hs' hbig
  refine dg_step (s' := ⟨s.β, fun b => s.I b ∨ b = s.w.heap.size, s.M, _⟩) hrun (step_imm hok _) rfl (.slf (by rw [cells_sum hs', hlen]) (Nat.le_refl _) (by unfold maxLen; omega) (fun e => by cases e) (.inr ⟨_, 0, rfl, .inr rfl, ?_⟩))
  simpa using cellsAt_block (heap_alloc_new s.w _) 0
/-- .. as an array of its own, in the place j -/
theorem op_bsa (j : Nat) (ho : o.op = .buildSlice T n ps.toArray) (hT : slE P T = some (e, sz, by')) (hZ : zrC P e = some Z) (hi : ps.map (·.1) = List.range' 0 n) (hv : EvV pc F (ps.map (·.2)) vs) (hs : vs.all (fun v => v.cells.size == sz) = true) (hbig : n * sz ≤ 16777216) (hn : n ≤ 16777216) (hj : M[j]? = some .hole) :
    DOp P pc o F M [j] (.arr j) [(j, .arr e sz n (vs.flatMap fun v => v.cells.toList))] := by
  intro hp a s hok hops hfp
  have hs' : ∀ v ∈ vs, v.cells.size = sz := fun v hv => by simpa using List.all_eq_true.1 hs v hv
  have hvs := evV_ps hp ho hv hops
  have hlen : vs.length = n := by
    rw [← hvs, List.length_map, List.length_map]
    have := congrArg List.length hi
    simpa using this
  have hj' : s.M[j]? = some .hole := by rw [hfp j (by simp)]; exact hj
  have hjl : j < s.β.length := by rw [hok.len]; exact (List.getElem?_eq_some_iff.1 hj').1
  have hrun := run_buildSlice (P := P) (w := s.w) ho hT hZ hi hvs hs' hbig
  refine dg_step (s' := ⟨s.β.set j (.slice (some ⟨s.w.heap.size, 0, none⟩) n n), s.I, s.M.set j (.arr e sz n (vs.flatMap fun v => v.cells.toList)), _⟩) hrun (tr_new hok hj' _ _ _ (by simp) (fun b hb => by cases hb; rfl) (fun b h => Below.heap_alloc _ _ _ h) (fun b hb => by cases hb; simp) (by simp) rfl rfl rfl ?_) rfl (.arr (by simp [hjl]))
  have := World.ownsRow_lit (base := 0) (e := e) (size := sz) s.w (vs.flatMap fun v => v.cells.toList).toArray n (Nat.zero_le _) (by unfold maxLen; omega) (by simp only [List.size_toArray]; rw [cells_sum hs', hlen])
  exact this
end

/-! ### append -/
/-- what is appended: m elements, these cells -/
def SrcOk (s : St) (v : Value) (m : Nat) (L2 : List Value) : Prop := ∃ a c, v = .slice a m c ∧ ((a = none ∧ m = 0 ∧ c = 0 ∧ L2 = []) ∨ ∃ ad, a = some ad ∧ ∀ (j : Nat) u, L2[j]? = some u → s.w.cell? (ad.add j) = some u)
def SrcD (M : List Blk) (fp : List Nat) (d : D) (m sz : Nat) (L2 : List Value) : Prop := ∀ (s : St) v, Ok s → (∀ i ∈ fp, s.M[i]? = M[i]?) → Rep s d v → L2.length = m * sz ∧ SrcOk s v m L2
theorem src_slf {m sz : Nat} {L2 : List Value} : SrcD M [] (.slf sz m L2) m sz L2 := by
  intro s v _ _ hr
  cases hr with
  | @slf _ _ cap ad _ hl hn hc ha hL =>
    refine ⟨hl, ad, cap, rfl, ?_⟩
    rcases hL with rfl | ⟨b, q, rfl, hI, hcl⟩
    · cases ad with
      | none => have := ha rfl; exact .inl ⟨rfl, by omega, this, rfl⟩
      | some ad => exact .inr ⟨ad, rfl, fun j u h => by simp at h⟩
    · exact .inr ⟨_, rfl, fun j u hj => by rw [Addr.add_mid]; exact hcl j u hj⟩
theorem src_arr {i m sz : Nat} {T' : TypeId} {L2 : List Value} (hM : M[i]? = some (.arr T' sz m L2)) : SrcD M [i] (.arr i) m sz L2 := by
  intro s v hok hfp hr
  cases hr with
  | @arr _ ad n' c h =>
    have hM' : s.M[i]? = some (.arr T' sz m L2) := by rw [hfp i (by simp)]; exact hM
    have hk : s.w.ownsRow 0 T' sz _ m L2 := hok.blk i _ _ hM' h
    refine ⟨hk.1, ad, c, ?_, ?_⟩
    · rcases hk.2 with ⟨e1, e2⟩ | ⟨g, cap, cur, e1, _⟩
      · cases e1; rw [e2]
      · cases e1; rfl
    · rcases hk.2 with ⟨e1, e2⟩ | ⟨g, cap, cur, e1, _⟩
      · cases e1
        subst e2
        exact .inl ⟨rfl, rfl, rfl, List.eq_nil_of_length_eq_zero (by simpa using hk.1)⟩
      · cases e1
        obtain ⟨_, _, _, _, hc, _⟩ := arr_cells hok (by rw [hfp i (by simp)]; exact hM) h
        exact .inr ⟨_, rfl, fun j u hj => by rw [Addr.add_mid]; simpa using hc j u hj⟩
/-- append onto an array of its own: what comes, and where it lies -/
theorem run_append_D {T e : TypeId} {sz by' n m : Nat} {i : TypeInfo} {z : Value} {ty : TypeId} {s : St} {h v2 : Value} {L L2 : List Value} (hT : P.underlying T = some (.slice e)) (hi : P.info? e = some i) (hsz : i.size = sz) (hby : i.bytes = by') (hz : i.zero = some z) (hzs : z.cells.size = sz)
    (hown : s.w.ownsRow 0 e sz h n L) (hl : L2.length = m * sz) (hsrc : SrcOk s v2 m L2) (h1 : ∀ u ∈ L2, u.oneCell' = true) (h63 : n + m ≤ maxLen) (hbytes : (n + m) * by' ≤ 140737488355328) :
    ∃ h' w', (Builtin.append_ #[T, T] ty #[h, v2]).run P s.w = .ok h' w' ∧ w'.ownsRow 0 e sz h' (n + m) (L ++ L2) ∧ s.w.grownBy w' h.ownBlock ∧ (∀ b, h'.ownBlock = some b → h.ownBlock = some b ∨ s.w.heap.size ≤ b) := by
  subst hsz hby
  obtain ⟨a, c, rfl, hsrc⟩ := hsrc
  rcases hsrc with ⟨rfl, rfl, rfl, rfl⟩ | ⟨ad, rfl, hcells⟩
  · refine ⟨h, s.w, run_append_owned_none s.w 0 T ty e i i.size hT hi h n L hown, by simpa using hown, ⟨rfl, rfl, rfl, Nat.le_refl _, fun _ _ _ => rfl⟩, fun b hb => .inl hb⟩
  · have h63' : ((n + m : Nat) : Int) ≤ 9223372036854775807 := by simp only [maxLen] at h63; omega
    have grown : ∀ old, (s.w.drew.alloc (.cells (L.toArray ++ L2.toArray ++ Builtin.zeroCells z.cells (grownCap s.w (n + m) old e - (n + m))) e)).ownsRow 0 e i.size (.slice (some ⟨s.w.heap.size, 0, none⟩) (n + m) (grownCap s.w (n + m) old e)) (n + m) (L ++ L2) := by
      intro old
      have hge := grownCap_ge s.w (n + m) old e
      have hll : (L ++ L2).length = (n + m) * i.size := by rw [List.length_append, hown.1, hl, Nat.add_mul]
      refine ⟨hll, .inr ⟨s.w.heap.size, _, _, rfl, Nat.zero_le _, heap_alloc_new s.w.drew _, hge, grownCap_le_maxLen s.w _ _ _ h63, ?_, ?_⟩⟩
      · simp only [Array.size_append, List.size_toArray, size_zeroCells, hzs, hown.1, hl, ← Nat.add_mul]
        congr 1
        omega
      · simp only [Array.toList_append, List.append_assoc]
        rw [← List.append_assoc, ← hll]
        exact List.take_left
    rcases hown.2 with ⟨e1, e2⟩ | ⟨g, cap, cur, e1, _, e3, e4, e5, e6, e7⟩
    · subst e1 e2
      have hL : L = [] := List.eq_nil_of_length_eq_zero (by simpa using hown.1)
      subst hL
      by_cases hm : m = 0
      · subst hm
        have hL2 : L2 = [] := List.eq_nil_of_length_eq_zero (by simpa using hl)
        subst hL2
        refine ⟨.slice none 0 0, s.w, ?_, World.ownsRow_nil s.w 0 e i.size, ⟨rfl, rfl, rfl, Nat.le_refl _, fun _ _ _ => rfl⟩, fun b hb => .inl hb⟩
        simp [Builtin.append_, run_underlying hT, sizeOf, typeInfo, hi, Builtin.lenOf, Builtin.firstCells, loadCells, loadCellsFrom]
      · have hr := run_append_nil (P := P) s.w T ty e i z hT hi hz ad m c L2 hl hcells (by omega) (by omega) (by rw [Nat.zero_add] at hbytes; omega)
        have hg := grown 0
        simp only [Nat.zero_add, List.nil_append, Array.empty_append] at hg hr ⊢
        exact ⟨_, _, hr, hg, ⟨rfl, rfl, rfl, by simp, fun k hk _ => Below.heap_alloc _ _ _ hk⟩, fun b hb => .inr (by cases hb; exact Nat.le_refl _)⟩
    · subst e1
      by_cases hroom : n + m ≤ cap
      · obtain ⟨w', r1, r2, r3⟩ := run_append_fits (P := P) s.w 0 T ty e i i.size hT hi rfl g n cap L hown ad m c L2 hl hcells h1 hroom
        exact ⟨_, w', r1, r2, r3, fun b hb => .inl hb⟩
      · have holds : ∀ (j : Nat) u, L[j]? = some u → s.w.cell? ((⟨g, 0, none⟩ : Addr).add j) = some u := hown.cells (g := g) rfl
        have hr := run_append_grow (P := P) s.w T ty e i z hT hi hz ⟨g, 0, none⟩ n cap L hown.1 holds ad m c L2 hl hcells (by omega) h63' (growslice_fits (by omega) hbytes)
        exact ⟨_, _, hr, grown cap, ⟨rfl, rfl, rfl, by simp, fun k hk _ => Below.heap_alloc _ _ _ hk⟩, fun b hb => .inr (by cases hb; exact Nat.le_refl _)⟩
theorem hb_own {h : Value} (hs : (h = .slice none 0 0) ∨ ∃ a n c, h = .slice (some a) n c) : hb h = h.ownBlock := by
  rcases hs with rfl | ⟨a, n, c, rfl⟩ <;> rfl
theorem op_app {T e : TypeId} {sz by' n m i j : Nat} {x y : Operand} {d : D} {L L2 Z : List Value} {fp : List Nat} (ho : o.op = .call { callee := .builtin .append, args := #[x, y], argTypes := #[T, T] }) (hT : slE P T = some (e, sz, by')) (hZ : zrC P e = some Z) (hZl : Z.length = sz)
    (hx : Ev pc F x (.arr i)) (hy : Ev pc F y d) (hsrc : SrcD M fp d m sz L2) (hM : M[i]? = some (.arr e sz n L)) (hj : M[j]? = some .hole) (h1 : pc = true → L2.all (·.oneCell') = true) (hbd : pc = true → (n + m) * by' ≤ 140737488355328 ∧ n + m ≤ 140737488355328) :
    DOp P pc o F M (i :: j :: fp) (.arr j) [(i, .gone), (j, .arr e sz (n + m) (L ++ L2))] := by
  intro hp a s hok hops hfp
  obtain ⟨e1, ti, e2, e3, e4⟩ := slE_spec hT
  obtain ⟨ti', z, q1, q2, q3⟩ := zrC_spec hZ
  rw [e2] at q1
  obtain rfl := Option.some.inj q1
  obtain ⟨b1, b2⟩ := hbd hp
  have hM' : s.M[i]? = some (.arr e sz n L) := by rw [hfp i (by simp)]; exact hM
  have hj' : s.M[j]? = some .hole := by rw [hfp j (by simp)]; exact hj
  have hij : i ≠ j := fun h => by subst h; rw [hM'] at hj'; cases hj'
  have hjl : j < s.β.length := by rw [hok.len]; exact (List.getElem?_eq_some_iff.1 hj').1
  have hrx := ev_at hp hx (by simp [ho, Op.operands, Call.operands]) hops
  have hry := ev_at hp hy (by simp [ho, Op.operands, Call.operands]) hops
  obtain ⟨hl2, hso⟩ := hsrc s _ hok (fun k hk => hfp k (by simp [hk])) hry
  generalize hv : a.eval x = vx at hrx
  cases hrx with
  | @arr _ ad n' c hβ =>
    have hk : s.w.ownsRow 0 e sz _ n L := hok.blk i _ _ hM' hβ
    obtain ⟨h', w', r1, r2, r3, r4⟩ := run_append_D (P := P) (ty := o.type) (m := m) e1 e2 e3 e4 q2 (by rw [← hZl, ← q3]; simp) hk hl2 hso (fun u hu => List.all_eq_true.1 (h1 hp) u hu) (by unfold maxLen; omega) b1
    have hs' : (h' = .slice none 0 0) ∨ ∃ a n c, h' = .slice (some a) n c := by
      rcases r2.2 with ⟨q, _⟩ | ⟨g, cap, cur, q, _⟩
      · exact .inl q
      · exact .inr ⟨_, _, _, q⟩
    have hs0 : (Value.slice ad n' c = .slice none 0 0) ∨ ∃ a n k, Value.slice ad n' c = .slice (some a) n k := by
      rcases hk.2 with ⟨q, _⟩ | ⟨g, cap, cur, q, _⟩
      · exact .inl q
      · exact .inr ⟨_, _, _, q⟩
    have o1 := hb_own hs'
    have o0 := hb_own hs0
    have hblk : s.w.heap.size ≤ w'.heap.size := r3.size
    have hβj : s.β[j]? = some .nilFunc := by
      have q : s.β[j]? = some s.β[j] := List.getElem?_eq_getElem hjl
      have : s.β[j] = .nilFunc := hok.blk j .hole _ hj' q
      rw [q, this]
    have from_ : ∀ b, hb h' = some b → s.w.heap.size ≤ b ∨ (hb (Value.slice ad n' c) = some b) := by
      intro b hbb
      rw [o1] at hbb
      rcases r4 b hbb with h | h
      · exact .inr (by rw [o0]; exact h)
      · exact .inl h
    have ht : Tr s ⟨s.β.set j h', s.I, (s.M.set i .gone).set j (.arr e sz (n + m) (L ++ L2)), w'⟩ := by
      refine step_set hok j (s.M.set i .gone) h' _ w' (by simp) (fun k kb hkb => ?_) (by rw [← hok.len]; exact hjl) (.inl hβj) (by rcases hs' with rfl | ⟨_, _, _, rfl⟩ <;> simp) r2 (fun b hbb k kb hh hne q1 q2 q3 q4 => ?_) (fun b hbb => (from_ b hbb).imp id fun h => live_of hM' rfl hβ h) (fun b hbb => ?_) (fun b => hb (Value.slice ad n' c) = some b) (fun b hdr => ⟨live_of hM' rfl hβ hdr, fun k kb hh hne q1 q2 q3 q4 => ?_⟩) (fun b hlt hne hnd => ?_) r3.os r3.tape r3.output hblk
      · by_cases hki : i = k
        · subst hki
          have hlt : i < s.M.length := (List.getElem?_eq_some_iff.1 hM').1
          rw [List.getElem?_set_self hlt] at hkb
          exact .inr (Option.some.inj hkb).symm
        · rw [List.getElem?_set_ne hki] at hkb; exact .inl hkb
      · have hki : i ≠ k := fun h => by
          subst h
          have hlt : i < s.M.length := (List.getElem?_eq_some_iff.1 hM').1
          rw [List.getElem?_set_self hlt] at q1
          cases q1; cases q2
        rw [List.getElem?_set_ne hki] at q1
        rcases from_ b hbb with h | h
        · exact absurd (hok.lt b (live_of q1 q2 q3 q4)).1 (Nat.not_lt.2 h)
        · exact hki (hok.inj i k _ kb _ hh b hM' rfl hβ h q1 q2 q3 q4)
      · replace hbb : hb h' = some b := hbb
        rw [o1] at hbb
        exact (r2.lt b hbb).2
      · have hki : i ≠ k := fun h => by
          subst h
          have hlt : i < s.M.length := (List.getElem?_eq_some_iff.1 hM').1
          rw [List.getElem?_set_self hlt] at q1
          cases q1; cases q2
        rw [List.getElem?_set_ne hki] at q1
        exact hki (hok.inj i k _ kb _ hh b hM' rfl hβ hdr q1 q2 q3 q4)
      · exact r3.block b hlt fun h => hnd (by rw [o0]; exact h.symm)
    refine dg_step (s' := ⟨s.β.set j h', s.I, (s.M.set i .gone).set j (.arr e sz (n + m) (L ++ L2)), w'⟩) (run_builtin ho (fun cs => by rfl) (by simpa [hv] using r1)) ht rfl ?_
    rcases hs' with rfl | ⟨_, _, _, rfl⟩
    · exact .arr (by simp [hjl])
    · exact .arr (by simp [hjl])
end
end Go.Proofs.Ytmpodnadoebclaa
namespace Go.Proofs.Ytmpodnadoebclaa
set_option linter.unusedVariables false
set_option linter.unusedSimpArgs false
open Go.RowKit
theorem pl {a b : Bool} (h : (a && b) = true) : a = true := by cases a <;> simp_all
section
variable {P : Program} {fn : Func} {F : Fr} {M : List Blk} {t u v : Tmp} {d d' e f dr : D}
/-- the end of a call that leaves no memory of its own -/
theorem kend0 {pan : D → List Blk → Prop} (hr : ResD P fn F M d) (hv : vw [] allv M d = some d') (h : d' = dr) : DEnd P fn 0 (fun d M => d = dr ∧ M = []) pan [] none F M := .ret hr (σ := []) rfl hv (Mo := []) trivial ⟨h, rfl⟩
theorem kend {m : Nat} {Mo : List Blk} {pan : D → List Blk → Prop} (σ : List Nat) (hr : ResD P fn F M d) (hσ : okσ m σ = true) (hv : vw σ allv M d = some d') (h : d' = dr) (hM : MFits σ allv M σ Mo) : DEnd P fn m (fun d M => d = dr ∧ M = Mo) pan [] none F M := .ret hr hσ hv hM ⟨h, rfl⟩
end
section
variable {P : Program} {pc : Bool} {o : Oper} {F : Fr} {M : List Blk}

/-! ### structs built -/
/-- where each field lies, and how many cells it has -/
def fdL (P : Program) (T : TypeId) : Option (List (Nat × Nat)) := match P.underlying T with
  | some (.struct fs) => fs.toList.mapM fun f => (P.info? f.type).map fun i => (f.offset, i.size)
  | _ => none
def fillL (offs : List (Nat × Nat)) : List Value → List (Nat × List Value) → List Value
  | Z, [] => Z
  | Z, (i, C) :: r => fillL offs (setL Z ((offs.getD i (0, 0)).1) C) r
def fillB (offs : List (Nat × Nat)) (n : Nat) : List (Nat × List Value) → Bool
  | [] => true
  | (i, C) :: r => (match offs[i]? with | some (o, s) => C.length == s && Nat.ble (o + s) n | none => false) && fillB offs n r
theorem fill_struct {offs : List (Nat × Nat)} : ∀ (ps : List (Nat × Value)) (Z : Array Value), fillB offs Z.size (ps.map fun p => (p.1, p.2.cells.toList)) = true →
    Instr.fill (fun i => offs.toArray[i]?) Z ps = some (fillL offs Z.toList (ps.map fun p => (p.1, p.2.cells.toList))).toArray
  | [], Z, _ => by simp [Instr.fill, fillL]
  | (i, v) :: r, Z, h => by
    simp only [List.map_cons, fillB, Bool.and_eq_true] at h
    obtain ⟨h1, h2⟩ := h
    cases e : offs[i]? with
    | none => rw [e] at h1; cases h1
    | some q =>
      obtain ⟨off, sz⟩ := q
      rw [e] at h1
      simp only [Bool.and_eq_true, beq_iff_eq, Array.length_toList] at h1
      have hle := Nat.le_of_ble_eq_true h1.2
      have fold : ∀ (C : List Value) (j : Nat) (cs : Array Value), (List.foldl (fun (acc : Array Value) (p : Value × Nat) => acc.setIfInBounds (off + p.2) p.1) cs (C.zipIdx j)).toList = setL cs.toList (off + j) C := by
        intro C
        induction C with
        | nil => intro j cs; rfl
        | cons c C ih => intro j cs; rw [List.zipIdx_cons, List.foldl_cons, ih, setL, Array.toList_setIfInBounds, Nat.add_assoc]
      have hz : (v.cells.zipIdx.foldl (fun (acc : Array Value) (p : Value × Nat) => acc.setIfInBounds (off + p.2) p.1) Z).toList = setL Z.toList off v.cells.toList := by
        have := fold v.cells.toList 0 Z
        rw [Nat.add_zero] at this
        rw [← this, ← Array.foldl_toList]
        congr 1
        simp [Array.toList_zipIdx]
      have hsz : (v.cells.zipIdx.foldl (fun (acc : Array Value) (p : Value × Nat) => acc.setIfInBounds (off + p.2) p.1) Z).size = Z.size := by
        rw [← Array.length_toList, hz, setL_len, Array.length_toList]
      have ih := fill_struct r (v.cells.zipIdx.foldl (fun (acc : Array Value) (p : Value × Nat) => acc.setIfInBounds (off + p.2) p.1) Z) (by rw [hsz]; exact h2)
      rw [Instr.fill]
      have eo : offs.toArray[i]? = some (off, sz) := by simpa using e
      simp only [eo, h1.1, ne_eq, not_true_eq_false, decide_false, Bool.false_or, decide_eq_true_eq]
      rw [if_neg (by simp; rw [← h1.1] at hle; omega)]
      rw [List.map_cons, fillL, List.getD_eq_getElem?_getD, e]
      simp only [Option.getD_some]
      rw [← hz]
      exact ih
theorem mapM_run {α β : Type} {w : World} (f : α → Sem β) (g : α → Option β) (h : ∀ a b, g a = some b → (f a).run P w = .ok b w) : ∀ (l : List α) (r : List β), l.mapM g = some r → (l.mapM f).run P w = .ok r w
  | [], r, hr => by simp at hr; subst hr; rfl
  | a :: l, r, hr => by
    simp only [List.mapM_cons, Option.bind_eq_bind, Option.bind_eq_some_iff] at hr
    obtain ⟨b, h1, r', h2, h3⟩ := hr
    cases h3
    rw [List.mapM_cons, Sem.run_bind, h a b h1, Result.andThen_ok, Sem.run_bind, mapM_run f g h l r' h2, Result.andThen_ok]
    rfl
theorem op_build {T : TypeId} {ps : List (Nat × Operand)} {vs : List Value} {offs : List (Nat × Nat)} {Z R : List Value} (ho : o.op = .build T ps.toArray) (hT : fdL P T = some offs) (hZ : zrC P T = some Z) (hv : EvV pc F (ps.map (·.2)) vs)
    (hB : fillB offs Z.length ((ps.map (·.1)).zip (vs.map fun v => v.cells.toList)) = true) (hR : fillL offs Z ((ps.map (·.1)).zip (vs.map fun v => v.cells.toList)) = R) : DOp P pc o F M [] (.val (.agg R.toArray)) [] := by
  intro hp a s hok hops _
  have hvs : (ps.map (·.2)).map a.eval = vs := evV_eq hp _ _ hv fun x hx => hops x (by rw [ho]; simpa [Op.operands] using hx)
  obtain ⟨i, z, e1, e2, e3⟩ := zrC_spec hZ
  refine dg_val (v := .agg R.toArray) hok ?_ (.val _)
  unfold fdL at hT
  split at hT
  · rename_i fs hu
    have hparts : (ps.toArray.map fun (i, x) => (i, a.eval x)).toList = (ps.map (·.1)).zip vs := by
      rw [← hvs]
      simp only [List.map_toArray]
      clear hv hB hR hvs ho
      induction ps with
      | nil => rfl
      | cons p ps ih => simp only [List.map_cons, List.zip_cons_cons]; rw [← ih]
    have hz : ((ps.map (·.1)).zip vs).map (fun p => (p.1, p.2.cells.toList)) = (ps.map (·.1)).zip (vs.map fun v => v.cells.toList) := by
      rw [List.zip_map_right]
      rfl
    have hpl : (fs.mapM fun f => (do pure (f.offset, ← sizeOf f.type) : Sem (Nat × Nat))).run P s.w = .ok offs.toArray s.w := by
      rw [Array.mapM_eq_mapM_toList, Sem.run_map, mapM_run (P := P) (w := s.w) _ _ (fun f b hb => ?_) fs.toList offs hT]
      · rfl
      · simp only [Option.map_eq_some_iff] at hb
        obtain ⟨j, hj, rfl⟩ := hb
        simp [sizeOf, typeInfo, hj]
    have hf := fill_struct (offs := offs) ((ps.map (·.1)).zip vs) z.cells (by rw [hz, ← Array.length_toList, e3]; exact hB)
    rw [hz, e3, hR] at hf
    unfold execOp
    simp only [ho]
    refine run_v ?_
    have hz0 : (zeroValue T).run P s.w = .ok z s.w := by simp [zeroValue, typeInfo, e1, e2]
    simp only [Instr.build, Sem.run_bind, hz0, run_underlying hu, Result.andThen_ok, hpl, hparts, hf, Sem.run_pure]
  · cases hT
/-- .. with no field named -/
theorem op_build0 {T : TypeId} {offs : List (Nat × Nat)} {Z : List Value} (ho : o.op = .build T #[]) (hT : fdL P T = some offs) (hZ : zrC P T = some Z) : DOp P pc o F M [] (.val (.agg Z.toArray)) [] :=
  op_build (ps := []) (vs := []) ho hT hZ trivial rfl rfl

/-! ### bools and strings -/
theorem op_min {x y : Operand} {T U : TypeId} {k : IntKind} {p q : Int} (ho : o.op = .call { callee := .builtin .min, args := #[x, y], argTypes := #[T, U] }) (hx : Ev pc F x (.val (.int k p))) (hy : Ev pc F y (.val (.int k q))) : DOp P pc o F M [] (.val (.int k (min p q))) [] := by
  refine op_val2 hx hy (by simp [ho, Op.operands, Call.operands]) fun _ a w e1 e2 => run_builtin ho (fun cs => rfl) ?_
  have : (if q < p then q else p) = min p q := by rw [Int.min_def]; split <;> split <;> omega
  simp [Builtin.min_, e1, e2, Builtin.min2, this]
end
section
variable {P : Program} {s0 : St} {n : Cx}
/-- a nil slice taken over as an array of its own -/
theorem inv_adopt {F : Fr} {M : List Blk} {a : Act} {w : World} {t : Nat} (e : TypeId) (sz : Nat) (h : Inv s0 n F M a w) (ht : lk F t = some (.val (.slice none 0 0))) : Inv s0 n ((t, .arr M.length) :: F) (M ++ [.arr e sz 0 []]) a w := by
  obtain ⟨h0, s, rfl, rfl, h3, h4, h5, h6⟩ := h
  have t1 := step_hole h3.ok
  have hlen := h3.ok.len
  have hn : (s.M ++ [Blk.hole])[s.M.length]? = some .hole := by simp
  have t2 : Tr ⟨s.β ++ [Value.nilFunc], s.I, s.M ++ [Blk.hole], s.w⟩ ⟨(s.β ++ [Value.nilFunc]).set s.M.length (.slice none 0 0), s.I, (s.M ++ [Blk.hole]).set s.M.length (.arr e sz 0 []), s.w⟩ :=
    tr_new (s := ⟨s.β ++ [Value.nilFunc], s.I, s.M ++ [Blk.hole], s.w⟩) t1.ok (j := s.M.length) hn (.slice none 0 0) (.arr e sz 0 []) s.w (by simp) (fun b hb => by cases hb) (fun b _ => rfl) (fun b hb => by cases hb) (Nat.le_refl _) rfl rfl rfl (World.ownsRow_nil s.w 0 e sz)
  have tt := t1.trans t2
  refine ⟨h0, ⟨(s.β ++ [Value.nilFunc]).set s.M.length (.slice none 0 0), s.I, (s.M ++ [Blk.hole]).set s.M.length (.arr e sz 0 []), s.w⟩, by simp, rfl, h3.trans tt, fun x d hd => ?_, h5, h6.mono h3.ok tt⟩
  rw [lk_cons] at hd
  split at hd
  · rename_i e'
    subst e'
    obtain rfl := Option.some.inj hd
    have := (h4 t _ ht).val_eq
    rw [this]
    exact .arr (by simp [hlen])
  · exact (h4 x d hd).mono h3.ok tt
theorem dwp_adopt {c : Code} {F : Fr} {M M' : List Blk} {K : Cont} (t : Nat) (e : TypeId) (sz : Nat) {m : Nat} (ht : lk F t = some (.val (.slice none 0 0))) (hm : M.length = m) (hM : M ++ [.arr e sz 0 []] = M') (h : dwp P s0 n c ((t, .arr m) :: F) M' K) : dwp P s0 n c F M K := by
  subst hm hM
  exact fun a w hi => h a w (inv_adopt e sz hi ht)
end
end Go.Proofs.Ytmpodnadoebclaa
namespace Go.Proofs.Ytmpodnadoebclaa
set_option linter.unusedVariables false
set_option linter.unusedSimpArgs false
open Go.RowKit
section
variable {P : Program} {s0 : St} {n : Cx}
end
section
variable {P : Program}
def rv (tmps : Array Value) : ResultVar → Sem Value
  | .tmp t => pure (tmps.getD t undef)
  | .cell p t => do loadVar t (← asAddr (tmps.getD p undef))
def RvD (P : Program) (r : ResultVar) (F : Fr) (M : List Blk) (d : D) : Prop := ∀ (s : St) (a : Act), Ok s → s.M = M → FOk s F a → ∃ v, (rv a.tmps r).run P s.w = .ok v s.w ∧ Rep s d v
theorem results_rv (fn : Func) (tmps : Array Value) : results fn tmps = (do let vs ← fn.results.mapM (rv tmps); pure (if h : vs.size = 1 then vs[0] else .tuple vs)) := by
  unfold results
  congr 1
section
variable {fn : Func} {F : Fr} {M : List Blk} {r1 r2 r3 r4 : ResultVar} {d1 d2 d3 d4 d : D}
theorem rs1 (h : fn.results = #[r1]) (h1 : RvD P r1 F M d1) : ResD P fn F M d1 := fun s a ho hM hF => by
  obtain ⟨v1, e1, q1⟩ := h1 s a ho hM hF
  refine ⟨v1, ?_, q1⟩
  rw [results_rv, h]; simp [Sem.run_bind, e1]
theorem rs2 (h : fn.results = #[r1, r2]) (h1 : RvD P r1 F M d1) (h2 : RvD P r2 F M d2) : ResD P fn F M (.tup [d1, d2]) := fun s a ho hM hF => by
  obtain ⟨v1, e1, q1⟩ := h1 s a ho hM hF
  obtain ⟨v2, e2, q2⟩ := h2 s a ho hM hF
  refine ⟨.tuple #[v1, v2], ?_, Rep.tup (vs := [v1, v2]) rfl fun j x y hj hy => ?_⟩
  · rw [results_rv, h]; simp [Sem.run_bind, e1, e2]
  · match j with
    | 0 => simp at hj hy; subst hj; subst hy; exact q1
    | 1 => simp at hj hy; subst hj; subst hy; exact q2
    | j + 2 => simp at hj
theorem rv_t {t : Tmp} (h : lk F t = some d) : RvD P (.tmp t) F M d := fun s a _ _ hF => ⟨_, rfl, hF t d h⟩
/-- a whole struct, or array -/
theorem rv_w {p : Tmp} {T T' : TypeId} {i k : Nat} {L : List Value} (hT : tyB P T = some (true, k)) (h : lk F p = some (.loc i 0)) (hM : M[i]? = some (.flat T' L)) (hl : L.length = k) : RvD P (.cell p T) F M (.val (.agg L.toArray)) := fun s a ho hMs hF => by
  subst hMs
  have hv := hF p _ h
  generalize hvx : slot a p = vx at hv
  cases hv with
  | @loc _ _ b hb =>
    obtain ⟨b', e1, e2⟩ := ho.blk i _ _ hM hb
    cases e1
    obtain ⟨dd, ii, h1, h2, h3, h4⟩ := tyB_spec hT
    refine ⟨_, ?_, .val _⟩
    have hvx' : a.tmps.getD p undef = .pointer (some ⟨b, 0, none⟩) := hvx
    simp only [rv, hvx']
    simp only [asAddr, Sem.run_bind, Sem.run_pure, Result.andThen_ok]
    exact run_loadVar_row s.w b T' T L.toArray (0, 0) dd e2 h1 (by cases dd <;> simp_all [TypeDesc.isRow]) (by simp [h2, h4, hl])
end

/-! ### interfaces, panics -/
section
variable {pc : Bool} {o : Oper} {F : Fr} {M : List Blk}
def zrV (P : Program) (T : TypeId) : Option Value := (P.info? T).bind (·.zero)
end
end
end Go.Proofs.Ytmpodnadoebclaa
namespace Go.Proofs.Ytmpodnadoebclaa
set_option linter.unusedVariables false
set_option linter.unusedSimpArgs false
open Go.RowKit
theorem reps_app {s : St} {l k : List D} {vs us : List Value} (h : Reps s l vs) (h' : Reps s k us) : Reps s (l ++ k) (vs ++ us) := by
  refine ⟨by simp [h.1, h'.1], fun j e v hj hv => ?_⟩
  have hl := h.1
  by_cases h1 : j < l.length
  · rw [List.getElem?_append_left h1] at hj
    rw [List.getElem?_append_left (by omega)] at hv
    exact h.2 j e v hj hv
  · rw [List.getElem?_append_right (by omega)] at hj
    rw [List.getElem?_append_right (by omega), hl] at hv
    exact h'.2 _ e v hj hv
theorem reps_one {s : St} {d : D} {v : Value} (h : Rep s d v) : Reps s [d] [v] := ⟨rfl, fun j e u hj hu => by
  cases j with
  | zero => simp at hj hu; subst hj; subst hu; exact h
  | succ j => simp at hj⟩
theorem reps_vw {s : St} {σ : List Nat} {V : Nat → Bool} {Min : List Blk} {l l' : List D} {vs : List Value} (hok : Ok s) (h : Reps s l vs) (hc : vwL σ V s.M l = some l') : Reps (vst s σ V Min) l' vs := by
  obtain ⟨g1, g2⟩ := vwL_spec _ _ hc
  refine ⟨by rw [h.1, g1], fun j e v hj hv => ?_⟩
  obtain ⟨y, hy, hy2⟩ := g2 j e hj
  exact vw_rep hok (h.2 j y v hy hv) e hy2
/-- memory that no name has -/
theorem step_raw {s : St} (ho : Ok s) (o : Obj) : Tr s ⟨s.β, s.I, s.M, s.w.alloc o⟩ := by
  have keep : ∀ b, b < s.w.heap.size → (s.w.alloc o).heap[b]? = s.w.heap[b]? := fun b h => Below.heap_alloc _ _ _ h
  refine ⟨⟨ho.len, fun i k h h1 h2 => BlkOk.mono (s := s) (s' := ⟨s.β, s.I, s.M, s.w.alloc o⟩) (fun _ _ h _ => h) (fun _ h => h) (fun b hI => keep b (ho.il b hI)) (ho.blk i k h h1 h2) (fun b hl hb => keep b (ho.lt b (live_of h1 hl h2 hb)).1), fun b hb => ?_, ho.inj, fun b hI => ?_⟩,
    hkeep.refl _, fun _ h => h, fun b h => .inl h, fun b hb _ => keep b hb, fun _ h => .inr h, rfl, rfl, rfl, by simp⟩
  · have := ho.lt b hb
    exact ⟨by simp; omega, this.2⟩
  · have := ho.il b hI
    simp; omega
/-- the record of a loop turned -/
theorem step_lp {s : St} (ho : Ok s) {i l N : Nat} {F : Fr} {ps : Array Tmp} {asg body : Code} {st : LoopState} {pe : Option Code} {fn : FuncId} {tmps : Array Value} {Df : Nat} (st' : LoopState) (pe' : Option Code) (hM : s.M[i]? = some (.lp N F ps asg body st pe)) (hβ : s.β[i]? = some (.pointer (some ⟨l, 0, none⟩)))
    (hh : s.w.heap[l]? = some (loopObj fn tmps Df ps asg body st pe)) (hsz : tmps.size = N) (hF : ∀ t d, lk F t = some d → Rep s d (tmps.getD t undef)) :
    Tr s ⟨s.β, s.I, s.M.set i (.lp N F ps asg body st' pe'), s.w.putObj l (loopObj fn tmps Df ps asg body st' pe')⟩ := by
  have hlt : l < s.w.heap.size := (Array.getElem?_eq_some_iff.1 hh).1
  have hli : Live s l := ⟨i, _, _, hM, rfl, hβ, rfl⟩
  have hset : s.β.set i (.pointer (some ⟨l, 0, none⟩)) = s.β := by
    apply List.ext_getElem?
    intro j
    by_cases e : i = j
    · subst e; rw [List.getElem?_set_self (List.getElem?_eq_some_iff.1 hβ).1, hβ]
    · rw [List.getElem?_set_ne e]
  have := step_set ho i s.M (.pointer (some ⟨l, 0, none⟩)) (.lp N F ps asg body st' pe') (s.w.putObj l (loopObj fn tmps Df ps asg body st' pe')) rfl (fun _ _ h => .inl h) (List.getElem?_eq_some_iff.1 hM).1 (.inr (.inl hβ)) (by simp)
    ⟨l, fn, tmps, Df, rfl, World.putObj_heap_same hlt, hsz, fun t d hd => ?_⟩ (fun b hb j k h hne h1 h2 h3 h4 => ?_) (fun b hb => .inr (by cases hb; exact hli)) (fun b hb => by cases hb; simpa using hlt) (fun _ => False) (fun _ h => h.elim) (fun b _ hb _ => World.putObj_heap_other fun e => hb (by rw [e]; rfl)) rfl rfl rfl (by simp)
  · rw [hset] at this; exact this
  · rw [hset]
    refine Rep.mono' (s := s) (s' := ⟨s.β, s.I, s.M.set i (.lp N F ps asg body st' pe'), s.w.putObj l (loopObj fn tmps Df ps asg body st' pe')⟩) (fun _ _ h _ => h) (fun _ h => h) (fun b hb => World.putObj_heap_other fun e => ?_) (hF t d hd)
    exact (ho.lt l hli).2 (e ▸ hb)
  · have := ho.inj i j _ k _ h b hM rfl hβ hb h1 h2 h3 h4
    exact hne this.symm
/-- parameters set -/
def setF : List Tmp → List D → Fr → Fr
  | p :: ps, d :: ds, F => setF ps ds ((p, d) :: F)
  | _, _, F => F
theorem setF_ok {s : St} : ∀ (ps : List Tmp) (ds : List D) (vs : List Value) (F : Fr) (a : Act), Reps s ds vs → ps.length = ds.length → (∀ p ∈ ps, p < a.tmps.size) → FOk s F a →
    FOk s (setF ps ds F) { a with tmps := (ps.zip vs).foldl (fun t (p, v) => t.setIfInBounds p v) a.tmps } ∧ ((ps.zip vs).foldl (fun (t : Array Value) (p, v) => t.setIfInBounds p v) a.tmps).size = a.tmps.size
  | [], [], vs, F, a, _, _, _, h => ⟨h, rfl⟩
  | p :: ps, d :: ds, [], F, a, hr, _, _, _ => by have := hr.1; simp at this
  | p :: ps, d :: ds, v :: vs, F, a, hr, hl, hp, h => by
    have h1 : Rep s d v := hr.2 0 d v rfl rfl
    have h2 : Reps s ds vs := ⟨by simpa using hr.1, fun j e u hj hu => hr.2 (j + 1) e u (by simpa using hj) (by simpa using hu)⟩
    have := setF_ok ps ds vs ((p, d) :: F) (a.put (some p) v) h2 (by simpa using hl) (fun q hq => by rw [put_size]; exact hp q (List.mem_cons_of_mem _ hq)) (h.put (hp p (List.mem_cons_self ..)) h1)
    rw [put_size] at this
    exact this
  | [], d :: ds, vs, F, a, _, hl, _, _ => by simp at hl
  | p :: ps, [], vs, F, a, _, hl, _, _ => by simp at hl
section
variable {P : Program}
/-- a round: yield, called so, hands back r, and leaves its memory so -/
def DRound (P : Program) (i : Nat) (args : List D) (Min : List Blk) (r : Bool) (Mout : List Blk) : Prop :=
  ∀ (s : St) (vs : List Value) (l : Nat), Ok s → s.M = Min → s.β[i]? = some (.pointer (some ⟨l, 0, none⟩)) → Reps s args vs →
    ∃ f tmps asg body, (Instr.yield l vs.toArray).run P s.w = .ok (.round l f tmps asg body) s.w ∧
      RoundIn Fence.wide 0 P l f tmps asg body s.w fun e w' => ∃ s', e = .returned (.bool r) ∧ s'.w = w' ∧ Tr s s' ∧ s'.M = Mout
/-- how a round's body must leave -/
def Krnd (m i : Nat) (N : Nat) (F : Fr) (ps : Array Tmp) (asg body : Code) (r : Bool) (Mout : List Blk) : Cont
  | .normal, _, M => r = true ∧ M[i]? = some (.lp N F ps asg body .busy none) ∧ ∃ σ, okσ m σ = true ∧ MFits σ allv (M.set i (.lp N F ps asg body .ready none)) σ Mout
  | .ret, _, M => r = false ∧ M[i]? = some (.lp N F ps asg body .busy none) ∧ ∃ σ, okσ m σ = true ∧ MFits σ allv (M.set i (.lp N F ps asg body .done (some .ret))) σ Mout
  | .exit id, _, M => r = false ∧ M[i]? = some (.lp N F ps asg body .busy none) ∧ ∃ σ, okσ m σ = true ∧ MFits σ allv (M.set i (.lp N F ps asg body .done (some (.exit id)))) σ Mout
  | .goto id, _, M => r = false ∧ M[i]? = some (.lp N F ps asg body .busy none) ∧ ∃ σ, okσ m σ = true ∧ MFits σ allv (M.set i (.lp N F ps asg body .done (some (.goto id)))) σ Mout
  | .panic _, _, _ => False
theorem dround_go {i N : Nat} {F F1 : Fr} {ps : Array Tmp} {asg body : Code} {args : List D} {Min Mout : List Blk} {r : Bool} (m : Nat) (hMi : Min[i]? = some (.lp N F ps asg body .ready none)) (hps : ps.size = args.length) (hpN : ps.all (fun p => Nat.blt p N) = true) (hF : setF ps.toList args F = F1) (hm : Min.length = m)
    (h : ∀ s0 : St, s0.M.length ≤ m → dwp P s0 ⟨N, some i, m, [], false⟩ asg F1 Min (Kseq (fun F2 M2 => M2[i]? = some (.lp N F ps asg body .ready none) ∧ dwp P s0 ⟨N, some i, m, [], false⟩ body F2 (M2.set i (.lp N F ps asg body .busy none)) (Krnd m i N F ps asg body r Mout)) (fun _ _ _ => False))) :
    DRound P i args Min r Mout := by
  subst hm hF
  intro s vs l hok hM hβ hr
  subst hM
  obtain ⟨l', fn, tmps, Df, e1, e2, e3, e4⟩ := hok.blk i _ _ hMi hβ
  cases e1
  have hrun := run_yield (P := P) (args := vs.toArray) e2 (by simp [hr.1, hps])
  refine ⟨fn, _, asg, body, hrun, roundIn_of_wpIn trivial ?_⟩
  have hρ : (Cx.mk N (some i) s.M.length [] false).ρ s = some l := by simp [Cx.ρ, hβ]
  have hs := h s (Nat.le_refl _)
  have hset := setF_ok (s := s) ps.toList args vs F { tmps, defers := [] } hr (by simpa using hps) (fun p hp => by
    have := Array.all_eq_true_iff_forall_mem.1 hpN p (by simpa using hp)
    rw [e3]; exact Nat.blt_eq.mp this) e4
  have hz : (ps.zip vs.toArray).foldl (fun t (p, v) => t.setIfInBounds p v) tmps = (ps.toList.zip vs).foldl (fun t (p, v) => t.setIfInBounds p v) tmps := by
    rw [← Array.foldl_toList]; simp
  rw [hz]
  have hinv : Inv s ⟨N, some i, s.M.length, [], false⟩ (setF ps.toList args F) s.M { tmps := (ps.toList.zip vs).foldl (fun t (p, v) => t.setIfInBounds p v) tmps, defers := [] } s.w :=
    ⟨hok, s, rfl, rfl, Tr.refl hok, hset.1, hset.2.trans e3, .nil⟩
  have h1 := hs _ _ hinv
  rw [hρ] at h1
  refine wpIn_mono h1 ?_
  intro e a w hp
  cases e with
  | normal =>
    obtain ⟨F2, M2, ⟨h0, s1, q1, q2, q3, q4, q5, q6⟩, hM2, hbody⟩ := hp
    subst q2
    have hβ1 := q3.hnd.1 i _ hβ (by simp) (by simp)
    have hM1 : s1.M[i]? = some (.lp N F ps asg body .ready none) := by rw [q1]; exact hM2
    obtain ⟨l1, fn1, tmps1, Df1, g1, g2, g3, g4⟩ := q3.ok.blk i _ _ hM1 hβ1
    cases g1
    have ht := step_lp q3.ok .busy none hM1 hβ1 g2 g3 g4
    refine ⟨_, run_beginRound g2 rfl, ?_⟩
    have hb := hbody a _ ⟨h0, ⟨s1.β, s1.I, s1.M.set i (.lp N F ps asg body .busy none), s1.w.putObj l (loopObj fn1 tmps1 Df1 ps asg body .busy none)⟩, by rw [q1], rfl, q3.trans ht, q4.mono q3.ok ht, q5, q6.mono q3.ok ht⟩
    rw [hρ] at hb
    refine wpIn_mono hb ?_
    have fin : ∀ (jump : Option Code) (M : List Blk) (w : World) (s3 : St), s3.M = M → s3.w = w → Tr s s3 → M[i]? = some (.lp N F ps asg body .busy none) → (∃ σ, okσ s.M.length σ = true ∧ MFits σ allv (M.set i (.lp N F ps asg body (if jump.isNone then .ready else .done) jump)) σ Mout) →
        ∃ v w', (Instr.endRound l jump).run P w = .ok v w' ∧ ∃ s', Ending.returned v = .returned (.bool jump.isNone) ∧ s'.w = w' ∧ Tr s s' ∧ s'.M = Mout := by
      rintro jump M w s3 rfl rfl ht3 hMb ⟨σ, hσ, hMo⟩
      have hβ3 := ht3.hnd.1 i _ hβ (by simp) (by simp)
      obtain ⟨l3, fn3, tmps3, Df3, k1, k2, k3, k4⟩ := ht3.ok.blk i _ _ hMb hβ3
      cases k1
      have ht4 := ht3.trans (step_lp ht3.ok (if jump.isNone then .ready else .done) jump hMb hβ3 k2 k3 k4)
      refine ⟨_, _, run_endRound jump k2, vst ⟨s3.β, s3.I, s3.M.set i (.lp N F ps asg body (if jump.isNone then .ready else .done) jump), s3.w.putObj l (loopObj fn3 tmps3 Df3 ps asg body (if jump.isNone then .ready else .done) jump)⟩ σ allv Mout, rfl, rfl, tr_vst hok ht4 (mfits σ Mout hMo) (Nat.le_refl _) hσ, rfl⟩
    intro e a w hp
    cases e with
    | normal => obtain ⟨F3, M3, ⟨_, s3, r1, r2, r3, r4, r5, r6⟩, rfl, k2, k3⟩ := hp; exact fin none M3 w s3 r1 r2 r3 k2 k3
    | ret => obtain ⟨F3, M3, ⟨_, s3, r1, r2, r3, r4, r5, r6⟩, rfl, k2, k3⟩ := hp; exact fin (some .ret) M3 w s3 r1 r2 r3 k2 k3
    | exit id => obtain ⟨F3, M3, ⟨_, s3, r1, r2, r3, r4, r5, r6⟩, rfl, k2, k3⟩ := hp; exact fin (some (.exit id)) M3 w s3 r1 r2 r3 k2 k3
    | goto id => obtain ⟨F3, M3, ⟨_, s3, r1, r2, r3, r4, r5, r6⟩, rfl, k2, k3⟩ := hp; exact fin (some (.goto id)) M3 w s3 r1 r2 r3 k2 k3
    | panic ch => obtain ⟨_, _, _, _, hk⟩ := hp; exact hk
    | outgrown => exact hp
  | ret => obtain ⟨_, _, _, hk⟩ := hp; exact hk
  | exit id => obtain ⟨_, _, _, hk⟩ := hp; exact hk
  | goto id => obtain ⟨_, _, _, hk⟩ := hp; exact hk
  | panic ch => obtain ⟨_, _, _, _, hk⟩ := hp; exact hk
  | outgrown => exact hp
theorem run_callY {o : Oper} {a : Act} {x : Operand} {asL : List Operand} {tys : Array TypeId} {l : Nat} {w : World} (ho : o.op = .call { callee := .value x, args := asL.toArray, argTypes := tys }) (hx : a.eval x = .func (.yield l) #[] #[]) :
    (execOp a.eval o).run P w = (Instr.yield l (asL.map a.eval).toArray).run P w := by
  unfold execOp
  simp only [ho, resolve, hx, Deferred.ofValue]
  simp [invoke, Sem.run_bind, Result.andThen]
section
variable {s0 : St} {n : Cx} {ops : Array Oper}
/-- a call of yield -/
theorem op_y {pc : Bool} {o : Oper} {F : Fr} {M Min Mout : List Blk} {x : Operand} {asL : List Operand} {tys : Array TypeId} {ds cargs : List D} {i j : Nat} {r : Bool} {wr : List (Nat × Blk)} (σ V ν : List Nat)
    (ho : o.op = .call { callee := .value x, args := asL.toArray, argTypes := tys }) (hx : Ev pc F x (.yld j)) (hds : EvL pc F asL ds) (hij : σ[i]? = some j)
    (hc : vwL σ (fun i => V.contains i) M ds = some cargs) (hMin : vwMs σ (fun i => V.contains i) M σ = some Min) (hy : DRound P i cargs Min r Mout)
    (hlive : Min.all (·.live) = true) (hn : decide (σ ++ ν).Nodup = true) (hν : ν.all (fun i => match M[i]? with | some .hole => true | _ => false) = true)
    (hwr : wrOf (σ ++ ν) (σ ++ ν) Mout = some wr) (hfl : (V.isEmpty || Mout.all (·.fl)) = true) : DOp P pc o F M (σ ++ V ++ ν) (.val (.bool r)) wr := by
  intro hp a s hok hops hfp
  have hVM : ∀ i, V.contains i = true → M[i]? = s.M[i]? := fun i hi => (hfp i (by simp at hi; simp [hi])).symm
  rw [vwL_congr hVM] at hc
  rw [vwMs_congr hVM σ (fun i hi => (hfp i (by simp [hi])).symm)] at hMin
  have hopx : x ∈ o.op.operands ∧ ∀ y ∈ asL, y ∈ o.op.operands := by rw [ho]; simp [Op.operands, Call.operands]; intro y hy; exact .inr hy
  obtain ⟨dx, ex1, ex2⟩ := hx
  have hrx := ex2 s _ hp (hops x hopx.1 dx ex1)
  generalize hvx : a.eval x = vx at hrx
  cases hrx with
  | @yld _ l hβ =>
    have hn' : (σ ++ ν).Nodup := of_decide_eq_true hn
    have hreps := evL_reps (a := a) (s := s) hp asL ds hds (fun y hy => hops y (hopx.2 y hy))
    have hreps' := reps_vw (Min := Min) hok hreps hc
    obtain ⟨f, tmps, asg, body, e1, e2⟩ := hy (vst s σ (fun i => V.contains i) Min) (asL.map a.eval) l (ok_vst hok hMin (List.nodup_append.1 hn').1) rfl (vst_hnd hij hβ) hreps'
    rw [run_callY ho hvx]
    have e1' : Sem.run P (Instr.yield l (asL.map a.eval).toArray) s.w = .ok (.round l f tmps asg body) s.w := e1
    rw [e1']
    refine ⟨rfl, RoundIn.mono e2 ?_⟩
    rintro e w'' ⟨s2, rfl, rfl, ht2, hM2⟩
    have hν' : ∀ i ∈ ν, s.M[i]? = some .hole := fun i hi => by
      have h1 := List.all_eq_true.1 hν i hi
      rw [hfp i (by simp [hi])]
      split at h1
      · rename_i h2; exact h2
      · cases h1
    have hfl' : (∃ i, V.contains i = true) → Mout.all (·.fl) = true := by
      rintro ⟨i, hi⟩
      cases V with
      | nil => simp at hi
      | cons y V => simpa using hfl
    obtain ⟨q1, _⟩ := call_back (M3 := upd s.M wr) hok hMin hlive hn' hν' ht2 hM2 hwr rfl hfl'
    exact ⟨back s s2 σ (fun i => V.contains i) ν (upd s.M wr), _, rfl, rfl, q1, rfl, .val _⟩
/-- `for .. := range g { .. }` -/
theorem dwp_rf {g : Operand} {ps : Array Tmp} {asg body : Code} {F FL : Fr} {M M1 M2 Min Mout : List Blk} {K : Cont} {f : FuncId} {first caps cargs : List D} {d0 : D} {wr : List (Nat × Blk)} {st : LoopState} {pe : Option Code} (σ V ν : List Nat) (j : Nat)
    (hr : n.r = none) (hmk : n.mks = true) (hg : Ev true F g (.fn (.func f) first caps)) (hj : M[j]? = some .hole) (hFL : ∀ t d, lk FL t = some d → lk F t = some d) (hM1 : M.set j (.lp n.n FL ps asg body .ready none) = M1)
    (hc : vwL σ (fun i => V.contains i) M1 (first ++ [.yld j] ++ caps) = some cargs) (hMin : vwMs σ (fun i => V.contains i) M1 σ = some Min) (hf : DFun P f cargs Min d0 Mout)
    (hlive : Min.all (·.live) = true) (hn : decide (σ ++ ν).Nodup = true) (hν : ν.all (fun i => match M1[i]? with | some .hole => true | _ => false) = true)
    (hwr : wrOf (σ ++ ν) (σ ++ ν) Mout = some wr) (hfl : (V.isEmpty || Mout.all (·.fl)) = true) (hM2 : upd M1 wr = M2) (hj2 : M2[j]? = some (.lp n.n FL ps asg body st pe)) (hst : st ≠ .busy)
    (hk0 : pe = none → K .normal F (M2.set j .gone)) (hk1 : ∀ c, pe = some c → dwp P s0 n c F (M2.set j .gone) K) : dwp P s0 n (.rangeFunc g ps asg body) F M K := by
  intro a w hi
  obtain ⟨h0, s, h1, h2, h3, h4, h5, h6⟩ := hi
  subst h1 h2
  have hok := h3.ok
  have hρ : n.ρ s0 = none := by unfold Cx.ρ; rw [hr]
  rw [hρ]
  refine wpIn_rangeFunc fun fn _ => ?_
  obtain ⟨dx, ex1, ex2⟩ := hg
  have hrx := ex2 s _ rfl (ev_rep h4 ex1)
  generalize hvx : a.eval g = vx at hrx
  have hrx' := hrx
  cases hrx with
  | @fn _ _ _ vs us hl1 hl2 hr1 hr2 =>
    have t1 := step_raw hok (.deferred (some []))
    have hsz : (s.w.alloc (.deferred (some []))).heap.size = s.w.heap.size + 1 := by simp
    have hjl : j < s.M.length := (List.getElem?_eq_some_iff.1 hj).1
    have hβj : s.β[j]? = some .nilFunc := by
      have hlt : j < s.β.length := by rw [hok.len]; exact hjl
      have e := List.getElem?_eq_getElem hlt
      have : s.β[j] = .nilFunc := hok.blk j .hole _ hj e
      rw [e, this]
    obtain ⟨lo, hlo⟩ : ∃ lo, loopObj fn a.tmps s.w.heap.size ps asg body .ready none = lo := ⟨_, rfl⟩
    have lt1 : ∀ b, Live s b → b < s.w.heap.size := fun b hb => (hok.lt b hb).1
    have t2 := step_set t1.ok j s.M (.pointer (some ⟨s.w.heap.size + 1, 0, none⟩)) (.lp n.n FL ps asg body .ready none) ((s.w.alloc (.deferred (some []))).alloc lo) rfl (fun _ _ h => .inl h) hjl (.inl hβj) (by simp)
      (by
        refine ⟨s.w.heap.size + 1, fn, a.tmps, s.w.heap.size, rfl, ?_, h5, fun t d hd => ?_⟩
        · have := World.alloc_heap_new (s.w.alloc (.deferred (some []))) lo
          rw [hsz] at this
          rw [hlo]; exact this
        · have hrep := h4 t d (hFL t d hd)
          refine Rep.mono' (s := s) (s' := ⟨s.β.set j (.pointer (some ⟨s.w.heap.size + 1, 0, none⟩)), s.I, s.M.set j (.lp n.n FL ps asg body .ready none), (s.w.alloc (.deferred (some []))).alloc lo⟩) (fun i h hi hne => ?_) (fun _ h => h) (fun b hb => ?_) hrep
          · show (s.β.set j _)[i]? = some h
            by_cases e : j = i
            · subst e; rw [hβj] at hi; exact absurd (Option.some.inj hi).symm hne
            · rw [List.getElem?_set_ne e]; exact hi
          · have := hok.il b hb
            exact (Below.heap_alloc _ _ _ (by simp; omega)).trans (Below.heap_alloc _ _ _ this))
      (fun b hb i k h hne g1 g2 g3 g4 => by
        cases hb
        have hlt : s.w.heap.size + 1 < s.w.heap.size := lt1 _ (live_of g1 g2 g3 g4)
        omega)
      (fun b hb => .inl (by cases hb; show (s.w.alloc _).heap.size ≤ _; rw [hsz]; exact Nat.le_refl _)) (fun b hb => by cases hb; simp) (fun _ => False) (fun _ h => h.elim)
      (fun b hb _ _ => Below.heap_alloc _ _ _ hb) rfl rfl rfl (by simp)
    have t12 := t1.trans t2
    obtain ⟨s1, hs1⟩ : ∃ s1 : St, s1 = ⟨s.β.set j (.pointer (some ⟨s.w.heap.size + 1, 0, none⟩)), s.I, s.M.set j (.lp n.n FL ps asg body .ready none), (s.w.alloc (.deferred (some []))).alloc lo⟩ := ⟨_, rfl⟩
    have e12 : Tr s s1 := by rw [hs1]; exact t12
    have hM1' : s1.M = M1 := by rw [hs1]; exact hM1
    have hβ1 : s1.β[j]? = some (.pointer (some ⟨s.w.heap.size + 1, 0, none⟩)) := by rw [hs1]; exact List.getElem?_set_self (by rw [hok.len]; exact hjl)
    subst hM1'
    have hn' : (σ ++ ν).Nodup := of_decide_eq_true hn
    have hargs : Reps s1 (first ++ [.yld j] ++ caps) (vs ++ [Value.func (.yield (s.w.heap.size + 1)) #[] #[]] ++ us) :=
      reps_app (reps_app ⟨hl1, fun j d v hj hv => (hr1 j d v hj hv).mono hok e12⟩ (reps_one (.yld hβ1))) ⟨hl2, fun j d v hj hv => (hr2 j d v hj hv).mono hok e12⟩
    have hreps := reps_vw (Min := Min) e12.ok hargs hc
    have hcall := hf.2 (vst s1 σ (fun i => V.contains i) Min) _ (ok_vst e12.ok hMin (List.nodup_append.1 hn').1) rfl hreps
    have hw1 : (vst s1 σ (fun i => V.contains i) Min).w = (s.w.alloc (.deferred (some []))).alloc lo := by rw [hs1]; rfl
    rw [hw1] at hcall
    refine ⟨s.w.heap.size + 1, [{ target := .collected s.w.heap.size, args := #[] }], (s.w.alloc (.deferred (some []))).alloc lo, { target := .fn (.func f) us.toArray, args := vs.toArray ++ #[Value.func (.yield (s.w.heap.size + 1)) #[] #[]] },
      (s.w.alloc (.deferred (some []))).alloc lo, f, (vs ++ [Value.func (.yield (s.w.heap.size + 1)) #[] #[]] ++ us).toArray, (s.w.alloc (.deferred (some []))).alloc lo, ?_, ?_, fun _ _ => trivial, ?_, (fun h => by cases h), ?_⟩
    · rw [← hlo]; exact run_enterLoop_outer fn a.tmps ps asg body
    · simp only [rangeCall, resolve, hvx, Deferred.ofValue]
      simp [Sem.run_pure, Act.eval]
    · have := run_callFunc hf.1 (vs ++ [Value.func (.yield (s.w.heap.size + 1)) #[] #[]] ++ us).toArray ((s.w.alloc (.deferred (some []))).alloc lo)
      simpa [invoke] using this
    refine callsIn_wd (ρ := none) (hcall.mono ?_)
    rintro e w3 ⟨s2, rfl, ht2, (⟨d, v, rfl, hrd, rfl, hMo⟩ | ⟨_, _, _, _, hno⟩)⟩
    · have hν' : ∀ i ∈ ν, s1.M[i]? = some .hole := fun i hi => by
        have h1 := List.all_eq_true.1 hν i hi
        split at h1
        · rename_i h2; exact h2
        · cases h1
      have hfl' : (∃ i, V.contains i = true) → Mout.all (·.fl) = true := by
        rintro ⟨i, hi⟩
        cases V with
        | nil => simp at hi
        | cons y V => simpa using hfl
      obtain ⟨q1, _⟩ := call_back (M3 := upd s1.M wr) e12.ok hMin hlive hn' hν' ht2 hMo hwr rfl hfl'
      obtain ⟨s3, hs3⟩ : ∃ s3 : St, s3 = back s1 s2 σ (fun i => V.contains i) ν (upd s1.M wr) := ⟨_, rfl⟩
      rw [← hs3] at q1
      have hM3 : s3.M = M2 := by rw [hs3]; exact hM2
      have hw3 : s3.w = s2.w := by rw [hs3]; rfl
      have hβ3 := q1.hnd.1 j _ hβ1 (by simp) (by simp)
      have hj3 : s3.M[j]? = some (.lp n.n FL ps asg body st pe) := by rw [hM3]; exact hj2
      obtain ⟨l3, fn3, tmps3, Df3, k1, k2, k3, k4⟩ := q1.ok.blk j _ _ hj3 hβ3
      cases k1
      have hend := run_endLoop (P := P) k2 hst
      have hlv : Live s3 (s.w.heap.size + 1) := ⟨j, _, _, hj3, rfl, hβ3, rfl⟩
      have hset : s3.β.set j (.pointer (some ⟨s.w.heap.size + 1, 0, none⟩)) = s3.β := by
        apply List.ext_getElem?
        intro i
        by_cases e : j = i
        · subst e; rw [List.getElem?_set_self (List.getElem?_eq_some_iff.1 hβ3).1, hβ3]
        · rw [List.getElem?_set_ne e]
      have t4 := step_set q1.ok j s3.M (.pointer (some ⟨s.w.heap.size + 1, 0, none⟩)) .gone (s3.w.putObj (s.w.heap.size + 1) (.loop { state := .exhausted, pending := pe, fn := fn3, tmps := tmps3, params := ps, assign := asg, body := body, defers := Df3 })) rfl (fun _ _ h => .inl h)
        (List.getElem?_eq_some_iff.1 hj3).1 (.inr (.inl hβ3)) (by simp) trivial (fun b hb i k h hne g1 g2 g3 g4 => by have := q1.ok.inj j i _ k _ h b hj3 rfl hβ3 hb g1 g2 g3 g4; exact hne this.symm)
        (fun b hb => .inr (by cases hb; exact hlv)) (fun b hb => by cases hb; simpa using (Array.getElem?_eq_some_iff.1 k2).1) (fun _ => False) (fun _ h => h.elim) (fun b _ hb _ => World.putObj_heap_other fun e => hb (by rw [e]; rfl)) rfl rfl rfl (by simp)
      rw [hset] at t4
      have tall := (e12.trans q1).trans t4
      rw [hw3] at hend
      refine ⟨pe, _, hend, ?_⟩
      have hm3 : s3.M.set j .gone = M2.set j .gone := by rw [hM3]
      -- the mark
      have hmarkT := q1.trans t4
      have hB1 : s1.w.heap[s.w.heap.size]? = some (.deferred (some [])) := by
        rw [hs1]
        exact (Below.heap_alloc _ _ _ (by simp)).trans (World.alloc_heap_new s.w _)
      have hBI : ¬ s1.I s.w.heap.size := fun h => by
        have : s.I s.w.heap.size := by rw [hs1] at h; exact h
        have := hok.il _ this
        omega
      have hBL : ¬ Live s1 s.w.heap.size := by
        rintro ⟨i, k, h, g1, g2, g3, g4⟩
        by_cases e : i = j
        · subst e
          rw [hβ1] at g3
          cases g3
          replace g4 := owns_hb (b := s.w.heap.size + 1) rfl g4; simp [hb] at g4
        · rw [hs1] at g1 g3
          rw [List.getElem?_set_ne (Ne.symm e)] at g1 g3
          have := lt1 _ (live_of g1 g2 g3 g4)
          omega
      have hne : ∀ {U ds}, DfOk s0 s n.mks U ds → ∀ d ∈ ds, d.target ≠ .collected s.w.heap.size := by
        intro U ds h
        induction h with
        | nil => intro d hd; cases hd
        | mark _ h _ _ _ _ _ ih =>
          intro d hd
          rcases List.mem_cons.1 hd with rfl | hd
          · intro e
            have := (Array.getElem?_eq_some_iff.1 h).1
            cases e
            omega
          · exact ih d hd
        | fn _ _ ih =>
          intro d hd
          rcases List.mem_cons.1 hd with rfl | hd
          · intro e; cases e
          · exact ih d hd
      have hdf : DfOk s0 s1 n.mks n.U ({ target := .collected s.w.heap.size, args := #[] } :: a.defers) := .mark hmk hB1 hBI hBL h3.size (hne h6) (h6.mono hok e12)
      have hinv : Inv s0 n F (M2.set j .gone) { a with defers := [{ target := .collected s.w.heap.size, args := #[] }] ++ a.defers } (s2.w.putObj (s.w.heap.size + 1) (.loop { state := .exhausted, pending := pe, fn := fn3, tmps := tmps3, params := ps, assign := asg, body := body, defers := Df3 })) :=
        ⟨h0, _, hm3, by rw [hw3], h3.trans tall, fun t d hd => (h4 t d hd).mono hok tall, h5, hdf.mono e12.ok hmarkT⟩
      cases pe with
      | none => exact ⟨F, _, hinv, hk0 rfl⟩
      | some c =>
        have := hk1 c rfl _ _ hinv
        rw [hρ] at this
        exact this
    · exact hno.elim
end
end
end Go.Proofs.Ytmpodnadoebclaa
namespace Go.Proofs.Ytmpodnadoebclaa
set_option linter.unusedVariables false
set_option linter.unusedSimpArgs false
open Go.RowKit
section
variable {P : Program} {s0 : St} {n : Cx}
theorem stepR_scope' {b : Frame} {a : Act} {k : List Item} {cs : List Frame} {w : World} {c : Code} : step P (lone (b.atR a (.code (.scope c) :: k)) cs w) = .next (lone (b.atR a (.code c :: .inScope c :: k)) cs w) :=
  step_lone_go (by simp [stepG, stepG.exec, Frame.atR])
theorem stepR_inScope' {b : Frame} {a : Act} {k : List Item} {cs : List Frame} {w : World} {c : Code} : step P (lone (b.atR a (.inScope c :: k)) cs w) = .next (lone (b.atR a k) cs w) :=
  step_lone_go (by simp [stepG, stepG.exec, Frame.atR])
/-- no goto leaves it -/
def Kng (K : Cont) : Cont
  | .goto _, _, _ => False
  | x, F, M => K x F M
theorem dwp_scope {c : Code} {F : Fr} {M : List Blk} {K : Cont} (h : dwp P s0 n c F M (Kng K)) : dwp P s0 n (.scope c) F M K := by
  intro a w hi b k cs hro hb hr
  obtain ⟨e, a₁, w₁, hq, harr⟩ := h a w hi b (.inScope c :: k) cs hro hb hr
  have f : ∀ (m : Machine), m.fenced P (wd (n.ρ s0)) := fun _ => wd_fenced
  cases e with
  | normal => exact ⟨.normal, a₁, w₁, hq, .head (f _) stepR_scope' (StepsIn.trans harr (.one (f _) stepR_inScope'))⟩
  | exit id => exact ⟨.exit id, a₁, w₁, hq, fun k' hk => .head (f _) stepR_scope' (harr.1 k' (by simp [exitTo, hk])), fun h1 h2 => by
      obtain ⟨k1, h3, h4⟩ := harr.2 h1 (by simp [exitTo, h2])
      exact ⟨k1, h3, .head (f _) stepR_scope' h4⟩⟩
  | goto l => obtain ⟨_, _, _, hk⟩ := hq; exact hk.elim
  | ret => exact ⟨.ret, a₁, w₁, hq, .of_steps (.one (f _) stepR_scope') harr⟩
  | panic ch => exact ⟨.panic ch, a₁, w₁, hq, .of_steps (.one (f _) stepR_scope') harr⟩
  | outgrown => exact hq.elim
/-- a loop that is left in its first round -/
theorem dwp_once {c : Code} {F : Fr} {M : List Blk} {K : Cont} (h : dwp P s0 n c F M (Kseq (fun _ _ => False) K)) : dwp P s0 n (.loop c) F M K :=
  dwp_loop_inv (α := Unit) (fun _ => F) (fun _ => M) (fun _ => True) (fun _ => 0) () trivial (fun _ _ h => h) fun _ _ => dwp_mono h fun x F M hk => by
    cases x with
    | normal => exact hk.elim
    | exit id => exact hk
    | goto l => exact hk
    | ret => exact hk
    | panic d => exact hk
/-- a slice is no longer than may be -/
theorem dwp_len {c : Code} {F : Fr} {M : List Blk} {K : Cont} {t sz m : Nat} {L : List Value} (ht : lk F t = some (.slf sz m L)) (hk : m ≤ 9223372036854775807 → L.length = m * sz → dwp P s0 n c F M K) : dwp P s0 n c F M K := by
  intro a w hi
  obtain ⟨h0, s, h1, h2, h3, h4, h5, h6⟩ := hi
  have hr := h4 t _ ht
  generalize slot a t = vx at hr
  have hb : m ≤ 9223372036854775807 ∧ L.length = m * sz := by
    cases hr with
    | slf hl hn hc _ _ => exact ⟨Nat.le_trans hn hc, hl⟩
  exact hk hb.1 hb.2 a w ⟨h0, s, h1, h2, h3, h4, h5, h6⟩
theorem dwp_lenm {c : Code} {F : Fr} {M : List Blk} {K : Cont} {t sz m : Nat} {L : List D} (ht : lk F t = some (.slm sz m L)) (hk : m ≤ 9223372036854775807 → L.length = m * sz → dwp P s0 n c F M K) : dwp P s0 n c F M K := by
  intro a w hi
  obtain ⟨h0, s, h1, h2, h3, h4, h5, h6⟩ := hi
  have hr := h4 t _ ht
  generalize slot a t = vx at hr
  have hb : m ≤ 9223372036854775807 ∧ L.length = m * sz := by
    cases hr with
    | slm _ hl hn hc _ _ _ _ => exact ⟨Nat.le_trans hn hc, hl⟩
  exact hk hb.1 hb.2 a w ⟨h0, s, h1, h2, h3, h4, h5, h6⟩
variable {ops : Array Oper}
/-- is a slice nil? -/
theorem walk_nil? {o : Oper} {rest : List Oper} {F : Fr} {M : List Blk} {K : Cont} {T T' e : TypeId} {sz by' m t : Nat} {L : List Value} {x : Operand} (hg : o.guard = none) (hd : o.dst = some t) (ht : Nat.blt t n.n = true) (ho : o.op = .binOp .eql T x (.const (.slice none 0 0)) T') (hT : slE P T = some (e, sz, by')) (hx : Ev true F x (.slf sz m L))
    (hk : ∀ b, (b = true → m = 0 ∧ L = []) → Walk P s0 n ops rest ((t, .val (.bool b)) :: F) M K) : Walk P s0 n ops (o :: rest) F M K := by
  intro a w hi
  have hi' := hi
  obtain ⟨h0, s, h1, h2, h3, h4, h5, h6⟩ := hi
  obtain ⟨dx, ex1, ex2⟩ := hx
  have hrx := ex2 s _ rfl (ev_rep h4 ex1)
  generalize hvx : a.eval x = vx at hrx
  cases hrx with
  | @slf _ _ cap ad _ hl hn hc ha hm =>
    obtain ⟨hu, _⟩ := slE_spec hT
    have hrun : (execOp a.eval o).run P w = .ok (.value (.bool ad.isNone)) w := by
      unfold execOp
      simp only [ho]
      have hv : a.eval (.const (.slice none 0 0)) = .slice none 0 0 := rfl
      rw [hv, hvx]
      refine run_v ?_
      simp only [eqGuard, binOp, Sem.run_bind]
      have heq : ∀ d, (Op.equalIn (d + 1) T (.slice ad m cap) (.slice none 0 0)).run P w = .ok ad.isNone w := fun d => by
        unfold Op.equalIn
        rw [Sem.run_bind, run_underlying hu]
        cases ad <;> simp
      have heq' : (Op.equalIn Op.maxDepth T (.slice ad m cap) (.slice none 0 0)).run P w = .ok ad.isNone w := heq 9999
      simp [Op.equal, heq', Sem.run_bind, go_sem]
    have hfin := hk ad.isNone (fun hb => by
      cases ad with
      | none => have := ha rfl; exact ⟨by omega, List.eq_nil_of_length_eq_zero (by rw [hl, show m = 0 by omega]; simp)⟩
      | some q => cases hb) (a.put o.dst (.bool ad.isNone)) w (by
        obtain ⟨h0, s, h1, h2, h3, h4, h5, h6⟩ := hi'
        refine ⟨h0, s, h1, h2, h3, ?_, by rw [put_size]; exact h5, by rw [put_def]; exact h6⟩
        rw [hd]
        exact h4.put (by rw [h5]; exact Nat.blt_eq.mp ht) (.val _))
    show if Region.wanted o (yielded ops a.tmps) then _ else _
    have hw : Region.wanted o (yielded ops a.tmps) = true := by unfold Region.wanted; rw [hg]
    rw [if_pos hw]
    refine ⟨fun _ _ => trivial, ?_⟩
    rw [semAt_noDef (by rw [ho]; rfl), hrun]
    exact hfin
end
section
variable {P : Program} {pc : Bool} {o : Oper} {F : Fr} {M : List Blk} {α : Type} {en : α → List Value} {T T' e : TypeId} {sz by' k n i j : Nat} {l : List α} {x y : Operand}
/-- an address, read in memory that stays -/
theorem op_lddm {kk : Nat} {ld : List D} {d : D} (ho : o.op = .load T x) (hT : tyB P T = some (false, kk)) (hx : Ev pc F x (.dpm ld)) (hR : ld[0]? = some d) : DOp P pc o F M [] d [] := by
  intro hp a s hok hops hfp
  have hr := ev_at hp hx (by simp [ho, Op.operands]) hops
  generalize hv : a.eval x = vx at hr
  cases hr with
  | @dpm b q _ vs hnl hI hc hl h =>
    obtain ⟨v, hv0⟩ : ∃ v, vs[0]? = some v := ⟨vs[0]'(by rw [hl]; exact (List.getElem?_eq_some_iff.1 hR).1), List.getElem?_eq_getElem _⟩
    exact dg_val hok (run_load_one ho hT hv (by simpa using hc 0 v hv0)) (h 0 d v hR hv0)
/-- a pointer that is not nil -/
theorem op_nc {x : Operand} {d : D} (ho : o.op = .nilCheck x) (hx : Ev pc F x d) (hd : ∀ (s : St) v, Rep s d v → ∃ q, v = .pointer (some q)) : DOp P pc o F M [] d [] := by
  intro hp a s hok hops _
  have h1 := ev_at hp hx (by simp [ho, Op.operands]) hops
  obtain ⟨q, hq⟩ := hd s _ h1
  refine dg_val (v := a.eval x) hok ?_ h1
  unfold execOp
  simp only [ho, hq, Sem.run_pure]
end
end Go.Proofs.Ytmpodnadoebclaa
namespace Go.Proofs.Ytmpodnadoebclaa
set_option linter.unusedVariables false
set_option linter.unusedSimpArgs false
open Go.RowKit
/-- what == comes to on two rows of cells of a type: for ints, bools, strings, and what is made of these -/
def eqA (f : List Value → List Value → Option Bool) (sz : Nat) : Nat → List Value → List Value → Option Bool
  | 0, _, _ => some true
  | n + 1, xs, ys => match f (xs.take sz) (ys.take sz), eqA f sz n (xs.drop sz) (ys.drop sz) with
    | some r, some r' => some (r && r')
    | _, _ => none
def eqFl (f : TypeId → List Value → List Value → Option Bool) (P : Program) (xs ys : List Value) : List Field → Option Bool
  | [] => some true
  | g :: fs => if g.name = "_" then none else match P.info? g.type with
    | none => none
    | some i => match f g.type ((xs.drop g.offset).take i.size) ((ys.drop g.offset).take i.size), eqFl f P xs ys fs with
      | some r, some r' => some (r && r')
      | _, _ => none
def eqT (P : Program) : Nat → TypeId → List Value → List Value → Option Bool
  | 0, _, _, _ => none
  | d + 1, T, xs, ys => match P.underlying T with
    | some (.int _) => match xs, ys with
      | [.int k a], [.int k' b] => if k = k' then some (a == b) else none
      | _, _ => none
    | some .bool => match xs, ys with
      | [.bool a], [.bool b] => some (a == b)
      | _, _ => none
    | some .string => match xs, ys with
      | [.string a], [.string b] => some (a.toList == b.toList)
      | _, _ => none
    | some (.pointer _) => match xs, ys with
      | [.pointer none], [.pointer none] => some true
      | _, _ => none
    | some (.struct fs) => if P.stoodInHeld T then none else eqFl (eqT P d) P xs ys fs.toList
    | some (.array n e) => match P.info? e with
      | none => none
      | some i => eqA (eqT P d e) i.size n xs ys
    | _ => none
/-- cells as a value of the type -/
def valC (P : Program) (T : TypeId) (xs : List Value) : Value := match P.underlying T with
  | some (.struct _) | some (.array _ _) => .agg xs.toArray
  | _ => xs.getD 0 undef
section
variable {P : Program}
theorem run_part_row {T : TypeId} {i : TypeInfo} {cs : List Value} {off : Nat} {w : World} (hi : P.info? T = some i) (hr : (∃ fs, P.underlying T = some (.struct fs)) ∨ ∃ n e, P.underlying T = some (.array n e)) : (part T cs.toArray off).run P w = .ok (valC P T ((cs.drop off).take i.size)) w := by
  have hex : cs.toArray.extract off (off + i.size) = ((cs.drop off).take i.size).toArray := by simp [List.extract_eq_take_drop]
  unfold part isAgg valC
  rcases hr with ⟨fs, hu⟩ | ⟨n, e, hu⟩ <;> simp [Sem.run_bind, run_underlying hu, sizeOf, typeInfo, hi, hu, hex]
theorem run_part_one {T : TypeId} {cs : List Value} {off sz : Nat} {v : Value} {w : World} {d : TypeDesc} (hu : P.underlying T = some d) (hd : d.isRow = false) (hv : (cs.drop off).take sz = [v]) : (part T cs.toArray off).run P w = .ok (valC P T [v]) w := by
  have hc : cs[off]? = some v := by
    have := congrArg (fun l : List Value => l[0]?) hv
    simp only [List.getElem?_take, List.getElem?_drop, Nat.add_zero] at this
    split at this
    · simpa using this
    · simp at this
  unfold part isAgg valC
  cases d <;> simp_all [TypeDesc.isRow, Sem.run_bind, run_underlying hu]
theorem eqT_row {d : Nat} {T : TypeId} {xs ys : List Value} {r : Bool} (h : eqT P d T xs ys = some r) : ((∃ fs, P.underlying T = some (.struct fs)) ∨ ∃ n e, P.underlying T = some (.array n e)) ∨ (∃ u, P.underlying T = some u ∧ u.isRow = false) ∧ (∃ x, xs = [x]) ∧ ∃ y, ys = [y] := by
  cases d with
  | zero => cases h
  | succ d =>
    unfold eqT at h
    split at h
    · rename_i k hu
      split at h
      · exact .inr ⟨⟨_, hu, rfl⟩, ⟨_, rfl⟩, ⟨_, rfl⟩⟩
      · cases h
    · rename_i hu
      split at h
      · exact .inr ⟨⟨_, hu, rfl⟩, ⟨_, rfl⟩, ⟨_, rfl⟩⟩
      · cases h
    · rename_i hu
      split at h
      · exact .inr ⟨⟨_, hu, rfl⟩, ⟨_, rfl⟩, ⟨_, rfl⟩⟩
      · cases h
    · rename_i hu
      split at h
      · exact .inr ⟨⟨_, hu, rfl⟩, ⟨_, rfl⟩, ⟨_, rfl⟩⟩
      · cases h
    · rename_i fs hu; exact .inl (.inl ⟨fs, hu⟩)
    · rename_i n e hu; exact .inl (.inr ⟨n, e, hu⟩)
    · cases h
theorem run_part_of {d : Nat} {T : TypeId} {i : TypeInfo} {xs ys : List Value} {off : Nat} {r : Bool} {w : World} (hi : P.info? T = some i) (h : eqT P d T ((xs.drop off).take i.size) ((ys.drop off).take i.size) = some r) :
    (part T xs.toArray off).run P w = .ok (valC P T ((xs.drop off).take i.size)) w ∧ (part T ys.toArray off).run P w = .ok (valC P T ((ys.drop off).take i.size)) w := by
  rcases eqT_row h with hr | ⟨⟨u, hu, hd⟩, ⟨x, hx⟩, ⟨y, hy⟩⟩
  · exact ⟨run_part_row hi hr, run_part_row hi hr⟩
  · exact ⟨by rw [hx]; exact run_part_one hu hd hx, by rw [hy]; exact run_part_one hu hd hy⟩
theorem eqT_run : ∀ (d k : Nat) (T : TypeId) (xs ys : List Value) (r : Bool) (w : World), eqT P d T xs ys = some r → (Op.equalIn (d + k) T (valC P T xs) (valC P T ys)).run P w = .ok r w := by
  intro d
  induction d with
  | zero => intro k T xs ys r w h; cases h
  | succ d ih =>
    intro k T xs ys r w h
    rw [show d + 1 + k = d + k + 1 by omega]
    unfold eqT at h
    split at h
    · rename_i kd hu
      split at h
      · split at h
        · rename_i e; cases h; subst e; simp [valC, hu]; exact run_equalIn_int w _ T _ _ _ _ hu
        · cases h
      · cases h
    · rename_i hu
      split at h
      · cases h; simp [valC, hu]; exact run_equalIn_bool' w _ T _ _ hu
      · cases h
    · rename_i hu
      split at h
      · cases h; simp [valC, hu]; exact run_equalIn_string w _ T _ _ hu
      · cases h
    · rename_i hu
      split at h
      · cases h; simp [valC, hu]; exact run_equalIn_pointer_nil w _ T none (by unfold Program.pointee; rw [hu])
      · cases h
    · rename_i fs hu
      split at h
      · cases h
      · rename_i hst
        have hv : ∀ zs, valC P T zs = .agg zs.toArray := fun zs => by simp [valC, hu]
        rw [hv, hv]
        have hf : P.underlying T = some (.struct (P.fieldsOf T)) := by unfold Program.fieldsOf; rw [hu]
        have hfs : P.fieldsOf T = fs := by unfold Program.fieldsOf; rw [hu]
        rw [run_equalIn_struct w _ T _ _ hf (by simpa using hst), hfs]
        clear hf hfs hu hv
        generalize fs.toList = l at h
        induction l generalizing r with
        | nil => cases h; simp [Op.eqFields]
        | cons g fs ihf =>
          unfold eqFl at h
          split at h
          · cases h
          · rename_i hne
            split at h
            · cases h
            · rename_i i hi
              split at h
              · rename_i r1 r2 h1 h2
                cases h
                obtain ⟨p1, p2⟩ := run_part_of (w := w) hi h1
                have e := ih k _ _ _ _ w h1
                simp only [Op.eqFields, hne, ne_eq, not_false_eq_true, if_true, Sem.run_bind, p1, p2, e, Result.andThen_ok]
                cases r1 with
                | true => simpa using ihf r2 h2
                | false => simp
              · cases h
    · rename_i n e hu
      split at h
      · cases h
      · rename_i i hi
        have hv : ∀ zs, valC P T zs = .agg zs.toArray := fun zs => by simp [valC, hu]
        rw [hv, hv]
        unfold Op.equalIn
        simp only [Sem.run_bind, run_underlying hu, Result.andThen_ok, sizeOf, typeInfo, run_program, hi, Sem.run_pure]
        have key : ∀ (n s : Nat) (r : Bool), eqA (eqT P d e) i.size n (xs.drop (s * i.size)) (ys.drop (s * i.size)) = some r →
            (forIn (List.range' s n) ((none : Option Bool), ()) fun j _ => do
              let a ← part e xs.toArray (j * i.size)
              let b ← part e ys.toArray (j * i.size)
              let q ← Op.equalIn (d + k) e a b
              if (!q) = true then pure (ForInStep.done (some false, ())) else pure (ForInStep.yield (none, ())) : Sem (Option Bool × Unit)).run P w = .ok (if r then (none, ()) else (some false, ())) w := by
          intro n
          induction n with
          | zero => intro s r h; unfold eqA at h; cases h; simp
          | succ n ihn =>
            intro s r h
            unfold eqA at h
            split at h
            · rename_i r1 r2 h1 h2
              cases h
              obtain ⟨p1, p2⟩ := run_part_of (w := w) hi h1
              have e1 := ih k _ _ _ _ w h1
              have h2' := ihn (s + 1) r2 (by rw [Nat.succ_mul, ← List.drop_drop, ← List.drop_drop]; exact h2)
              rw [List.range'_succ, List.forIn_cons]
              simp only [Sem.run_bind, p1, p2, e1, Result.andThen_ok]
              cases r1 with
              | true => simpa using h2'
              | false => simp
            · cases h
        have hk := key n 0 r (by simpa using h)
        simp only [Std.Legacy.Range.forIn_eq_forIn_range', Std.Legacy.Range.size, Nat.sub_zero, Nat.add_sub_cancel, Nat.div_one, hk, Result.andThen_ok]
        cases r <;> simp
    · cases h
variable {pc : Bool} {o : Oper} {F : Fr} {M : List Blk}
theorem row_val {T : TypeId} {k : Nat} {L : List Value} (hT : tyB P T = some (true, k)) : valC P T L = .agg L.toArray := by
  obtain ⟨d, i, h1, h2, h3, h4⟩ := tyB_spec hT
  unfold valC
  rw [h1]
  cases d <;> simp_all [TypeDesc.isRow]
theorem op_eqr {T T' : TypeId} {x y : Operand} {L1 L2 : List Value} {b : Bool} {k : Nat} (he : eqT P 9 T L1 L2 = some b) (ho : o.op = .binOp .eql T x y T') (hg : P.eqGuardType P.depth T = false) (hT : tyB P T = some (true, k)) (hx : Ev pc F x (.val (.agg L1.toArray))) (hy : Ev pc F y (.val (.agg L2.toArray))) : DOp P pc o F M [] (.val (.bool b)) [] :=
  op_eqv ho hx hy (fun w => run_eqGuard_agg w _ _ _ _ _ _ hg) fun w => by
    have := eqT_run (P := P) 9 9991 T L1 L2 b w he
    rw [row_val hT, row_val hT] at this
    rw [run_eql_struct, this]; rfl
theorem op_ner {T T' : TypeId} {x y : Operand} {L1 L2 : List Value} {b : Bool} {k : Nat} (he : eqT P 9 T L1 L2 = some b) (ho : o.op = .binOp .neq T x y T') (hg : P.eqGuardType P.depth T = false) (hT : tyB P T = some (true, k)) (hx : Ev pc F x (.val (.agg L1.toArray))) (hy : Ev pc F y (.val (.agg L2.toArray))) : DOp P pc o F M [] (.val (.bool !b)) [] :=
  op_nev ho hx hy (fun w => run_eqGuard_agg w _ _ _ _ _ _ hg) fun w => by
    have := eqT_run (P := P) 9 9991 T L1 L2 b w he
    rw [row_val hT, row_val hT] at this
    rw [run_neq_struct, this]; rfl
end
end Go.Proofs.Ytmpodnadoebclaa
namespace Go.Proofs.Ytmpodnadoebclaa
set_option linter.unusedVariables false
set_option linter.unusedSimpArgs false
open Go.RowKit
def bodyOf (f : Func) : Code := f.body.getD .skip
/-- a code within a code -/
def pth : List Nat → Code → Code
  | [], c => c
  | 0 :: r, .seq a _ => pth r a
  | _ :: r, .seq _ b => pth r b
  | _ :: r, .block _ b => pth r b
  | _ :: r, .scope b => pth r b
  | _ :: r, .loop b => pth r b
  | 0 :: r, .cond _ a _ => pth r a
  | _ :: r, .cond _ _ b => pth r b
  | _, c => c
def rfA : Code → Code
  | .rangeFunc _ _ a _ => a
  | c => c
def rfB : Code → Code
  | .rangeFunc _ _ _ b => b
  | c => c
def rst : Bool → LoopState
  | true => .ready
  | false => .done
def rpe (c : Code) : Bool → Option Code
  | true => none
  | false => some c
theorem rst_busy (r : Bool) : rst r ≠ .busy := by cases r <;> simp [rst]
def subF (F : Fr) : Fr → Prop
  | [] => True
  | (t, d) :: r => lk F t = some d ∧ subF F r
theorem subF_lk {F : Fr} : ∀ {FL : Fr}, subF F FL → ∀ t d, lk FL t = some d → lk F t = some d
  | [], _, t, d, h => by cases h
  | (k, x) :: r, h, t, d, hd => by
    rw [lk_cons] at hd
    split at hd
    · rename_i e; subst e; obtain rfl := Option.some.inj hd; exact h.1
    · exact subF_lk h.2 t d hd
theorem flat_oc {α : Type} {en : α → List Value} (h : ∀ a, (en a).all (·.oneCell') = true) (l : List α) : (l.flatMap en).all (·.oneCell') = true := by
  induction l with
  | nil => rfl
  | cons a l ih => rw [List.flatMap_cons, List.all_append, h, ih]; rfl
theorem arr_eq {T : TypeId} {sz n n' : Nat} {L L' : List Value} (h : n = n') (h' : L = L') : some (Blk.arr T sz n L) = some (Blk.arr T sz n' L') := by rw [h, h']
section
variable {P : Program} {s0 : St} {n : Cx}
theorem fits_app {F : Fr} {σ : List Nat} {M : List Blk} : ∀ {A B : Fr}, Fits F σ M A → Fits F σ M B → Fits F σ M (A ++ B)
  | [], _, _, h => h
  | _ :: _, _, ⟨h1, h2⟩, h => ⟨h1, fits_app h2 h⟩
/-- a loop some of whose slots and blocks turn -/
theorem dwp_loopS {α : Type} {c : Code} {F : Fr} {M : List Blk} {K : Cont} (hg : Gs s0 n) (dyn : α → Fr) (stat : Fr) (dynM : α → List (Nat × Blk)) (Mst : List Blk) (Pr : α → Prop) (μ : α → Nat) (x0 : α) (σ0 : List Nat) (h0 : Pr x0)
    (hσ0 : okσ n.k σ0 = true) (hF0 : Fits F σ0 M stat) (hF1 : Fits F σ0 M (dyn x0)) (hM0 : MFits σ0 nov M σ0 (upd Mst (dynM x0)))
    (round : ∀ x, Pr x → dwp P s0 n c (dyn x ++ stat) (upd Mst (dynM x)) (Kseq (Again n.k (fun x => dyn x ++ stat) (fun x => upd Mst (dynM x)) Pr μ x) K)) : dwp P s0 n (.loop c) F M K :=
  dwp_loop hg (fun x => dyn x ++ stat) (fun x => upd Mst (dynM x)) Pr μ x0 σ0 h0 hσ0 (fits_app hF1 hF0) hM0 round
/-- a loop, at the head of a round -/
def dloop (P : Program) (s0 : St) (n : Cx) (c : Code) (F : Fr) (M : List Blk) (K : Cont) : Prop := ∀ a w, Inv s0 n F M a w → ∀ (b : Frame) (k : List Item) (cs : List Frame), b.roundOf = (wd (n.ρ s0)).round → (wd (n.ρ s0)).fn b.fn → (wd (n.ρ s0)).room (cs.length + 1 + 0) →
  ∃ e a' w', PostK s0 n K e a' w' ∧ ArrivesIn (Machine.fenced P (wd (n.ρ s0))) P (lone (b.atR a (.code c :: .inLoop c :: k)) cs w) b k cs e a' w'
theorem dwp_dloop {c : Code} {F : Fr} {M : List Blk} {K : Cont} (h : dloop P s0 n c F M K) : dwp P s0 n (.loop c) F M K := by
  intro a w hi b k cs hro hb hr
  obtain ⟨e, a', w', hq, harr⟩ := h a w hi b k cs hro hb hr
  exact ⟨e, a', w', hq, .of_steps (.one (fenced_calm hb hr rfl) stepR_loop) harr⟩
theorem dloop_step {c : Code} {F : Fr} {M : List Blk} {K : Cont} (h : dwp P s0 n c F M (Kseq (fun F M => dloop P s0 n c F M K) K)) : dloop P s0 n c F M K := by
  intro a w hi b k cs hro hb hr
  obtain ⟨e, a₁, w₁, hq, harr⟩ := h a w hi b (.inLoop c :: k) cs hro hb hr
  cases e with
  | normal =>
    obtain ⟨F', M', hi', hl⟩ := hq
    obtain ⟨e₂, a₂, w₂, hq₂, harr₂⟩ := hl a₁ w₁ hi' b k cs hro hb hr
    exact ⟨e₂, a₂, w₂, hq₂, .of_steps (StepsIn.trans harr (.one (fenced_calm hb hr rfl) stepR_inLoop)) harr₂⟩
  | exit id => exact ⟨.exit id, a₁, w₁, hq, .pass (x := .inLoop c) rfl (fun _ _ => .inl (by simp)) harr⟩
  | goto l => exact ⟨.goto l, a₁, w₁, hq, .pass (x := .inLoop c) rfl (fun _ _ => .inl (by simp)) harr⟩
  | ret => exact ⟨.ret, a₁, w₁, hq, .pass (x := .inLoop c) rfl (fun _ _ => .inl (by simp)) harr⟩
  | panic ch => exact ⟨.panic ch, a₁, w₁, hq, .pass (x := .inLoop c) rfl (fun _ _ => .inl (by simp)) harr⟩
  | outgrown => exact hq.elim
end
end Go.Proofs.Ytmpodnadoebclaa
namespace Go.Proofs.Ytmpodnadoebclaa
set_option linter.unusedVariables false
set_option linter.unusedSimpArgs false
open Go.RowKit
section
variable {P : Program} {pc : Bool} {o : Oper} {F : Fr} {M : List Blk}
end
section
variable {P : Program} {pc : Bool} {o : Oper} {F : Fr} {M : List Blk}
/-- parts of a row that stays -/
theorem op_slmd {α : Type} {en : α → List Value} {r : List α} {T e : TypeId} {sz by' : Nat} {x : Operand} {lo hi : Option Operand} {l h : Int} {i j : Nat} (ho : o.op = .slice T x lo hi none) (hT : slE P T = some (e, sz, by')) (hx : Ev pc F x (.slf sz r.length (r.flatMap en))) (hlo : Bd pc F lo 0 l) (hhi : Bd pc F hi r.length h)
    (hl : pc = true → l = (i : Int)) (hh : pc = true → h = (j : Int)) (hij : pc = true → i ≤ j ∧ j ≤ r.length) (hen : ∀ a, (en a).length = sz) : DOp P pc o F M [] (.slf sz ((r.drop i).take (j - i)).length (((r.drop i).take (j - i)).flatMap en)) [] := fun hp => by
  have := hij hp
  rw [show ((r.drop i).take (j - i)).length = j - i by rw [List.length_take, List.length_drop]; omega]
  exact op_slsr hen ho hT hx hlo hhi (hl hp) (hh hp) hij hp
theorem op_sltk {α : Type} {en : α → List Value} {r : List α} {T e : TypeId} {sz by' : Nat} {x : Operand} {hi : Option Operand} {h : Int} {j : Nat} (ho : o.op = .slice T x none hi none) (hT : slE P T = some (e, sz, by')) (hx : Ev pc F x (.slf sz r.length (r.flatMap en))) (hhi : Bd pc F hi r.length h)
    (hh : pc = true → h = (j : Int)) (hij : pc = true → j ≤ r.length) (hen : ∀ a, (en a).length = sz) : DOp P pc o F M [] (.slf sz (r.take j).length ((r.take j).flatMap en)) [] :=
  op_slmd (i := 0) ho hT hx (bd_none (z := 0)) hhi (fun _ => rfl) hh (fun hp => ⟨Nat.zero_le _, hij hp⟩) hen
end
/-- what it hands back, as memory that stays -/
theorem freeze {P : Program} {f : FuncId} {args : List D} {d d' : D} {Mout : List Blk} (h : DFun P f args [] d Mout) (hv : vw [] allv Mout d = some d') : DFun P f args [] d' [] := by
  refine ⟨h.1, fun s vs hok hM hr => (h.2 s vs hok hM hr).mono ?_⟩
  rintro e w' ⟨s', rfl, ht, hor⟩
  rcases hor with ⟨d0, v, rfl, hrep, rfl, hMo⟩ | ⟨d0, v, _, _, hf⟩
  · refine ⟨vst s' [] allv [], rfl, tr_vst hok ht (mfits [] [] trivial) (m := 0) (by rw [hM]; exact Nat.le_refl _) rfl, .inl ⟨d', v, rfl, vw_rep ht.ok hrep d' (by rw [hMo]; exact hv), rfl, rfl⟩⟩
  · exact hf.elim
end Go.Proofs.Ytmpodnadoebclaa
namespace Go.Proofs.Ytmpodnadoebclaa
set_option linter.unusedVariables false
set_option linter.unusedSimpArgs false
open Go.ChangeShapes Go.WideShapes Go.ChangeAt Go.RowKit Go.Joins Go.Deep
set_option maxRecDepth 100000
/-- the state in which a law is called -/
def st0 (W : World) : St := ⟨[], fun b => b < W.heap.size, [], W⟩
theorem ok_st0 (W : World) : Ok (st0 W) := by
  refine ⟨rfl, fun i k h hk => ?_, fun b hb => ?_, fun i j k k' h h' b hk => ?_, fun b hb => hb⟩
  · simp [st0] at hk
  · obtain ⟨i, k, h, hk, _⟩ := hb
    simp [st0] at hk
  · simp [st0] at hk
theorem walked_of {f : FuncId} {ts : List TypeId} (h : ∀ (H : Type) (enc : TypeId × Value → H) (W : World) (base : Nat) (args : Array Value) (ds : List (DataW H)) (p : List MemPlace),
    DataW.TrodAll enc Try.prog W 0 (fun _ => true) true ts args.toList ds p → (∀ (j : Nat) t v, ts[j]? = some t → args[j]? = some v → Value.okWide Try.prog W .any base t v) →
    ∃ Ds : List D, Reps (st0 W) Ds args.toList ∧ DFun Try.prog f Ds [] (.val (.bool true)) []) : Walked f ts := by
  intro H enc W base args ds p hA hval
  obtain ⟨Ds, hr, hf⟩ := h H enc W base args ds p hA hval
  have := hf.2 (st0 W) args.toList (ok_st0 W) rfl hr
  rw [Array.toArray_toList] at this
  refine this.mono ?_
  rintro e w' ⟨s', rfl, ht, hor⟩
  rcases hor with ⟨d, v, rfl, hrep, rfl, _⟩ | ⟨_, _, _, _, hf⟩
  · refine ⟨by rw [hrep.val_eq], ht.os, ht.tape, ht.output, ht.size, fun k hk => ht.keep k hk fun ⟨i, kk, h, hk, _⟩ => ?_⟩
    simp [st0] at hk
  · exact hf.elim
theorem reps_cons {s : St} {d : D} {v : Value} {ds : List D} {vs : List Value} (h : Rep s d v) (h' : Reps s ds vs) : Reps s (d :: ds) (v :: vs) := by
  refine ⟨by simp [h'.1], fun j e u hj hu => ?_⟩
  cases j with
  | zero => simp at hj hu; subst hj hu; exact h
  | succ j => exact h'.2 j e u (by simpa using hj) (by simpa using hu)
theorem reps_nil {s : St} : Reps s [] [] := ⟨rfl, fun j e u hj => by simp at hj⟩
section
variable {H : Type} {enc : TypeId × Value → H} {w : World} {base b0 : Nat} {r : Reach} {spare : Nat → Bool} {held : Bool} {v : Value} {d : DataW H} {p : List MemPlace}
theorem rep_row {α : Type} {W : World} {a : Option Addr} {n cap sz : Nat} {en : α → List Value} {l : List α} (hx : rowV W a n sz en l) (hc : n ≤ cap) (hm : cap ≤ maxLen) (hnil : a = none → cap = 0) (hen : ∀ a, (en a).length = sz) : Rep (st0 W) (.slf sz l.length (l.flatMap en)) (.slice a n cap) := by
  obtain ⟨rfl, hx⟩ := hx
  refine .slf (flat_len hen l) hc hm hnil ?_
  rcases hx with rfl | ⟨b, off, rfl, hlt, hcell⟩
  · exact .inl rfl
  · refine .inr ⟨b, off, rfl, hlt, fun j u hj => ?_⟩
    show W.cell? ⟨b, off + j, none⟩ = some u
    have hjl : j < l.length * sz := by rw [← flat_len hen l]; exact (List.getElem?_eq_some_iff.1 hj).1
    have hsz : 0 < sz := by
      rcases Nat.eq_zero_or_pos sz with e | e
      · rw [e] at hjl; omega
      · exact e
    have hq : j / sz < l.length := (Nat.div_lt_iff_lt_mul hsz).2 hjl
    have hr := Nat.mod_lt j hsz
    have e : j = j / sz * sz + j % sz := by rw [Nat.mul_comm]; exact (Nat.div_add_mod j sz).symm
    rw [e, flat_cell hen hq hr] at hj
    have := hcell (j / sz) hq (j % sz) hr
    rw [hj] at this
    rw [e, ← Nat.add_assoc]
    exact this
end
end Go.Proofs.Ytmpodnadoebclaa
namespace Go.Proofs.Ytmpodnadoebclaa
set_option linter.unusedVariables false
set_option linter.unusedSimpArgs false
open Go.RowKit
section
variable {P : Program} {s0 : St} {n : Cx}
end
section
variable {P : Program} {pc : Bool} {o : Oper} {F : Fr} {M : List Blk} {T T' : TypeId} {x y : Operand} {i n sz : Nat} {k : IntKind} {z : Int} {α : Type} {en : α → List Value} {l : List α} {j : Nat}
/-- an element of an array of one's own -/
theorem op_ixfr (ho : o.op = .indexAddr T x y) (hT : arE P T = some (n, sz)) (hx : Ev pc F x (.loc i 0)) (hy : Ev pc F y (.val (.int k z))) (hz : pc = true → z = (j : Int)) (hj : pc = true → j < n) : DOp P pc o F M [] (.loc i (j * sz)) [] := fun hp => by
  have h := op_ixl (M := M) ho hT hx hy (fun hp => by have := hz hp; have := hj hp; omega) hp
  rwa [Nat.zero_add, show z.toNat = j by have := hz hp; omega] at h
theorem op_stfr {rw' : Bool} {q : α} {v : Value} (ho : o.op = .store T x y) (hT : tyB P T = some (rw', sz)) (hx : Ev pc F x (.loc i (j * sz))) (hy : Ev pc F y (.val v)) (hM : M[i]? = some (.flat T' (l.flatMap en))) (hv : v.cells.toList = en q) (h1 : (en q).all (·.oneCell') = true) (hen : ∀ a, (en a).length = sz) (hj : pc = true → j < l.length) : DOp P pc o F M [i] .junk [(i, .flat T' ((l.set j q).flatMap en))] := fun hp =>
  op_st ho hT hx hy hM hv (hen q) h1 (by
    rw [flat_len hen, hen]
    calc j * sz + sz = (j + 1) * sz := by rw [Nat.succ_mul]
      _ ≤ l.length * sz := Nat.mul_le_mul_right _ (hj hp)) (flat_set hen (hj hp) q) hp
end
section
variable {P : Program} {pc : Bool} {o : Oper} {F : Fr} {M : List Blk}
end
section
variable {P : Program} {s0 : St} {n : Cx}
end
end Go.Proofs.Ytmpodnadoebclaa
namespace Go.Proofs.Ytmpodnadoebclaa
set_option linter.unusedVariables false
set_option linter.unusedSimpArgs false
open Go.RowKit
section
variable {α : Type} [DecidableEq α]
variable {P : Program} {T : TypeId} {en : α → List Value}
end
section
variable {α : Type} [DecidableEq α] {P : Program} {K E T : TypeId} {en : α → List Value} {pc : Bool} {o : Oper} {F : Fr} {M : List Blk} {x y z : Operand}
def mpT (P : Program) (T : TypeId) : Option (TypeId × TypeId) := match P.underlying T with
  | some (.map k e) => some (k, e)
  | _ => none
theorem mpT_spec (h : mpT P T = some (K, E)) : P.underlying T = some (.map K E) := by
  unfold mpT at h
  split at h
  · rename_i k e hk; cases h; exact hk
  · cases h
omit [DecidableEq α] in
end
end Go.Proofs.Ytmpodnadoebclaa
namespace Go.Proofs.Ytmpodnadoebclaa
set_option linter.unusedVariables false
set_option linter.unusedSimpArgs false
open Go.RowKit
section
variable {P : Program} {pc : Bool} {o : Oper} {F : Fr} {M : List Blk} {T : TypeId} {x y : Operand} {n sz : Nat} {k : IntKind} {z : Int} {α : Type} {en : α → List Value} {l : List α} {j : Nat}
end
section
variable {P : Program} {s0 : St} {n : Cx}
/-- a loop whose first rounds were walked by hand -/
theorem dloop_inv {α : Type} {c : Code} {F : Fr} {M : List Blk} {K : Cont} (J : α → Fr) (JM : α → List Blk) (Pr : α → Prop) (μ : α → Nat) (x0 : α) (h0 : Pr x0)
    (hin : ∀ a w, Inv s0 n F M a w → Inv s0 n (J x0) (JM x0) a w)
    (round : ∀ x, Pr x → dwp P s0 n c (J x) (JM x) (Kseq (fun F' M' => ∃ y, Pr y ∧ μ y < μ x ∧ ∀ a w, Inv s0 n F' M' a w → Inv s0 n (J y) (JM y) a w) K)) : dloop P s0 n c F M K := by
  intro a0 w0 hi0
  intro b k cs hro hb hr
  have key : ∀ m x a w, μ x = m → Pr x → Inv s0 n (J x) (JM x) a w → ∃ e a' w', PostK s0 n K e a' w' ∧ ArrivesIn (Machine.fenced P (wd (n.ρ s0))) P (lone (b.atR a (.code c :: .inLoop c :: k)) cs w) b k cs e a' w' := by
    intro m
    induction m using Nat.strongRecOn with
    | _ m ih =>
      intro x a w hm hp hi
      obtain ⟨e, a₁, w₁, hq, harr⟩ := round x hp a w hi b (.inLoop c :: k) cs hro hb hr
      cases e with
      | normal =>
        obtain ⟨F', M', hi', y, hy, hlt, hback⟩ := hq
        obtain ⟨e₂, a₂, w₂, hq₂, harr₂⟩ := ih (μ y) (hm ▸ hlt) y a₁ w₁ rfl hy (hback _ _ hi')
        exact ⟨e₂, a₂, w₂, hq₂, .of_steps (StepsIn.trans harr (.one (fenced_calm hb hr rfl) stepR_inLoop)) harr₂⟩
      | exit id => exact ⟨.exit id, a₁, w₁, hq, .pass (x := .inLoop c) rfl (fun _ _ => .inl (by simp)) harr⟩
      | goto l => exact ⟨.goto l, a₁, w₁, hq, .pass (x := .inLoop c) rfl (fun _ _ => .inl (by simp)) harr⟩
      | ret => exact ⟨.ret, a₁, w₁, hq, .pass (x := .inLoop c) rfl (fun _ _ => .inl (by simp)) harr⟩
      | panic ch => exact ⟨.panic ch, a₁, w₁, hq, .pass (x := .inLoop c) rfl (fun _ _ => .inl (by simp)) harr⟩
      | outgrown => exact ⟨.outgrown, a₁, w₁, hq, .pass (x := .inLoop c) rfl (fun _ _ => .inl (by simp)) harr⟩
  exact key _ x0 a0 w0 rfl h0 (hin _ _ hi0)
theorem dloopS {α : Type} {c : Code} {F : Fr} {M : List Blk} {K : Cont} (hg : Gs s0 n) (dyn : α → Fr) (stat : Fr) (dynM : α → List (Nat × Blk)) (Mst : List Blk) (Pr : α → Prop) (μ : α → Nat) (x0 : α) (σ0 : List Nat) (h0 : Pr x0)
    (hσ0 : okσ n.k σ0 = true) (hF0 : Fits F σ0 M stat) (hF1 : Fits F σ0 M (dyn x0)) (hM0 : MFits σ0 nov M σ0 (upd Mst (dynM x0)))
    (round : ∀ x, Pr x → dwp P s0 n c (dyn x ++ stat) (upd Mst (dynM x)) (Kseq (Again n.k (fun x => dyn x ++ stat) (fun x => upd Mst (dynM x)) Pr μ x) K)) : dloop P s0 n c F M K := by
  refine dloop_inv (fun x => dyn x ++ stat) (fun x => upd Mst (dynM x)) Pr μ x0 h0 (fun a w hi => inv_ren hi hg hσ0 (fits_app hF1 hF0) hM0) fun x hx => dwp_mono (round x hx) ?_
  intro e F' M' hk
  cases e with
  | normal => obtain ⟨y, σ, h1, h2, h3, h4, h5⟩ := hk; exact ⟨y, h1, h2, fun a w hi => inv_ren hi hg h3 h4 h5⟩
  | exit id => exact hk
  | goto l => exact hk
  | ret => exact hk
  | panic d => exact hk
end
section
variable {α : Type} [DecidableEq α] {P : Program} {K E T : TypeId} {en : α → List Value} {pc : Bool} {o : Oper} {F : Fr} {M : List Blk} {x y z : Operand}
end
end Go.Proofs.Ytmpodnadoebclaa
namespace Go.Proofs.Ytmpodnadoebclaa
set_option linter.unusedVariables false
set_option linter.unusedSimpArgs false
open Go.RowKit
section
variable {P : Program} {pc : Bool} {o : Oper} {F : Fr} {M : List Blk} {T e : TypeId} {by' : Nat} {x y : Operand}
/-- make, of length 0 -/
theorem op_mk0 (j n : Nat) {sz : Nat} {k k' : IntKind} {z z' : Int} {Z : List Value} (ho : o.op = .makeSlice T x y) (hT : slE P T = some (e, sz, by')) (hZ : zrC P e = some Z) (hx : Ev pc F x (.val (.int k z))) (hy : Ev pc F y (.val (.int k' z'))) (hz : pc = true → z = 0) (hz' : pc = true → z' = (n : Int)) (hj : M[j]? = some .hole) (hb : pc = true → by' * n ≤ 281474976710656 ∧ n ≤ 9223372036854775807) :
    DOp P pc o F M [j] (.arr j) [(j, .arr e sz 0 [])] := by
  intro hp a s hok hops hfp
  obtain ⟨e1, ti, e2, e3, e4⟩ := slE_spec hT
  obtain ⟨ti', zv, q1, q2, q3⟩ := zrC_spec hZ
  rw [e2] at q1
  obtain rfl := Option.some.inj q1
  have h1 := (ev_at hp hx (by simp [ho, Op.operands]) hops).val_eq
  have h2 := (ev_at hp hy (by simp [ho, Op.operands]) hops).val_eq
  rw [hz hp] at h1
  rw [hz' hp] at h2
  obtain ⟨b1, b2⟩ := hb hp
  have hj' : s.M[j]? = some .hole := by rw [hfp j (by simp)]; exact hj
  have hjl : j < s.β.length := by rw [hok.len]; exact (List.getElem?_eq_some_iff.1 hj').1
  have hb3 : (ti.bytes : Int) * (n : Int) ≤ 281474976710656 := by
    have h : ((ti.bytes * n : Nat) : Int) ≤ 281474976710656 := by rw [e4]; omega
    rwa [Int.natCast_mul] at h
  have hrun := run_make (P := P) s.w T e ti zv e1 e2 q2 k k' 0 n (Int.le_refl _) (by omega) hb3 (by omega)
  simp only [Int.toNat_natCast, Int.toNat_zero] at hrun
  have hrow := World.ownsRow_made (base := 0) (e := e) (size := ti.size) s.w (madeCells zv.cells (n * ti.size)) n (Nat.zero_le _) (by unfold maxLen; omega) (size_madeCells _ _)
  rw [e3] at hrow hrun
  refine dg_step (s' := ⟨s.β.set j (.slice (some ⟨s.w.heap.size, 0, none⟩) 0 n), s.I, s.M.set j (.arr e sz 0 []), _⟩) (v := .slice (some ⟨s.w.heap.size, 0, none⟩) 0 n) ?_ (tr_new hok hj' _ _ _ (by simp) (fun b hb => by cases hb; rfl) (fun b h => Below.heap_alloc _ _ _ h) (fun b hb => by cases hb; simp) (by simp) rfl rfl rfl hrow) rfl (.arr (by simp [hjl]))
  unfold execOp
  simp only [ho, h1, h2]
  exact run_v hrun
theorem setL_nil (L : List Value) (p : Nat) : setL L p [] = L := by cases L <;> rfl
end
section
variable {P : Program} {pc : Bool} {o : Oper} {F : Fr} {M : List Blk} {T T' : TypeId} {x y : Operand} {k k' : IntKind} {p q : Int}
theorem fdiv_pow (p : Int) (j : Nat) : p.fdiv (2 ^ j) = p / 2 ^ j := Int.fdiv_eq_ediv_of_nonneg _ (Int.le_of_lt (Int.pow_pos (by decide)))
theorem op_shr (j : Nat) (ho : o.op = .binOp .shr T x y T') (hx : Ev pc F x (.val (.int k p))) (hy : Ev pc F y (.val (.int k' q))) (hq : pc = true → q = (j : Int) ∧ j ≤ k.bits) : DOp P pc o F M [] (.val (.int k (p / 2 ^ j))) [] := by
  refine op_val2 hx hy (by simp [ho, Op.operands]) fun hp a w e1 e2 => ?_
  obtain ⟨h1, h2⟩ := hq hp
  subst h1
  unfold execOp
  simp only [ho, e1, e2]
  refine run_v ?_
  have hg : (eqGuard .shr T x y (.int k p) (.int k' (j : Int))).run P w = .ok () w := by unfold eqGuard; rfl
  rw [Sem.run_bind, hg]
  simp only [Result.andThen, binOp, Op.shift]
  rw [if_neg (by omega), Int.toNat_natCast, Nat.min_eq_left h2]
  simp [fdiv_pow]
def andZ (k : IntKind) (p q : Int) : Int := k.wrap (BitVec.ofInt k.bits p &&& BitVec.ofInt k.bits q).toNat
theorem op_iand (ho : o.op = .binOp .and T x y T') (hx : Ev pc F x (.val (.int k p))) (hy : Ev pc F y (.val (.int k q))) : DOp P pc o F M [] (.val (.int k (andZ k p q))) [] := int_bin ho hx hy fun w => ⟨by unfold eqGuard; rfl, by simp [binOp, Op.intBits, andZ]⟩
end
section
variable {P : Program} {pc : Bool} {o : Oper} {F : Fr} {M : List Blk} {T : TypeId} {x lo hi mx : Operand} {n sz : Nat} {α : Type} {en : α → List Value} {l : List α} {k k1 k2 : IntKind} {lz hz mz : Int}
end
section
variable {P : Program} {pc : Bool} {o : Oper} {F : Fr} {M : List Blk} {T e : TypeId} {by' n : Nat} {ds : List D} {Z : List Value}
end
section
variable {P : Program} {pc : Bool} {o : Oper} {F : Fr} {M : List Blk}
/-- what stands in one cell -/
def D.oc : D → Bool
  | .slf _ _ _ => true
  | .slm _ _ _ => true
  | .arr _ => true
  | .fn _ _ _ => true
  | .farr _ _ => true
  | .floc _ _ _ => true
  | .val u => u.oneCell'
  | _ => false
theorem oc_one {s : St} {d : D} {v : Value} (h : Rep s d v) (hd : d.oc = true) : v.oneCell' = true := by
  cases h with
  | val v => exact hd
  | slf => rfl
  | slm => rfl
  | arr => rfl
  | fn => rfl
  | farr => rfl
  | floc => rfl
  | _ => cases hd
theorem run_build {T : TypeId} {ps : List (Nat × Operand)} {vs : List Value} {offs : List (Nat × Nat)} {Z R : List Value} {a : Act} {w : World} (ho : o.op = .build T ps.toArray) (hT : fdL P T = some offs) (hZ : zrC P T = some Z) (hvs : (ps.map (·.2)).map a.eval = vs)
    (hB : fillB offs Z.length ((ps.map (·.1)).zip (vs.map fun v => v.cells.toList)) = true) (hR : fillL offs Z ((ps.map (·.1)).zip (vs.map fun v => v.cells.toList)) = R) : (execOp a.eval o).run P w = .ok (.value (.agg R.toArray)) w := by
  obtain ⟨i, z, e1, e2, e3⟩ := zrC_spec hZ
  unfold fdL at hT
  split at hT
  · rename_i fs hu
    have hparts : (ps.toArray.map fun (i, x) => (i, a.eval x)).toList = (ps.map (·.1)).zip vs := by
      rw [← hvs]
      simp only [List.map_toArray]
      clear hB hR hvs ho
      induction ps with
      | nil => rfl
      | cons p ps ih => simp only [List.map_cons, List.zip_cons_cons]; rw [← ih]
    have hz : ((ps.map (·.1)).zip vs).map (fun p => (p.1, p.2.cells.toList)) = (ps.map (·.1)).zip (vs.map fun v => v.cells.toList) := by
      rw [List.zip_map_right]
      rfl
    have hpl : (fs.mapM fun f => (do pure (f.offset, ← sizeOf f.type) : Sem (Nat × Nat))).run P w = .ok offs.toArray w := by
      rw [Array.mapM_eq_mapM_toList, Sem.run_map, mapM_run (P := P) (w := w) _ _ (fun f b hb => ?_) fs.toList offs hT]
      · rfl
      · simp only [Option.map_eq_some_iff] at hb
        obtain ⟨j, hj, rfl⟩ := hb
        simp [sizeOf, typeInfo, hj]
    have hf := fill_struct (offs := offs) ((ps.map (·.1)).zip vs) z.cells (by rw [hz, ← Array.length_toList, e3]; exact hB)
    rw [hz, e3, hR] at hf
    unfold execOp
    simp only [ho]
    refine run_v ?_
    have hz0 : (zeroValue T).run P w = .ok z w := by simp [zeroValue, typeInfo, e1, e2]
    simp only [Instr.build, Sem.run_bind, hz0, run_underlying hu, Result.andThen_ok, hpl, hparts, hf, Sem.run_pure]
  · cases hT
/-- such a struct into a new variable -/
theorem op_boxam {T : TypeId} {x : Operand} {ds : List D} (j : Nat) (ho : o.op = .box T x) (hx : Ev pc F x (.agg ds)) (hj : M[j]? = some .hole) : DOp P pc o F M [j] (.loc j 0) [(j, .mix T ds)] := by
  intro hp a s hok hops hfp
  have hr := ev_at hp hx (by simp [ho, Op.operands]) hops
  have hj' : s.M[j]? = some .hole := by rw [hfp j (by simp)]; exact hj
  have hjl : j < s.β.length := by rw [hok.len]; exact (List.getElem?_eq_some_iff.1 hj').1
  have hβ : s.β[j]? = some .nilFunc := by
    have e : s.β[j]? = some s.β[j] := List.getElem?_eq_getElem hjl
    have : s.β[j] = .nilFunc := hok.blk j .hole _ hj' e
    rw [e, this]
  generalize hv : a.eval x = vx at hr
  cases hr with
  | @agg _ vs hvl h =>
    have ht : Tr s ⟨s.β.set j (.pointer (some ⟨s.w.heap.size, 0, none⟩)), s.I, s.M.set j (.mix T ds), s.w.alloc (.cells vs.toArray T)⟩ := by
      refine tr_new hok hj' _ _ _ (by simp) (fun b hb => by simpa [hb] using (Option.some.inj hb).symm) (fun b h => Below.heap_alloc _ _ _ h) (fun b hb => ?_) (by simp) rfl rfl rfl ⟨_, vs, rfl, heap_alloc_new s.w _, hvl, fun k e v hk hv => ?_⟩
      · cases hb; simp
      · refine Rep.mono' (s := s) (s' := ⟨s.β.set j (.pointer (some ⟨s.w.heap.size, 0, none⟩)), s.I, s.M.set j (.mix T ds), s.w.alloc (.cells vs.toArray T)⟩) (fun i h hi hne => ?_) (fun _ h => h) (fun b hI => Below.heap_alloc _ _ _ (hok.il b hI)) (h k e v hk hv)
        show (s.β.set j _)[i]? = some h
        by_cases e : j = i
        · subst e; rw [hi] at hβ; exact absurd (Option.some.inj hβ) hne
        · rw [List.getElem?_set_ne e]; exact hi
    refine dg_step (v := .pointer (some ⟨s.w.heap.size, 0, none⟩)) ?_ ht rfl (rep_new hjl rfl)
    unfold execOp
    simp only [ho, hv]
    rfl
/-- .. into a variable as a whole -/
theorem op_stam {T T' : TypeId} {x y : Operand} {i k : Nat} {rw' : Bool} {ds : List D} {L : List Value} (ho : o.op = .store T x y) (hT : tyB P T = some (rw', k)) (hx : Ev pc F x (.loc i 0)) (hy : Ev pc F y (.agg ds)) (hM : M[i]? = some (.flat T' L)) (hk : ds.length = k) (hfit : ds.length = L.length) (h1 : ds.all D.oc = true) : DOp P pc o F M [i] .junk [(i, .mix T' ds)] := by
  intro hp a s hok hops hfp
  have hr := ev_at hp hx (by simp [ho, Op.operands]) hops
  have hry := ev_at hp hy (by simp [ho, Op.operands]) hops
  have hM' : s.M[i]? = some (.flat T' L) := by rw [hfp i (by simp)]; exact hM
  generalize hv : a.eval x = vx at hr
  generalize hvy : a.eval y = vy at hry
  cases hr with
  | @loc _ _ b h =>
    cases hry with
    | @agg _ vs hvl hd =>
      obtain ⟨b', e1, e2⟩ := hok.blk i _ _ hM' h
      cases e1
      have hcell := cellsAt_block e2 0
      have hoc : ∀ u ∈ vs, u.oneCell' = true := fun u hu => by
        obtain ⟨j, hj, rfl⟩ := List.getElem_of_mem hu
        have hj2 : j < ds.length := by omega
        exact oc_one (hd j _ _ (List.getElem?_eq_getElem hj2) (List.getElem?_eq_getElem hj)) (List.all_eq_true.1 h1 _ (List.getElem_mem hj2))
      have hrun := run_store (P := P) (w := s.w) (C := vs) ho hT hv hvy rfl (by omega) (fun j hj => by
          have hp' : j < L.length := by omega
          have := hcell j L[j] (by simp [hp'])
          rw [Nat.zero_add] at this
          rw [Nat.zero_add, this]; rfl) (fun j hj => by simp [World.frozen?, e2]) hoc
      have hβ : s.β.set i (.pointer (some ⟨b, 0, none⟩)) = s.β := by
        apply List.ext_getElem?
        intro k
        by_cases e : i = k
        · subst e; rw [List.getElem?_set_self (List.getElem?_eq_some_iff.1 h).1, h]
        · rw [List.getElem?_set_ne e]
      refine dg_skip (s' := ⟨s.β.set i (.pointer (some ⟨b, 0, none⟩)), s.I, s.M.set i (.mix T' ds), s.w.setCells b 0 vs⟩) hrun (tr_store hok hM' rfl h rfl 0 _ ?_) rfl
      have hall : setL L 0 vs = vs := setL_all (by omega)
      have hblk := setCells_block b vs 0 s.w L T' e2
      rw [hall] at hblk
      refine ⟨b, vs, rfl, hblk, hvl, fun j e v hj hv' => ?_⟩
      refine Rep.mono' (s := s) (s' := ⟨s.β.set i (.pointer (some ⟨b, 0, none⟩)), s.I, s.M.set i (.mix T' ds), s.w.setCells b 0 vs⟩) (fun k x hk _ => by show (s.β.set i _)[k]? = _; rw [hβ]; exact hk) (fun _ h => h) (fun b' hI => setCells_other b _ 0 s.w b' fun e => ?_) (hd j e v hj hv')
      subst e
      exact (hok.lt b' (live_of hM' rfl h rfl)).2 hI
end
section
variable {P : Program} {pc : Bool} {o : Oper} {F : Fr} {M : List Blk}
def ptT (P : Program) (T : TypeId) : Option TypeId := match P.underlying T with
  | some (.pointer e) => some e
  | _ => none
theorem ptT_spec {P : Program} {T e : TypeId} (h : ptT P T = some e) : P.underlying T = some (.pointer e) := by
  unfold ptT at h
  split at h
  · rename_i e' h1; cases h; exact h1
  · cases h
end
section
variable {P : Program} {pc : Bool} {o : Oper} {F : Fr} {M : List Blk}
end
end Go.Proofs.Ytmpodnadoebclaa
namespace Go.Proofs.Ytmpodnadoebclaa
set_option linter.unusedVariables false
set_option linter.unusedSimpArgs false
open Go.RowKit
section
variable {P : Program} {pc : Bool} {o : Oper} {F : Fr} {M : List Blk}
/-- an address in memory that stays is not nil -/
theorem op_pnilm {T T' e : TypeId} {x : Operand} {l : List D} (ho : o.op = .binOp .eql T x (.const (.pointer none)) T') (hT : ptT P T = some e) (hx : Ev pc F x (.dpm l)) : DOp P pc o F M [] (.val (.bool false)) [] := by
  intro hp a s hok hops _
  have hr := ev_at hp hx (by simp [ho, Op.operands]) hops
  generalize hv : a.eval x = vx at hr
  cases hr with
  | @dpm b q _ _ _ _ _ _ _ =>
    refine dg_val (v := .bool false) hok ?_ (.val _)
    unfold execOp
    simp only [ho, hv]
    refine run_v ?_
    have hc : a.eval (.const (.pointer none)) = .pointer none := rfl
    rw [hc]
    have hg : (eqGuard .eql T x (.const (.pointer none)) (.pointer (some ⟨b, q, none⟩)) (.pointer none)).run P s.w = .ok () s.w := by unfold eqGuard; rfl
    rw [Sem.run_bind, hg]
    have he := run_equal_pointer_nil (P := P) s.w T (some ⟨b, q, none⟩) (by rw [show P.pointee T = e by simp [Program.pointee, ptT_spec hT]]; exact ptT_spec hT)
    simp only [Result.andThen, binOp, Sem.run_bind, he]
    rfl
theorem op_fadm {f q : Nat} {T : TypeId} {x : Operand} {l : List D} (ho : o.op = .fieldAddr T x f) (hT : fdO P T f = some q) (hx : Ev pc F x (.dpm l)) : DOp P pc o F M [] (.dpm (l.drop q)) [] := by
  intro hp a s hok hops hfp
  have hr := ev_at hp hx (by simp [ho, Op.operands]) hops
  generalize hv : a.eval x = vx at hr
  cases hr with
  | @dpm b c _ vs hnl hI hc hl h =>
    refine dg_val hok (run_fieldAddr ho hT hv) (.dpm (vs := vs.drop q) (nlL_drop q hnl) hI (fun j v hj => ?_) (by simp [hl]) fun j d v hj hv => ?_)
    · rw [List.getElem?_drop] at hj
      rw [Nat.add_assoc]
      exact hc _ v hj
    · rw [List.getElem?_drop] at hj hv
      exact h _ d v hj hv
end
end Go.Proofs.Ytmpodnadoebclaa
namespace Go.Proofs.Ytmpodnadoebclaa
set_option linter.unusedVariables false
set_option linter.unusedSimpArgs false
open Go.RowKit
section
variable {P : Program} {pc : Bool} {o : Oper} {F : Fr} {M : List Blk}
end
section
variable {P : Program} {s0 : St} {n : Cx}
end
section
variable {P : Program} {pc : Bool} {o : Oper} {F : Fr} {M : List Blk}
theorem nlL_take : ∀ {l : List D} (k : Nat), D.nlL l = true → D.nlL (l.take k) = true
  | _, 0, _ => by simp [D.nlL]
  | [], _ + 1, _ => rfl
  | d :: l, k + 1, h => by
    rw [D.nlL, Bool.and_eq_true] at h
    rw [List.take_succ_cons, D.nlL, h.1, nlL_take k h.2]
    rfl
/-- a part of a slice of slices that stays -/
theorem op_slms {T e : TypeId} {sz by' n : Nat} {x : Operand} {lo hi : Option Operand} {L : List D} {l h : Int} (ho : o.op = .slice T x lo hi none) (hT : slE P T = some (e, sz, by')) (hx : Ev pc F x (.slm sz n L)) (hlo : Bd pc F lo 0 l) (hhi : Bd pc F hi n h)
    (hb : pc = true → 0 ≤ l ∧ l ≤ h ∧ h ≤ n) : DOp P pc o F M [] (.slm sz (h.toNat - l.toNat) ((L.drop (l.toNat * sz)).take ((h.toNat - l.toNat) * sz))) [] := by
  intro hp a s hok hops _
  obtain ⟨b1, b2, b3⟩ := hb hp
  have hr := ev_at hp hx (by simp [ho, Op.operands]) hops
  generalize hv : a.eval x = vx at hr
  cases hr with
  | @slm _ _ cap ad _ vs hnl hl hn hc ha hvl hel hL =>
    refine dg_val hok (run_slice ho hT hv (bd_at hp hlo (fun u e => by subst e; simp [ho, Op.operands]) hops) (bd_at hp hhi (fun u e => by subst e; simp [ho, Op.operands]) hops) b1 b2 b3 hn) ?_
    have hlen : ((L.drop (l.toNat * sz)).take ((h.toNat - l.toNat) * sz)).length = (h.toNat - l.toNat) * sz := by
      rw [List.length_take, List.length_drop, hl, ← Nat.mul_sub_right_distrib]
      exact Nat.min_eq_left (Nat.mul_le_mul_right _ (by omega))
    refine .slm (vs := (vs.drop (l.toNat * sz)).take ((h.toNat - l.toNat) * sz)) (nlL_take _ (nlL_drop _ hnl)) hlen (by omega) (by omega) (fun e => ?_) (by rw [List.length_take, List.length_drop, List.length_take, List.length_drop, hvl]) (fun j d v h1 h2 => ?_) ?_
    · split at e
      · omega
      · cases ad with
        | none => have := ha rfl; omega
        | some ad => cases e
    · rw [List.getElem?_take] at h1 h2
      split at h1
      · rename_i hj
        rw [if_pos hj] at h2
        rw [List.getElem?_drop] at h1 h2
        exact hel _ d v h1 h2
      · cases h1
    · rcases hL with rfl | ⟨b, q, rfl, hI, hcl⟩
      · left; simp
      · by_cases hz : cap = l.toNat
        · left
          have : h.toNat - l.toNat = 0 := by omega
          rw [this]; simp
        · right
          rw [if_neg hz]
          exact ⟨b, q + l.toNat * sz, by rw [Option.map_some, Addr.add_mid], hI, cellsAt_sub hcl _ _⟩
theorem flatM_drop {α β : Type} {en : α → List β} {sz : Nat} (hen : ∀ a, (en a).length = sz) : ∀ (l : List α) (k : Nat), (l.flatMap en).drop (k * sz) = (l.drop k).flatMap en
  | l, 0 => by simp
  | [], k + 1 => by simp
  | a :: l, k + 1 => by
    rw [List.flatMap_cons, List.drop_succ_cons, ← flatM_drop hen l k, Nat.succ_mul, Nat.add_comm (k * sz), ← List.drop_drop, List.drop_left' (hen a)]
theorem flatM_take {α β : Type} {en : α → List β} {sz : Nat} (hen : ∀ a, (en a).length = sz) : ∀ (l : List α) (k : Nat), (l.flatMap en).take (k * sz) = (l.take k).flatMap en
  | l, 0 => by simp
  | [], k + 1 => by simp
  | a :: l, k + 1 => by
    rw [List.flatMap_cons, List.take_succ_cons, List.flatMap_cons, ← flatM_take hen l k, Nat.succ_mul, Nat.add_comm (k * sz), List.take_add, List.take_left' (hen a), List.drop_left' (hen a)]
/-- .. from i to j -/
theorem op_slmmd {α : Type} {mk : α → List D} {r : List α} {T e : TypeId} {sz by' : Nat} {x : Operand} {lo hi : Option Operand} {l h : Int} {i j : Nat} (ho : o.op = .slice T x lo hi none) (hT : slE P T = some (e, sz, by')) (hx : Ev pc F x (.slm sz r.length (r.flatMap mk))) (hlo : Bd pc F lo 0 l) (hhi : Bd pc F hi r.length h)
    (hl : pc = true → l = (i : Int)) (hh : pc = true → h = (j : Int)) (hij : pc = true → i ≤ j ∧ j ≤ r.length) (hmk : ∀ a, (mk a).length = sz) : DOp P pc o F M [] (.slm sz ((r.drop i).take (j - i)).length (((r.drop i).take (j - i)).flatMap mk)) [] := fun hp => by
  have h1 := hij hp
  have := op_slms (P := P) (M := M) ho hT hx hlo hhi (fun hp => by have := hl hp; have := hh hp; omega) hp
  rw [hl hp, hh hp, Int.toNat_natCast, Int.toNat_natCast, flatM_drop hmk, flatM_take hmk] at this
  rw [show ((r.drop i).take (j - i)).length = j - i by rw [List.length_take, List.length_drop]; omega]
  exact this
theorem op_slmtk {α : Type} {mk : α → List D} {r : List α} {T e : TypeId} {sz by' : Nat} {x : Operand} {hi : Option Operand} {h : Int} {j : Nat} (ho : o.op = .slice T x none hi none) (hT : slE P T = some (e, sz, by')) (hx : Ev pc F x (.slm sz r.length (r.flatMap mk))) (hhi : Bd pc F hi r.length h)
    (hh : pc = true → h = (j : Int)) (hij : pc = true → j ≤ r.length) (hmk : ∀ a, (mk a).length = sz) : DOp P pc o F M [] (.slm sz (r.take j).length ((r.take j).flatMap mk)) [] :=
  op_slmmd (i := 0) ho hT hx (bd_none (z := 0)) hhi (fun _ => rfl) hh (fun hp => ⟨Nat.zero_le _, hij hp⟩) hmk
end
end Go.Proofs.Ytmpodnadoebclaa
namespace Go.Proofs.Ytmpodnadoebclaa
set_option linter.unusedVariables false
set_option linter.unusedSimpArgs false
open Go.ChangeShapes Go.WideShapes Go.ChangeAt Go.RowKit Go.Joins Go.Deep
section
variable {P : Program} {w : World}
theorem nlL_app : ∀ {a b : List D}, D.nlL a = true → D.nlL b = true → D.nlL (a ++ b) = true
  | [], _, _, h => h
  | d :: a, b, h, h' => by
    rw [D.nlL, Bool.and_eq_true] at h
    rw [List.cons_append, D.nlL, h.1, nlL_app h.2 h']
    rfl
theorem nlL_flat {α : Type} {mk : α → List D} (h : ∀ a, D.nlL (mk a) = true) : ∀ l : List α, D.nlL (l.flatMap mk) = true
  | [] => rfl
  | a :: l => by rw [List.flatMap_cons]; exact nlL_app (h a) (nlL_flat h l)
end
end Go.Proofs.Ytmpodnadoebclaa
namespace Go.Proofs.Ytmpodnadoebclaa
set_option linter.unusedVariables false
set_option linter.unusedSimpArgs false
open Go.RowKit
section
variable {P : Program} {pc : Bool} {o : Oper} {F : Fr} {M : List Blk}
theorem arx_cells {s : St} (hok : Ok s) {i : Nat} {T' : TypeId} {sz n n' c b : Nat} {l : List D} (h1 : s.M[i]? = some (.arx T' sz n l)) (h2 : s.β[i]? = some (.slice (some ⟨b, 0, none⟩) n' c)) : n' = n ∧ l.length = n * sz ∧ n ≤ c ∧ c ≤ maxLen ∧ ∃ vs : List Value, vs.length = l.length ∧ cellsAt s.w b 0 vs ∧ ∀ (j : Nat) d v, l[j]? = some d → vs[j]? = some v → Rep s d v := by
  obtain ⟨vs, hk, q3, q4⟩ := hok.blk i _ _ h1 h2
  rcases hk.2 with ⟨e1, e2⟩ | ⟨g, cap, cur, e1, e2, e3, e4, e5, e6, e7⟩
  · cases e1
  · cases e1
    have hc0 := cellsAt_sub (cellsAt_block e3 0) 0 (n * sz)
    exact ⟨rfl, by rw [← q3]; exact hk.1, e4, e5, vs, q3, by simpa [e7] using hc0, q4⟩
theorem op_lenx {T T' : TypeId} {x : Operand} {q : TypeId × Nat × Nat} {i sz n : Nat} {l : List D} (ho : o.op = .call { callee := .builtin .len, args := #[x], argTypes := #[T] }) (hT : slE P T = some q) (hx : Ev pc F x (.arr i)) (hM : M[i]? = some (.arx T' sz n l)) : DOp P pc o F M [i] (.val (.int .i64 n)) [] := by
  intro hp a s hok hops hfp
  obtain ⟨e1, _⟩ := slE_spec hT
  have hr := ev_at hp hx (by simp [ho, Op.operands, Call.operands]) hops
  generalize hv : a.eval x = vx at hr
  cases hr with
  | arr h =>
    have hM' : s.M[i]? = some (.arx T' sz n l) := by rw [hfp i (by simp)]; exact hM
    obtain ⟨vs, hk, _⟩ := hok.blk i _ _ hM' h
    refine dg_val hok (run_builtin ho (fun cs => rfl) ?_) (.val (.int .i64 n))
    rcases hk.2 with ⟨e2, e3⟩ | ⟨g, cap, cur, e2, _⟩
    · cases e2; simp [Builtin.len_, hv, run_underlying e1, goInt, e3]
    · cases e2; simp [Builtin.len_, hv, run_underlying e1, goInt]
/-- an element's place -/
theorem op_ixx {T T' e : TypeId} {x y : Operand} {i sz by' n : Nat} {l : List D} {k : IntKind} {z : Int} (j : Nat) (ho : o.op = .indexAddr T x y) (hT : slE P T = some (e, sz, by')) (hx : Ev pc F x (.arr i)) (hy : Ev pc F y (.val (.int k z))) (hM : M[i]? = some (.arx T' sz n l)) (hz : pc = true → z = (j : Int)) (hj : pc = true → j < n) : DOp P pc o F M [i] (.aloc i (j * sz)) [] := by
  intro hp a s hok hops hfp
  have hr := ev_at hp hx (by simp [ho, Op.operands]) hops
  have h2 := (ev_at hp hy (by simp [ho, Op.operands]) hops).val_eq
  have hz := hz hp
  have hj := hj hp
  subst hz
  generalize hv : a.eval x = vx at hr
  cases hr with
  | @arr _ ad n' c hb =>
    have hM' : s.M[i]? = some (.arx T' sz n l) := by rw [hfp i (by simp)]; exact hM
    obtain ⟨vs, hk, _⟩ := hok.blk i _ _ hM' hb
    rcases hk.2 with ⟨e1, e2⟩ | ⟨g, cap, cur, e1, e2, e3, e4, e5, e6, e7⟩
    · exfalso; omega
    · cases e1
      refine dg_val hok (run_index_sl ho hT hv h2 (by omega) (by omega)) ?_
      rw [Addr.add_mid, Nat.zero_add, Int.toNat_natCast]
      exact .aloc hb
/-- an element of one cell -/
theorem op_ldx {T T' : TypeId} {x : Operand} {i p k sz n : Nat} {l : List D} {d : D} (ho : o.op = .load T x) (hT : tyB P T = some (false, k)) (hx : Ev pc F x (.aloc i p)) (hM : M[i]? = some (.arx T' sz n l)) (hR : l[p]? = some d) : DOp P pc o F M [i] d [] := by
  intro hp a s hok hops hfp
  have hr := ev_at hp hx (by simp [ho, Op.operands]) hops
  generalize hv : a.eval x = vx at hr
  cases hr with
  | @aloc _ _ n' c b h =>
    obtain ⟨_, hl, _, _, vs, q3, hc, q4⟩ := arx_cells hok (by rw [hfp i (by simp)]; exact hM) h
    have hpl : p < l.length := (List.getElem?_eq_some_iff.1 hR).1
    have hv' : vs[p]? = some vs[p] := List.getElem?_eq_getElem (by omega)
    exact dg_val hok (run_load_one ho hT hv (by simpa using hc p _ hv')) (q4 p d _ hR hv')
/-- made of data, each of one cell -/
theorem op_bsx {T e : TypeId} {n by' : Nat} {Z : List Value} {ps : List (Nat × Operand)} {ds : List D} (j : Nat) (h1 : ∀ (s : St) d v, d ∈ ds → Rep s d v → v.cells = #[v]) (ho : o.op = .buildSlice T n ps.toArray) (hT : slE P T = some (e, 1, by')) (hZ : zrC P e = some Z) (hi : ps.map (·.1) = List.range' 0 n) (hv : EvL pc F (ps.map (·.2)) ds) (hn : n ≤ 16777216) (hj : M[j]? = some .hole) :
    DOp P pc o F M [j] (.arr j) [(j, .arx e 1 n ds)] := by
  intro hp a s hok hops hfp
  obtain ⟨r1, r2⟩ := evL_reps (a := a) (s := s) hp _ _ hv (fun x hx => hops x (by rw [ho]; simpa [Op.operands] using hx))
  obtain ⟨vs, hvs⟩ : ∃ vs, vs = (ps.map (·.2)).map a.eval := ⟨_, rfl⟩
  rw [← hvs] at r1 r2
  have hcell : ∀ v ∈ vs, v.cells = #[v] := fun v hv' => by
    obtain ⟨j, hj, rfl⟩ := List.getElem_of_mem hv'
    have hj2 : j < ds.length := by omega
    exact h1 s _ _ (List.getElem_mem hj2) (r2 j _ _ (List.getElem?_eq_getElem hj2) (List.getElem?_eq_getElem hj))
  have hlen : vs.length = n := by
    rw [hvs, List.length_map, List.length_map]
    have := congrArg List.length hi
    simpa using this
  have hflat : ∀ us : List Value, (∀ v ∈ us, v.cells = #[v]) → (us.flatMap fun v => v.cells.toList) = us := fun us h => by
    induction us with
    | nil => rfl
    | cons u us ih => rw [List.flatMap_cons, h u (List.mem_cons_self ..), ih fun v hv => h v (List.mem_cons_of_mem _ hv)]; rfl
  have hrun := run_buildSlice (P := P) (w := s.w) ho hT hZ hi hvs.symm (fun v hv => by rw [hcell v hv]; rfl) (by omega)
  rw [hflat vs hcell] at hrun
  have hj' : s.M[j]? = some .hole := by rw [hfp j (by simp)]; exact hj
  have hjl : j < s.β.length := by rw [hok.len]; exact (List.getElem?_eq_some_iff.1 hj').1
  have hmono := step_imm hok (.cells vs.toArray e)
  refine dg_step (s' := ⟨s.β.set j (.slice (some ⟨s.w.heap.size, 0, none⟩) n n), s.I, s.M.set j (.arx e 1 n ds), _⟩) hrun (tr_new hok hj' _ _ _ (by simp) (fun b hb => by cases hb; rfl) (fun b h => Below.heap_alloc _ _ _ h) (fun b hb => by cases hb; simp) (by simp) rfl rfl rfl ?_) rfl (.arr (by simp [hjl]))
  have hrow := World.ownsRow_lit (base := 0) (e := e) (size := 1) s.w vs.toArray n (Nat.zero_le _) (by unfold maxLen; omega) (by simp [hlen])
  refine ⟨vs, by simpa using hrow, r1, fun j' d v h2 h3 => ?_⟩
  refine Rep.mono' (s := s) (s' := ⟨s.β.set j (.slice (some ⟨s.w.heap.size, 0, none⟩) n n), s.I, s.M.set j (.arx e 1 n ds), s.w.alloc (.cells vs.toArray e)⟩) (fun i h hi hne => ?_) (fun _ h => h) (fun b hb => Below.heap_alloc _ _ _ (hok.il b hb)) (r2 j' d v h2 h3)
  by_cases e' : i = j
  · subst e'
    exact absurd (hok.blk i _ h hj' hi) hne
  · rw [List.getElem?_set_ne (Ne.symm e')]; exact hi
end
end Go.Proofs.Ytmpodnadoebclaa
namespace Go.Proofs.Ytmpodnadoebclaa
set_option linter.unusedVariables false
set_option linter.unusedSimpArgs false
open Go.RowKit
/-- a block of one's own is given up: it stays from now on, as it is left -/
theorem tr_give {s : St} (ho : Ok s) {j g : Nat} {k : Blk} {h : Value} (hM : s.M[j]? = some k) (hl : k.live = true) (hh : s.β[j]? = some h) (hbb : hb h = some g) (w' : World)
    (hkeep : ∀ b, b ≠ g → w'.heap[b]? = s.w.heap[b]?) (hsz : w'.heap.size = s.w.heap.size) (hos : w'.os = s.w.os) (htape : w'.tape = s.w.tape) (hout : w'.output = s.w.output) :
    Tr s ⟨s.β, fun b => s.I b ∨ b = g, s.M.set j .gone, w'⟩ := by
  have hnd : ∀ (i : Nat) h, s.β[i]? = some h → h ≠ .nilFunc → s.β[i]? = some h := fun _ _ h _ => h
  replace hbb : owns k h g := owns_of (ho.blk j k h hM hh) hbb
  have hlg : Live s g := live_of hM hl hh hbb
  have hg := ho.lt g hlg
  have imm : ∀ b, s.I b → w'.heap[b]? = s.w.heap[b]? := fun b hI => hkeep b fun e => by subst e; exact hg.2 hI
  have old : ∀ (i : Nat) k', (s.M.set j .gone)[i]? = some k' → k'.live = true → i ≠ j ∧ s.M[i]? = some k' := by
    intro i k' h1 h2
    by_cases e : i = j
    · subst e
      rw [List.getElem?_set_self (by have := (List.getElem?_eq_some_iff.1 hM).1; exact this)] at h1
      cases h1; cases h2
    · rw [List.getElem?_set_ne (Ne.symm e)] at h1
      exact ⟨e, h1⟩
  have ne : ∀ (i : Nat) k' h' b, i ≠ j → s.M[i]? = some k' → k'.live = true → s.β[i]? = some h' → owns k' h' b → b ≠ g := by
    intro i k' h' b e h1 h2 h3 h4 e2
    subst e2
    exact e (ho.inj i j k' k h' h b h1 h2 h3 h4 hM hl hh hbb)
  have lv : ∀ b, Live ⟨s.β, fun b => s.I b ∨ b = g, s.M.set j .gone, w'⟩ b → Live s b ∧ b ≠ g := by
    rintro b ⟨i, k', h', h1, h2, h3, h4⟩
    obtain ⟨e, a⟩ := old i k' h1 h2
    exact ⟨live_of a h2 h3 h4, ne i k' h' b e a h2 h3 h4⟩
  refine ⟨⟨by simp [ho.len], fun i k' h' h1 h2 => ?_, fun b hb => ?_, ?_, fun b hI => ?_⟩, hkeep_of hnd, fun _ h => .inl h, fun b h => ?_, fun b hb hn => hkeep b fun e => by subst e; exact hn hlg, fun b h => .inr (lv b h).1, hos, htape, hout, by simp [hsz]⟩
  · cases hk : k'.live with
    | false =>
      cases k' with
      | gone => trivial
      | hole =>
        by_cases e : i = j
        · subst e
          rw [List.getElem?_set_self (by have := (List.getElem?_eq_some_iff.1 hM).1; exact this)] at h1
          cases h1
        · rw [List.getElem?_set_ne (Ne.symm e)] at h1
          exact ho.blk i _ h' h1 h2
      | _ => cases hk
    | true =>
      obtain ⟨e, a⟩ := old i k' h1 hk
      exact BlkOk.mono (s := s) (s' := ⟨s.β, fun b => s.I b ∨ b = g, s.M.set j .gone, w'⟩) hnd (fun _ h => .inl h) imm (ho.blk i k' h' a h2) fun b hl' hb' => hkeep b (ne i k' h' b e a hl' h2 hb')
  · obtain ⟨h1, h2⟩ := lv b hb
    obtain ⟨h3, h4⟩ := ho.lt b h1
    exact ⟨by show b < w'.heap.size; omega, fun h => h.elim h4 h2⟩
  · intro i i2 k1 k2 h1 h2 b a1 a2 a3 a4 c1 c2 c3 c4
    obtain ⟨_, a1⟩ := old i k1 a1 a2
    obtain ⟨_, c1⟩ := old i2 k2 c1 c2
    exact ho.inj i i2 k1 k2 h1 h2 b a1 a2 a3 a4 c1 c2 c3 c4
  · show b < w'.heap.size
    rcases hI with h | h
    · have := ho.il b h; omega
    · omega
  · rcases h with h | h
    · exact .inl h
    · subst h; exact .inr (.inr hlg)
section
variable {P : Program} {pc : Bool} {o : Oper} {F : Fr} {M : List Blk} {T e : TypeId} {by' : Nat} {x y : Operand}
theorem DOp.cast {d d' : D} {fp : List Nat} {wr : List (Nat × Blk)} (h : DOp P pc o F M fp d wr) (e : d = d') : DOp P pc o F M fp d' wr := e ▸ h
end
end Go.Proofs.Ytmpodnadoebclaa
namespace Go.Proofs.Ytmpodnadoebclaa
set_option linter.unusedVariables false
set_option linter.unusedSimpArgs false
open Go.RowKit
section
variable {P : Program} {s0 : St} {n : Cx}
theorem inv_adoptx {F : Fr} {M : List Blk} {a : Act} {w : World} {t : Nat} (e : TypeId) (sz : Nat) (h : Inv s0 n F M a w) (ht : lk F t = some (.val (.slice none 0 0))) : Inv s0 n ((t, .arr M.length) :: F) (M ++ [.arx e sz 0 []]) a w := by
  obtain ⟨h0, s, rfl, rfl, h3, h4, h5, h6⟩ := h
  have t1 := step_hole h3.ok
  have hlen := h3.ok.len
  have hn : (s.M ++ [Blk.hole])[s.M.length]? = some .hole := by simp
  have t2 : Tr ⟨s.β ++ [Value.nilFunc], s.I, s.M ++ [Blk.hole], s.w⟩ ⟨(s.β ++ [Value.nilFunc]).set s.M.length (.slice none 0 0), s.I, (s.M ++ [Blk.hole]).set s.M.length (.arx e sz 0 []), s.w⟩ :=
    tr_new (s := ⟨s.β ++ [Value.nilFunc], s.I, s.M ++ [Blk.hole], s.w⟩) t1.ok (j := s.M.length) hn (.slice none 0 0) (.arx e sz 0 []) s.w (by simp) (fun b hb => by cases hb) (fun b _ => rfl) (fun b hb => by cases hb) (Nat.le_refl _) rfl rfl rfl ⟨[], World.ownsRow_nil s.w 0 e sz, rfl, fun j d v h => by simp at h⟩
  have tt := t1.trans t2
  refine ⟨h0, ⟨(s.β ++ [Value.nilFunc]).set s.M.length (.slice none 0 0), s.I, (s.M ++ [Blk.hole]).set s.M.length (.arx e sz 0 []), s.w⟩, by simp, rfl, h3.trans tt, fun x d hd => ?_, h5, h6.mono h3.ok tt⟩
  rw [lk_cons] at hd
  split at hd
  · rename_i e'
    subst e'
    obtain rfl := Option.some.inj hd
    have := (h4 t _ ht).val_eq
    rw [this]
    exact .arr (by simp [hlen])
  · exact (h4 x d hd).mono h3.ok tt
/-- a nil slice taken over as a row of its own that holds data -/
theorem dwp_adoptx {c : Code} {F : Fr} {M M' : List Blk} {K : Cont} (t : Nat) (e : TypeId) (sz : Nat) {m : Nat} (ht : lk F t = some (.val (.slice none 0 0))) (hm : M.length = m) (hM : M ++ [.arx e sz 0 []] = M') (h : dwp P s0 n c ((t, .arr m) :: F) M' K) : dwp P s0 n c F M K := by
  subst hm hM
  exact fun a w hi => h a w (inv_adoptx e sz hi ht)
end
section
variable {P : Program} {pc : Bool} {o : Oper} {F : Fr} {M : List Blk}
end
end Go.Proofs.Ytmpodnadoebclaa
namespace Go.Proofs.Ytmpodnadoebclaa
set_option linter.unusedVariables false
set_option linter.unusedSimpArgs false
open Go.RowKit
section
variable {P : Program} {s0 : St} {n : Cx}
theorem inv_reb {F : Fr} {M : List Blk} {a : Act} {w : World} {i : Nat} {k k' : Blk} (h : Inv s0 n F M a w) (hM : M[i]? = some k) (hl : k.live = k'.live) (hk : ∀ s h, BlkOk s h k → BlkOk s h k') (hf : k.nf = true := by rfl) (hf' : k'.nf = true := by rfl) : Inv s0 n F (M.set i k') a w := by
  obtain ⟨h0, s, rfl, rfl, h3, h4, h5, h6⟩ := h
  have hnd : ∀ (i : Nat) h, s.β[i]? = some h → h ≠ .nilFunc → s.β[i]? = some h := fun _ _ h _ => h
  have hlt := (List.getElem?_eq_some_iff.1 hM).1
  have old : ∀ (j : Nat) kk, (s.M.set i k')[j]? = some kk → (j = i ∧ kk = k') ∨ s.M[j]? = some kk := fun j kk hj => by
    by_cases e : i = j
    · subst e
      rw [List.getElem?_set_self hlt] at hj
      exact .inl ⟨rfl, (Option.some.inj hj).symm⟩
    · rw [List.getElem?_set_ne e] at hj; exact .inr hj
  have back : ∀ (j : Nat) kk, (s.M.set i k')[j]? = some kk → kk.live = true → ∃ k2, s.M[j]? = some k2 ∧ k2.live = true ∧ ∀ x b, owns kk x b → owns k2 x b := fun j kk hj hlv => by
    rcases old j kk hj with ⟨rfl, rfl⟩ | hj
    · exact ⟨k, hM, by rw [hl]; exact hlv, fun x b h => (owns_nf hf).2 ((owns_nf hf').1 h)⟩
    · exact ⟨kk, hj, hlv, fun _ _ h => h⟩
  have lv : ∀ b, Live ⟨s.β, s.I, s.M.set i k', s.w⟩ b → Live s b := by
    rintro b ⟨j, kk, x, h1, h2, h3, h4⟩
    obtain ⟨k2, g1, g2, g3⟩ := back j kk h1 h2
    exact live_of g1 g2 h3 (g3 _ _ h4)
  have mono : ∀ h kk, BlkOk s h kk → BlkOk ⟨s.β, s.I, s.M.set i k', s.w⟩ h kk := fun h kk hb => BlkOk.mono (s := s) (s' := ⟨s.β, s.I, s.M.set i k', s.w⟩) hnd (fun _ h => h) (fun _ _ => rfl) hb (fun _ _ _ => rfl)
  have tt : Tr s ⟨s.β, s.I, s.M.set i k', s.w⟩ := by
    refine ⟨⟨by simp [h3.ok.len], fun j kk h h1 h2 => ?_, fun b hb => h3.ok.lt b (lv b hb), ?_, h3.ok.il⟩, hkeep_of hnd, fun _ h => h, fun _ h => .inl h, fun _ _ _ => rfl, fun b h => .inr (lv b h), rfl, rfl, rfl, Nat.le_refl _⟩
    · rcases old j kk h1 with ⟨rfl, rfl⟩ | h1
      · exact mono _ _ (hk _ _ (h3.ok.blk _ _ h hM h2))
      · exact mono _ _ (h3.ok.blk j kk h h1 h2)
    · intro j j2 k1 k2 x x2 b a1 a2 a3 a4 c1 c2 c3 c4
      obtain ⟨q1, g1, g2, g5⟩ := back j k1 a1 a2
      obtain ⟨q2, g3, g4, g6⟩ := back j2 k2 c1 c2
      exact h3.ok.inj j j2 q1 q2 x x2 b g1 g2 a3 (g5 _ _ a4) g3 g4 c3 (g6 _ _ c4)
  exact ⟨h0, ⟨s.β, s.I, s.M.set i k', s.w⟩, rfl, rfl, h3.trans tt, fun x d hd => (h4 x d hd).mono h3.ok tt, h5, h6.mono h3.ok tt⟩
/-- a block is read anew -/
theorem dwp_reb {c : Code} {F : Fr} {M M' : List Blk} {K : Cont} (i : Nat) {k k' : Blk} (hk : ∀ s h, BlkOk s h k → BlkOk s h k') (hM : M[i]? = some k) (hl : k.live = k'.live) (hM' : M.set i k' = M') (h : dwp P s0 n c F M' K) (hf : k.nf = true := by rfl) (hf' : k'.nf = true := by rfl) : dwp P s0 n c F M K := by
  subst hM'
  exact fun a w hi => h a w (inv_reb hi hM hl hk hf hf')
theorem reb_mix {T : TypeId} {L : List Value} : ∀ s h, BlkOk s h (.flat T L) → BlkOk s h (.mix T (L.map D.val)) := fun s h hk => by
  obtain ⟨b, e1, e2⟩ := hk
  refine ⟨b, L, e1, e2, by simp, fun j d v h1 h2 => ?_⟩
  rw [List.getElem?_map, h2] at h1
  cases h1
  exact .val v
end
section
variable {P : Program} {pc : Bool} {o : Oper} {F : Fr} {M : List Blk}
/-- a struct with addresses, whole -/
theorem op_ldmw {T T' : TypeId} {x : Operand} {i k : Nat} {l : List D} (ho : o.op = .load T x) (hT : tyB P T = some (true, k)) (hx : Ev pc F x (.loc i 0)) (hM : M[i]? = some (.mix T' l)) (hl : l.length = k) : DOp P pc o F M [i] (.agg l) [] := by
  intro hp a s hok hops hfp
  have hr := ev_at hp hx (by simp [ho, Op.operands]) hops
  generalize hv : a.eval x = vx at hr
  cases hr with
  | @loc _ _ b h =>
    obtain ⟨b', vs, e1, e2, e3, e4⟩ := hok.blk i _ _ (by rw [hfp i (by simp)]; exact hM) h
    cases e1
    have hc : cellsAt s.w b 0 vs := cellsAt_block e2 0
    have hr := cellsAt_range hc 0 vs.length (R := vs) (by simp)
    exact dg_val hok (run_load_row ho hT hv (by simpa using hr) (by omega)) (.agg e3 e4)
theorem rv_mw {p : Tmp} {T T' : TypeId} {i k : Nat} {l : List D} (hT : tyB P T = some (true, k)) (h : lk F p = some (.loc i 0)) (hM : M[i]? = some (.mix T' l)) (hl : l.length = k) : RvD P (.cell p T) F M (.agg l) := fun s a ho hMs hF => by
  have hr := hF p _ h
  generalize hv : slot a p = v at hr
  cases hr with
  | @loc _ _ b hb =>
    obtain ⟨b', vs, e1, e2, e3, e4⟩ := ho.blk i _ _ (by rw [hMs]; exact hM) hb
    cases e1
    obtain ⟨dd, ii, h1, h2, h3, h4⟩ := tyB_spec hT
    refine ⟨.agg vs.toArray, ?_, .agg e3 e4⟩
    have hvx' : a.tmps.getD p undef = .pointer (some ⟨b, 0, none⟩) := hv
    simp only [rv, hvx']
    simp only [asAddr, Sem.run_bind, Sem.run_pure, Result.andThen_ok]
    exact run_loadVar_row s.w b T' T vs.toArray (0, 0) dd e2 h1 (by cases dd <;> simp_all [TypeDesc.isRow]) (by simp [h2, h4, hl, e3])
end
/-- what it hands back, as memory that stays; the blocks it was handed stay what they are -/
theorem freezeN {P : Program} {f : FuncId} {args : List D} {d d' : D} {Min Mout Mo : List Blk} {m : Nat} {σ : List Nat} (h : DFun P f args Min d Mout) (hm : Min.length = m) (hσ : okσ m σ = true) (hv : vw σ allv Mout d = some d') (hM : MFits σ allv Mout σ Mo) : DFun P f args Min d' Mo := by
  refine ⟨h.1, fun s vs hok hMs hr => (h.2 s vs hok hMs hr).mono ?_⟩
  rintro e w' ⟨s', rfl, ht, hor⟩
  rcases hor with ⟨d0, v, rfl, hrep, rfl, hMo⟩ | ⟨d0, v, _, _, hf⟩
  · exact ⟨vst s' σ allv Mo, rfl, tr_vst hok ht (by rw [hMo]; exact mfits _ _ hM) (m := m) (by rw [hMs]; exact Nat.le_of_eq hm) hσ, .inl ⟨d', v, rfl, vw_rep ht.ok hrep d' (by rw [hMo]; exact hv), rfl, rfl⟩⟩
  · exact hf.elim
theorem wrc {τ0 r : List Nat} {i : Nat} {k k' : Blk} {ks : List Blk} {r' : List (Nat × Blk)} (h : sbB τ0 k = some k') (h2 : wrOf τ0 r ks = some r') : wrOf τ0 (i :: r) (k :: ks) = some ((i, k') :: r') := by
  unfold wrOf; rw [h, h2]
end Go.Proofs.Ytmpodnadoebclaa
namespace Go.Proofs.Ytmpodnadoebclaa
set_option linter.unusedVariables false
set_option linter.unusedSimpArgs false
open Go.RowKit
/-- the cells of data -/
def D.cs : D → List D
  | .agg l => l
  | .val v => v.cells.toList.map .val
  | d => [d]
/-- what has cells of its own -/
def D.c1 : D → Bool
  | .opt _ _ => false
  | .tup _ => false
  | .junk => false
  | .hnd _ => false
  | _ => true
/-- what stands in one cell -/
def D.oc2 : D → Bool
  | .slf _ _ _ => true
  | .slm _ _ _ => true
  | .arr _ => true
  | .farr _ _ => true
  | .floc _ _ _ => true
  | .pin _ _ => true
  | .pip _ => true
  | .dpf _ => true
  | .dpm _ => true
  | .fn _ _ _ => true
  | .val u => u.oneCell'
  | _ => false
theorem oc2_one {s : St} {d : D} {v : Value} (h : Rep s d v) (hd : d.oc2 = true) : v.oneCell' = true := by
  cases h with
  | val v => exact hd
  | slf => rfl
  | slm => rfl
  | arr => rfl
  | fn => rfl
  | farr => rfl
  | floc => rfl
  | pin => rfl
  | pip => rfl
  | dpf => rfl
  | dpm => rfl
  | _ => cases hd
theorem cs_rep {s : St} {d : D} {v : Value} (h : Rep s d v) (hd : d.c1 = true) : Reps s d.cs v.cells.toList := by
  have h0 := h
  cases h with
  | val v =>
    refine ⟨by simp [D.cs], fun j e u h1 h2 => ?_⟩
    simp only [D.cs, List.getElem?_map, h2, Option.map_some] at h1
    cases h1
    exact .val u
  | agg hl h => exact ⟨hl, h⟩
  | opt => cases hd
  | tup => cases hd
  | junk => cases hd
  | hnd => cases hd
  | _ =>
    refine ⟨rfl, fun j e u h1 h2 => ?_⟩
    cases j with
    | zero => simp [D.cs, Value.cells] at h1 h2; subst h1 h2; exact h0
    | succ j => simp [D.cs, Value.cells] at h1
def setD : List D → Nat → List D → List D
  | Z, _, [] => Z
  | Z, p, d :: r => setD (Z.set p d) (p + 1) r
def fillD (offs : List (Nat × Nat)) : List D → List (Nat × List D) → List D
  | Z, [] => Z
  | Z, (i, C) :: r => fillD offs (setD Z ((offs.getD i (0, 0)).1) C) r
def fillBD (offs : List (Nat × Nat)) (n : Nat) : List (Nat × List D) → Bool
  | [] => true
  | (i, C) :: r => (match offs[i]? with | some (o, s) => C.length == s && Nat.ble (o + s) n | none => false) && fillBD offs n r
theorem reps_set {s : St} {Z : List D} {vz : List Value} (h : Reps s Z vz) {d : D} {v : Value} (hd : Rep s d v) (p : Nat) : Reps s (Z.set p d) (vz.set p v) := by
  refine ⟨by simp [h.1], fun j e u h1 h2 => ?_⟩
  by_cases e1 : p = j
  · subst e1
    by_cases hp : p < Z.length
    · rw [List.getElem?_set_self hp] at h1
      rw [List.getElem?_set_self (by rw [h.1]; exact hp)] at h2
      cases h1; cases h2; exact hd
    · rw [List.getElem?_eq_none (by simp; omega)] at h1; cases h1
  · rw [List.getElem?_set_ne e1] at h1 h2
    exact h.2 j e u h1 h2
theorem reps_setD {s : St} : ∀ (C : List D) (vc : List Value) (Z : List D) (vz : List Value) (p : Nat), Reps s C vc → Reps s Z vz → Reps s (setD Z p C) (setL vz p vc)
  | [], [], Z, vz, p, _, hz => by rw [setL_nil]; exact hz
  | d :: C, v :: vc, Z, vz, p, hc, hz => by
    rw [setD, setL]
    exact reps_setD C vc _ _ _ ⟨by simpa using hc.1, fun j e u h1 h2 => hc.2 (j + 1) e u (by simpa using h1) (by simpa using h2)⟩ (reps_set hz (hc.2 0 d v rfl rfl) p)
  | [], v :: vc, _, _, _, hc, _ => by have := hc.1; simp at this
  | d :: C, [], _, _, _, hc, _ => by have := hc.1; simp at this
theorem reps_fill {s : St} (offs : List (Nat × Nat)) (n : Nat) : ∀ (is : List Nat) (Cs : List (List D)) (vs : List (List Value)) (Z : List D) (vz : List Value), (∀ (j : Nat) C v, Cs[j]? = some C → vs[j]? = some v → Reps s C v) → Cs.length = vs.length → Reps s Z vz → fillBD offs n (is.zip Cs) = true →
    Reps s (fillD offs Z (is.zip Cs)) (fillL offs vz (is.zip vs)) ∧ fillB offs n (is.zip vs) = true
  | [], Cs, vs, Z, vz, _, _, hz, _ => by simpa [fillD, fillL, fillB] using hz
  | i :: is, [], vs, Z, vz, _, hl, hz, _ => by
    have : vs = [] := by cases vs with | nil => rfl | cons => simp at hl
    subst this
    simpa [fillD, fillL, fillB] using hz
  | i :: is, C :: Cs, [], Z, vz, _, hl, _, _ => by simp at hl
  | i :: is, C :: Cs, v :: vs, Z, vz, hc, hl, hz, hb => by
    simp only [List.zip_cons_cons, fillBD, Bool.and_eq_true] at hb
    simp only [List.zip_cons_cons, fillD, fillL, fillB, Bool.and_eq_true]
    have h0 := hc 0 C v rfl rfl
    obtain ⟨r1, r2⟩ := reps_fill offs n is Cs vs _ _ (fun j C v h1 h2 => hc (j + 1) C v (by simpa using h1) (by simpa using h2)) (by simpa using hl) (reps_setD C v Z vz _ h0 hz) hb.2
    refine ⟨r1, ?_, r2⟩
    rw [h0.1]
    exact hb.1
theorem reps_vals {s : St} (L : List Value) : Reps s (L.map .val) L := by
  refine ⟨by simp, fun j e u h1 h2 => ?_⟩
  rw [List.getElem?_map, h2] at h1
  cases h1
  exact .val u
theorem reps_app3 {s : St} {d1 d2 : List D} {v1 v2 : List Value} (h1 : Reps s d1 v1) (h2 : Reps s d2 v2) : Reps s (d1 ++ d2) (v1 ++ v2) := by
  refine ⟨by simp [h1.1, h2.1], fun j d v hd hv => ?_⟩
  by_cases hj : j < d1.length
  · rw [List.getElem?_append_left hj] at hd
    rw [List.getElem?_append_left (by rw [h1.1]; exact hj)] at hv
    exact h1.2 j d v hd hv
  · rw [List.getElem?_append_right (by omega)] at hd
    rw [List.getElem?_append_right (by rw [h1.1]; omega), h1.1] at hv
    exact h2.2 _ d v hd hv
theorem reps_cs {s : St} : ∀ (ds : List D) (vs : List Value), Reps s ds vs → ds.all D.c1 = true → Reps s (ds.flatMap D.cs) (vs.flatMap fun v => v.cells.toList)
  | [], [], _, _ => ⟨rfl, fun j e u h1 h2 => by simp at h1⟩
  | d :: ds, v :: vs, h, hc => by
    rw [List.all_cons, Bool.and_eq_true] at hc
    rw [List.flatMap_cons, List.flatMap_cons]
    exact reps_app3 (cs_rep (h.2 0 d v rfl rfl) hc.1) (reps_cs ds vs ⟨by simpa using h.1, fun j e u h1 h2 => h.2 (j + 1) e u (by simpa using h1) (by simpa using h2)⟩ hc.2)
  | [], v :: vs, h, _ => by have := h.1; simp at this
  | d :: ds, [], h, _ => by have := h.1; simp at this
theorem flatM_len' {α β : Type} {en : α → List β} {sz : Nat} (hen : ∀ a, (en a).length = sz) : ∀ l : List α, (l.flatMap en).length = l.length * sz
  | [] => by simp
  | a :: l => by rw [List.flatMap_cons, List.length_append, hen, flatM_len' hen l, List.length_cons, Nat.succ_mul]; omega
section
variable {P : Program} {pc : Bool} {o : Oper} {F : Fr} {M : List Blk}
theorem op_bldD {T : TypeId} {ps : List (Nat × Operand)} {ds R : List D} {offs : List (Nat × Nat)} {Z : List Value} (ho : o.op = .build T ps.toArray) (hT : fdL P T = some offs) (hZ : zrC P T = some Z) (hv : EvL pc F (ps.map (·.2)) ds) (hc : ds.all D.c1 = true)
    (hB : fillBD offs Z.length ((ps.map (·.1)).zip (ds.map D.cs)) = true) (hR : fillD offs (Z.map .val) ((ps.map (·.1)).zip (ds.map D.cs)) = R) : DOp P pc o F M [] (.agg R) [] := by
  intro hp a s hok hops _
  obtain ⟨r1, r2⟩ := evL_reps (a := a) (s := s) hp _ _ hv (fun x hx => hops x (by rw [ho]; simpa [Op.operands] using hx))
  have hf := reps_fill (s := s) offs Z.length (ps.map (·.1)) (ds.map D.cs) (((ps.map (·.2)).map a.eval).map fun v => v.cells.toList) (Z.map .val) Z (fun j C v h1 h2 => by
      rw [List.getElem?_map] at h1 h2
      simp only [Option.map_eq_some_iff] at h1 h2
      obtain ⟨d, h1, rfl⟩ := h1
      obtain ⟨u, h2, rfl⟩ := h2
      exact cs_rep (r2 j d u h1 h2) (List.all_eq_true.1 hc _ (List.mem_of_getElem? h1))) (by rw [List.length_map, List.length_map]; exact r1.symm) (reps_vals Z) hB
  rw [hR] at hf
  exact dg_val hok (run_build (P := P) (a := a) (w := s.w) ho hT hZ rfl hf.2 rfl) (.agg hf.1.1 hf.1.2)
/-- a slice of structs of data, that stays as it is made -/
theorem op_bsr {T e : TypeId} {n sz by' : Nat} {ps : List (Nat × Operand)} {ds R : List D} {Z : List Value} (ho : o.op = .buildSlice T n ps.toArray) (hT : slE P T = some (e, sz, by')) (hZ : zrC P e = some Z) (hi : ps.map (·.1) = List.range' 0 n) (hv : EvL pc F (ps.map (·.2)) ds) (hc : ds.all D.c1 = true) (hs : ds.all (fun d => d.cs.length == sz) = true)
    (hR : ds.flatMap D.cs = R) (hnl : D.nlL R = true) (hl : R.length = n * sz) (hn : n ≤ 16777216) (hn2 : n * sz ≤ 16777216) : DOp P pc o F M [] (.slm sz n R) [] := by
  intro hp a s hok hops _
  have hr := evL_reps (a := a) (s := s) hp _ _ hv (fun x hx => hops x (by rw [ho]; simpa [Op.operands] using hx))
  obtain ⟨vs, hvs⟩ : ∃ vs, vs = (ps.map (·.2)).map a.eval := ⟨_, rfl⟩
  rw [← hvs] at hr
  have hcs := reps_cs ds vs hr hc
  rw [hR] at hcs
  have hcell : ∀ v ∈ vs, v.cells.size = sz := fun v hv' => by
    obtain ⟨j, hj, rfl⟩ := List.getElem_of_mem hv'
    have hj2 : j < ds.length := by have := hr.1; omega
    have h1 := (cs_rep (hr.2 j _ _ (List.getElem?_eq_getElem hj2) (List.getElem?_eq_getElem hj)) (List.all_eq_true.1 hc _ (List.getElem_mem hj2))).1
    have h2 := List.all_eq_true.1 hs _ (List.getElem_mem hj2)
    simp only [beq_iff_eq] at h2
    rw [h2] at h1
    simpa using h1
  have hrun := run_buildSlice (P := P) (w := s.w) ho hT hZ hi hvs.symm hcell hn2
  have ht := step_imm hok (.cells (vs.flatMap fun v => v.cells.toList).toArray e)
  refine dg_step (s' := ⟨s.β, fun b => s.I b ∨ b = s.w.heap.size, s.M, _⟩) hrun ht rfl (.slm hnl hl (Nat.le_refl _) (by unfold maxLen; omega) (fun e => by cases e) hcs.1 (fun j d v h1 h2 => (hcs.2 j d v h1 h2).mono hok ht) (.inr ⟨_, 0, rfl, .inr rfl, ?_⟩))
  simpa using cellsAt_block (heap_alloc_new s.w _) 0
/-- an element of a slice of structs -/
theorem op_ixmd {T e : TypeId} {x y : Operand} {k : IntKind} {z : Int} {n sz by' : Nat} {ds R : List D} (j : Nat) (hpos : 0 < sz) (ho : o.op = .indexAddr T x y) (hT : slE P T = some (e, sz, by')) (hx : Ev pc F x (.slm sz n ds)) (hy : Ev pc F y (.val (.int k z))) (hz : pc = true → z = (j : Int)) (hj : pc = true → j < n) (hR : (ds.drop (j * sz)).take sz = R) : DOp P pc o F M [] (.dpm R) [] := by
  intro hp a s hok hops _
  have hr := ev_at hp hx (by simp [ho, Op.operands]) hops
  have h2 := (ev_at hp hy (by simp [ho, Op.operands]) hops).val_eq
  have hj := hj hp
  rw [hz hp] at h2
  generalize hv : a.eval x = vx at hr
  cases hr with
  | @slm _ _ cap ad _ vs hnl hl hn hc ha hvl h hm =>
    rcases hm with hm | ⟨b, q, rfl, hI, hcl⟩
    · rw [hm] at hl
      have : 0 < n * sz := Nat.mul_pos (by omega) hpos
      simp at hl
      omega
    · have hrun := run_index_sl (P := P) (w := s.w) ho hT hv h2 (by omega) (by omega)
      rw [Addr.add_mid, Int.toNat_natCast] at hrun
      subst hR
      refine dg_val hok hrun (.dpm (vs := (vs.drop (j * sz)).take sz) (nlL_take _ (nlL_drop _ hnl)) hI (cellsAt_sub hcl _ _) (by rw [List.length_take, List.length_drop, List.length_take, List.length_drop, hvl]) (fun i d' v h1 h2 => ?_))
      rw [List.getElem?_take] at h1 h2
      split at h1
      · rename_i hi
        rw [if_pos hi] at h2
        rw [List.getElem?_drop] at h1 h2
        exact h _ d' v h1 h2
      · cases h1
theorem op_ixmr {α : Type} {mk : α → List D} {l : List α} {T e : TypeId} {x y : Operand} {k : IntKind} {z : Int} {sz by' : Nat} (j : Nat) (hpos : 0 < sz) (ho : o.op = .indexAddr T x y) (hT : slE P T = some (e, sz, by')) (hx : Ev pc F x (.slm sz l.length (l.flatMap mk))) (hy : Ev pc F y (.val (.int k z))) (hz : pc = true → z = (j : Int)) (hj : j < l.length) (hmk : ∀ a, (mk a).length = sz) : DOp P pc o F M [] (.dpm (mk l[j])) [] :=
  op_ixmd j hpos ho hT hx hy hz (fun _ => hj) (by rw [flatM_drop hmk, List.drop_eq_getElem_cons hj, List.flatMap_cons, List.take_left' (hmk _)])
/-- a struct, whole, in memory that stays -/
theorem op_lddr {T : TypeId} {x : Operand} {k : Nat} {ld R : List D} (ho : o.op = .load T x) (hT : tyB P T = some (true, k)) (hx : Ev pc F x (.dpm ld)) (hR : ld.take k = R) (hl : R.length = k) : DOp P pc o F M [] (.agg R) [] := by
  intro hp a s hok hops hfp
  have hr := ev_at hp hx (by simp [ho, Op.operands]) hops
  generalize hv : a.eval x = vx at hr
  cases hr with
  | @dpm b q _ vs hnl hI hc hvl h =>
    subst hR
    have hr := cellsAt_range hc 0 k (R := vs.take k) (by simp)
    have hlv : (vs.take k).length = k := by rw [List.length_take] at hl ⊢; omega
    refine dg_val hok (run_load_row ho hT hv (by simpa using hr) hlv) (.agg (by rw [hlv, hl]) (fun j d v h1 h2 => ?_))
    rw [List.getElem?_take] at h1 h2
    split at h1
    · rename_i hi
      rw [if_pos hi] at h2
      exact h j d v h1 h2
    · cases h1
/-- the first structs of a row that stays, with no room behind them -/
theorem op_sl3m {α : Type} {mk : α → List D} {r : List α} {T e : TypeId} {sz by' : Nat} {x hi mx : Operand} {k k' : IntKind} {h h' : Int} {j : Nat} (ho : o.op = .slice T x none (some hi) (some mx)) (hT : slE P T = some (e, sz, by')) (hx : Ev pc F x (.slm sz r.length (r.flatMap mk))) (hhi : Ev pc F hi (.val (.int k h))) (hmx : Ev pc F mx (.val (.int k' h')))
    (hh : pc = true → h = (j : Int)) (hm : pc = true → h' = (j : Int)) (hj : pc = true → j ≤ r.length) (hmk : ∀ a, (mk a).length = sz) : DOp P pc o F M [] (.slm sz (r.take j).length ((r.take j).flatMap mk)) [] := by
  intro hp a s hok hops _
  have hr := ev_at hp hx (by simp [ho, Op.operands]) hops
  have e1 := (ev_at hp hhi (by simp [ho, Op.operands]) hops).val_eq
  have e2 := (ev_at hp hmx (by simp [ho, Op.operands]) hops).val_eq
  rw [hh hp] at e1
  rw [hm hp] at e2
  have hjl := hj hp
  obtain ⟨q1, ti, q2, q3, q4⟩ := slE_spec hT
  have hlen : (r.take j).length = j := by rw [List.length_take]; omega
  have hfl : (r.take j).flatMap mk = (r.flatMap mk).take (j * sz) := by rw [flatM_take hmk]
  generalize hv : a.eval x = vx at hr
  cases hr with
  | @slm _ _ cap ad _ vs hnl hl hn hc ha hvl hel hL =>
    have hjc : j ≤ cap := by omega
    have hrun : (execOp a.eval o).run P s.w = .ok (.value (.slice ad j j)) s.w := by
      unfold execOp
      simp only [ho, hv, Option.map_some, Option.map_none, e1, e2]
      refine run_v ?_
      have hj0 : (0 : Int) ≤ (j : Int) ∧ (j : Int) ≤ (cap : Int) := by omega
      simp [Instr.sliceAt, Instr.slice, run_underlying q1, Sem.run_bind, Instr.sliceBounds, Instr.sliceBound, asIntOf, hjc, sizeOf, typeInfo, q2, Addr.add_zero']
    refine dg_val hok hrun ?_
    rw [hlen, hfl]
    refine .slm (vs := vs.take (j * sz)) (nlL_take _ hnl) (by rw [← hfl, flatM_len' hmk, hlen]) (Nat.le_refl _) (by omega) (fun e => by have := ha e; omega) (by simp [hvl]) (fun p d v g1 g2 => ?_) ?_
    · rw [List.getElem?_take] at g1 g2
      split at g1
      · rename_i hp'
        rw [if_pos hp'] at g2
        exact hel p d v g1 g2
      · cases g1
    · rcases hL with hL | ⟨b, q, e, hI, hcl⟩
      · left; rw [hL]; simp
      · right
        refine ⟨b, q, e, hI, ?_⟩
        have h5 := cellsAt_sub hcl 0 (j * sz)
        simpa using h5
/-- append onto a row of one's own that holds structs of data -/
theorem op_appr {T e : TypeId} {by' sz n m i j : Nat} {x y : Operand} {l l2 : List D} {Z : List Value} (ho : o.op = .call { callee := .builtin .append, args := #[x, y], argTypes := #[T, T] }) (hT : slE P T = some (e, sz, by')) (hZ : zrC P e = some Z) (hZl : Z.length = sz)
    (hx : Ev pc F x (.arr i)) (hy : Ev pc F y (.slm sz m l2)) (hM : M[i]? = some (.arx e sz n l)) (hj : M[j]? = some .hole) (h1 : l2.all D.oc2 = true) (hbd : pc = true → (n + m) * by' ≤ 140737488355328 ∧ n + m ≤ 140737488355328) :
    DOp P pc o F M [i, j] (.arr j) [(i, .gone), (j, .arx e sz (n + m) (l ++ l2))] := by
  intro hp a s hok hops hfp
  obtain ⟨e1, ti, e2, e3, e4⟩ := slE_spec hT
  obtain ⟨ti', z, q1, q2, q3⟩ := zrC_spec hZ
  rw [e2] at q1
  obtain rfl := Option.some.inj q1
  obtain ⟨b1, b2⟩ := hbd hp
  have hM' : s.M[i]? = some (.arx e sz n l) := by rw [hfp i (by simp)]; exact hM
  have hj' : s.M[j]? = some .hole := by rw [hfp j (by simp)]; exact hj
  have hij : i ≠ j := fun h => by subst h; rw [hM'] at hj'; cases hj'
  have hjl : j < s.β.length := by rw [hok.len]; exact (List.getElem?_eq_some_iff.1 hj').1
  have hrx := ev_at hp hx (by simp [ho, Op.operands, Call.operands]) hops
  have hry := ev_at hp hy (by simp [ho, Op.operands, Call.operands]) hops
  generalize hv : a.eval x = vx at hrx
  generalize hvy : a.eval y = vy at hry
  cases hry with
  | @slm _ _ cap2 a2 _ vs2 hnl2 hl2 hn2 hc2 ha2 hvl2 hel2 hm2 =>
  have hso : SrcOk s (.slice a2 m cap2) m vs2 := by
    refine ⟨a2, cap2, rfl, ?_⟩
    cases a2 with
    | none =>
      have := ha2 rfl
      exact .inl ⟨rfl, by omega, this, List.eq_nil_of_length_eq_zero (by rw [hvl2, hl2, show m = 0 by omega, Nat.zero_mul])⟩
    | some ad =>
      refine .inr ⟨ad, rfl, fun k u hk => ?_⟩
      rcases hm2 with e | ⟨b, q, e, hI, hcl⟩
      · rw [e] at hvl2
        rw [List.eq_nil_of_length_eq_zero hvl2] at hk
        simp at hk
      · cases e
        rw [Addr.add_mid]
        exact hcl k u hk
  have hone : ∀ u ∈ vs2, u.oneCell' = true := fun u hu => by
    obtain ⟨k, hk, rfl⟩ := List.getElem_of_mem hu
    have hk2 : k < l2.length := by omega
    exact oc2_one (hel2 k _ _ (List.getElem?_eq_getElem hk2) (List.getElem?_eq_getElem hk)) (List.all_eq_true.1 h1 _ (List.getElem_mem hk2))
  cases hrx with
  | @arr _ ad n' c hβ =>
    obtain ⟨vs, hk, hvl, hel⟩ := hok.blk i _ _ hM' hβ
    obtain ⟨h', w', r1, r2, r3, r4⟩ := run_append_D (P := P) (ty := o.type) (m := m) e1 e2 e3 e4 q2 (by rw [← hZl, ← q3]; simp) hk (by rw [hvl2]; exact hl2) hso hone (by unfold maxLen; omega) b1
    have hs' : (h' = .slice none 0 0) ∨ ∃ a n c, h' = .slice (some a) n c := by
      rcases r2.2 with ⟨q, _⟩ | ⟨g, cap, cur, q, _⟩
      · exact .inl q
      · exact .inr ⟨_, _, _, q⟩
    have hs0 : (Value.slice ad n' c = .slice none 0 0) ∨ ∃ a n k, Value.slice ad n' c = .slice (some a) n k := by
      rcases hk.2 with ⟨q, _⟩ | ⟨g, cap, cur, q, _⟩
      · exact .inl q
      · exact .inr ⟨_, _, _, q⟩
    have o1 := hb_own hs'
    have o0 := hb_own hs0
    have hblk : s.w.heap.size ≤ w'.heap.size := r3.size
    have hβj : s.β[j]? = some .nilFunc := by
      have q : s.β[j]? = some s.β[j] := List.getElem?_eq_getElem hjl
      have : s.β[j] = .nilFunc := hok.blk j .hole _ hj' q
      rw [q, this]
    have from_ : ∀ b, hb h' = some b → s.w.heap.size ≤ b ∨ (hb (Value.slice ad n' c) = some b) := by
      intro b hbb
      rw [o1] at hbb
      rcases r4 b hbb with h | h
      · exact .inr (by rw [o0]; exact h)
      · exact .inl h
    have hnd' : ∀ (k : Nat) h, s.β[k]? = some h → h ≠ .nilFunc → (s.β.set j h')[k]? = some h := fun k h hk' hne => by
      by_cases e : j = k
      · subst e; rw [hβj] at hk'; exact absurd (Option.some.inj hk').symm hne
      · rw [List.getElem?_set_ne e]; exact hk'
    have imm' : ∀ b, s.I b → w'.heap[b]? = s.w.heap[b]? := fun b hI => r3.block b (hok.il b hI) fun h => by
      rw [← o0] at h
      exact (hok.lt b (live_of hM' rfl hβ h.symm)).2 hI
    have hblkx : BlkOk ⟨s.β.set j h', s.I, (s.M.set i .gone).set j (.arx e sz (n + m) (l ++ l2)), w'⟩ h' (.arx e sz (n + m) (l ++ l2)) := by
      refine ⟨vs ++ vs2, r2, by simp [hvl, hvl2], fun k d v hk1 hk2 => ?_⟩
      by_cases hlt : k < l.length
      · rw [List.getElem?_append_left hlt] at hk1
        rw [List.getElem?_append_left (by omega)] at hk2
        exact Rep.mono' (s' := ⟨s.β.set j h', s.I, (s.M.set i .gone).set j (.arx e sz (n + m) (l ++ l2)), w'⟩) hnd' (fun _ h => h) imm' (hel k d v hk1 hk2)
      · rw [List.getElem?_append_right (by omega)] at hk1 hk2
        rw [hvl] at hk2
        exact Rep.mono' (s' := ⟨s.β.set j h', s.I, (s.M.set i .gone).set j (.arx e sz (n + m) (l ++ l2)), w'⟩) hnd' (fun _ h => h) imm' (hel2 _ d v hk1 hk2)
    have ht : Tr s ⟨s.β.set j h', s.I, (s.M.set i .gone).set j (.arx e sz (n + m) (l ++ l2)), w'⟩ := by
      refine step_set hok j (s.M.set i .gone) h' _ w' (by simp) (fun k kb hkb => ?_) (by rw [← hok.len]; exact hjl) (.inl hβj) (by rcases hs' with rfl | ⟨_, _, _, rfl⟩ <;> simp) hblkx (fun b hbb k kb hh hne q1 q2 q3 q4 => ?_) (fun b hbb => (from_ b hbb).imp id fun h => live_of hM' rfl hβ h) (fun b hbb => ?_) (fun b => hb (Value.slice ad n' c) = some b) (fun b hdr => ⟨live_of hM' rfl hβ hdr, fun k kb hh hne q1 q2 q3 q4 => ?_⟩) (fun b hlt hne hnd => ?_) r3.os r3.tape r3.output hblk
      · by_cases hki : i = k
        · subst hki
          have hlt : i < s.M.length := (List.getElem?_eq_some_iff.1 hM').1
          rw [List.getElem?_set_self hlt] at hkb
          exact .inr (Option.some.inj hkb).symm
        · rw [List.getElem?_set_ne hki] at hkb; exact .inl hkb
      · have hki : i ≠ k := fun h => by
          subst h
          have hlt : i < s.M.length := (List.getElem?_eq_some_iff.1 hM').1
          rw [List.getElem?_set_self hlt] at q1
          cases q1; cases q2
        rw [List.getElem?_set_ne hki] at q1
        rcases from_ b hbb with h | h
        · exact absurd (hok.lt b (live_of q1 q2 q3 q4)).1 (Nat.not_lt.2 h)
        · exact hki (hok.inj i k _ kb _ hh b hM' rfl hβ h q1 q2 q3 q4)
      · replace hbb : hb h' = some b := hbb
        rw [o1] at hbb
        exact (r2.lt b hbb).2
      · have hki : i ≠ k := fun h => by
          subst h
          have hlt : i < s.M.length := (List.getElem?_eq_some_iff.1 hM').1
          rw [List.getElem?_set_self hlt] at q1
          cases q1; cases q2
        rw [List.getElem?_set_ne hki] at q1
        exact hki (hok.inj i k _ kb _ hh b hM' rfl hβ hdr q1 q2 q3 q4)
      · exact r3.block b hlt fun h => hnd (by rw [o0]; exact h.symm)
    refine dg_step (s' := ⟨s.β.set j h', s.I, (s.M.set i .gone).set j (.arx e sz (n + m) (l ++ l2)), w'⟩) (run_builtin ho (fun cs => by rfl) (by simpa [hv, hvy] using r1)) ht rfl ?_
    rcases hs' with rfl | ⟨_, _, _, rfl⟩
    · exact .arr (by simp [hjl])
    · exact .arr (by simp [hjl])
end
section
variable {P : Program} {s0 : St} {n : Cx}
theorem inv_givem {F : Fr} {M : List Blk} {a : Act} {w : World} {T e : TypeId} {p q i sz m : Nat} {l ds : List D} (h : Inv s0 n F M a w) (hM : M[p]? = some (.mix T l)) (hq : l[q]? = some (.arr i)) (hi : M[i]? = some (.arx e sz m ds)) (hnl : D.nlL ds = true) : Inv s0 n F ((M.set i .gone).set p (.mix T (l.set q (.slm sz m ds)))) a w := by
  obtain ⟨h0, s, rfl, rfl, h3, h4, h5, h6⟩ := h
  have hpl : p < s.M.length := (List.getElem?_eq_some_iff.1 hM).1
  have hil : i < s.M.length := (List.getElem?_eq_some_iff.1 hi).1
  have hpi : p ≠ i := fun e => by subst e; rw [hM] at hi; cases hi
  have hpl' : p < s.β.length := by rw [h3.ok.len]; exact hpl
  have hil' : i < s.β.length := by rw [h3.ok.len]; exact hil
  have hβi : s.β[i]? = some s.β[i] := List.getElem?_eq_getElem (by rw [h3.ok.len]; exact hil)
  have hβp : s.β[p]? = some s.β[p] := List.getElem?_eq_getElem (by rw [h3.ok.len]; exact hpl)
  obtain ⟨b, vs, e1, e2, e3, e4⟩ := h3.ok.blk p _ _ hM hβp
  obtain ⟨us, hk, q3, q4⟩ := h3.ok.blk i _ _ hi hβi
  have hql : q < l.length := (List.getElem?_eq_some_iff.1 hq).1
  -- the value in that cell is the handle
  have hcell : vs[q]? = some s.β[i] := by
    have hv : vs[q]? = some vs[q] := List.getElem?_eq_getElem (by omega)
    have := e4 q _ _ hq hv
    rw [hv]
    generalize vs[q] = x at this
    cases this with
    | arr h => exact h.symm.trans hβi
  -- the row stays from now on, or is nil
  have main : ∃ I' : Nat → Prop, Tr s ⟨s.β, I', s.M.set i .gone, s.w⟩ ∧ Rep ⟨s.β, I', s.M.set i .gone, s.w⟩ (.slm sz m ds) s.β[i] := by
    rcases hk.2 with ⟨g1, g2⟩ | ⟨g, cap, cur, g1, g2, g3', g4, g5, g6, g7⟩
    · subst g2
      have hl0 : ds = [] := List.eq_nil_of_length_eq_zero (by rw [← q3, hk.1, Nat.zero_mul])
      refine ⟨s.I, ?_, ?_⟩
      · have hnd : ∀ (i : Nat) h, s.β[i]? = some h → h ≠ .nilFunc → s.β[i]? = some h := fun _ _ h _ => h
        have old : ∀ (j : Nat) k, (s.M.set i .gone)[j]? = some k → k = .gone ∨ s.M[j]? = some k := fun j k hj => by
          by_cases e : i = j
          · subst e
            rw [List.getElem?_set_self hil] at hj
            exact .inl (Option.some.inj hj).symm
          · rw [List.getElem?_set_ne e] at hj; exact .inr hj
        have lv : ∀ b, Live ⟨s.β, s.I, s.M.set i .gone, s.w⟩ b → Live s b := by
          rintro b ⟨j, k, h, h1, h2, h3, h4⟩
          rcases old j k h1 with rfl | h1
          · cases h2
          · exact live_of h1 h2 h3 h4
        refine ⟨⟨by simp [h3.ok.len], fun j k h h1 h2 => ?_, fun b hb => h3.ok.lt b (lv b hb), ?_, h3.ok.il⟩, hkeep_of hnd, fun _ h => h, fun _ h => .inl h, fun _ _ _ => rfl, fun b h => .inr (lv b h), rfl, rfl, rfl, Nat.le_refl _⟩
        · rcases old j k h1 with rfl | h1
          · trivial
          · exact BlkOk.mono (s := s) (s' := ⟨s.β, s.I, s.M.set i .gone, s.w⟩) hnd (fun _ h => h) (fun _ _ => rfl) (h3.ok.blk j k h h1 h2) (fun _ _ _ => rfl)
        · intro j j2 k k2 x x2 b a1 a2 a3 a4 c1 c2 c3 c4
          rcases old j k a1 with rfl | a1
          · cases a2
          · rcases old j2 k2 c1 with rfl | c1
            · cases c2
            · exact h3.ok.inj j j2 k k2 x x2 b a1 a2 a3 a4 c1 c2 c3 c4
      · rw [g1, hl0]
        exact .slm (vs := []) rfl (by simp) (Nat.le_refl _) (Nat.zero_le _) (fun _ => rfl) rfl (fun j d v h => by simp at h) (.inl rfl)
    · have tt := tr_give h3.ok hi rfl hβi (show hb s.β[i] = some g by rw [g1]; rfl) s.w (fun _ _ => rfl) rfl rfl rfl rfl
      refine ⟨_, tt, ?_⟩
      rw [g1]
      refine .slm (vs := us) hnl (by rw [← q3]; exact hk.1) g4 g5 (fun e => by cases e) q3 (fun j d v hj hv => (q4 j d v hj hv).mono h3.ok tt) (.inr ⟨g, 0, rfl, .inr rfl, ?_⟩)
      have hc := cellsAt_sub (cellsAt_block g3' 0) 0 (m * sz)
      show cellsAt s.w g 0 us
      simpa [g7] using hc
  obtain ⟨I', tt, hrep⟩ := main
  have hM2 : (s.M.set i .gone)[p]? = some (.mix T l) := by rw [List.getElem?_set_ne (Ne.symm hpi)]; exact hM
  have hset : s.β.set p s.β[p] = s.β := List.set_getElem_self ..
  have t2 : Tr ⟨s.β, I', s.M.set i .gone, s.w⟩ ⟨s.β, I', (s.M.set i .gone).set p (.mix T (l.set q (.slm sz m ds))), s.w⟩ := by
    have hst := step_set tt.ok p (s.M.set i .gone) s.β[p] (.mix T (l.set q (.slm sz m ds))) s.w rfl (fun i k h => .inl h) (by simpa using hpl) (.inr (.inl hβp)) (by rw [e1]; simp) ?_ (fun b' hb' j kj hj hne h1 h2 h3' h4' => ?_) (fun b' hb' => .inr (live_of hM2 rfl hβp hb')) (fun b' hb' => (tt.ok.lt b' (live_of hM2 rfl hβp hb')).1) (fun _ => False) (fun _ h => h.elim) (fun b' hlt hne _ => rfl) rfl rfl rfl (Nat.le_refl _)
    · have hst' := hst
      simp only [hset] at hst'
      exact hst'
    · refine ⟨b, vs, e1, e2, by simp [e3], fun j d v g1 g2 => ?_⟩
      have lift : ∀ {d v}, Rep s d v → Rep ⟨s.β.set p s.β[p], I', (s.M.set i .gone).set p (.mix T (l.set q (.slm sz m ds))), s.w⟩ d v := fun hr => by
        rw [hset]
        exact Rep.mono' (s := ⟨s.β, I', s.M.set i .gone, s.w⟩) (s' := ⟨s.β, I', (s.M.set i .gone).set p (.mix T (l.set q (.slm sz m ds))), s.w⟩) (fun _ _ h _ => h) (fun _ h => h) (fun _ _ => rfl) (hr.mono h3.ok tt)
      by_cases e : q = j
      · subst e
        rw [List.getElem?_set_self hql] at g1
        cases g1
        rw [hcell] at g2
        cases g2
        rw [hset]
        exact Rep.mono' (s := ⟨s.β, I', s.M.set i .gone, s.w⟩) (s' := ⟨s.β, I', (s.M.set i .gone).set p (.mix T (l.set q (.slm sz m ds))), s.w⟩) (fun _ _ h _ => h) (fun _ h => h) (fun _ _ => rfl) hrep
      · rw [List.getElem?_set_ne e] at g1
        exact lift (e4 j d v g1 g2)
    · exact hne (tt.ok.inj j p kj _ hj _ b' h1 h2 h3' h4' hM2 rfl hβp hb')
  exact ⟨h0, ⟨s.β, I', (s.M.set i .gone).set p (.mix T (l.set q (.slm sz m ds))), s.w⟩, rfl, rfl, (h3.trans tt).trans t2, fun x d hd => ((h4 x d hd).mono h3.ok tt).mono tt.ok t2, h5, (h6.mono h3.ok tt).mono tt.ok t2⟩
/-- a row of one's own in a struct's cell is given up: it stays from now on -/
theorem dwp_givem {c : Code} {F : Fr} {M M' : List Blk} {K : Cont} (p q : Nat) {T e : TypeId} {i sz m : Nat} {l ds : List D} (hnl : D.nlL ds = true) (hM : M[p]? = some (.mix T l)) (hq : l[q]? = some (.arr i)) (hi : M[i]? = some (.arx e sz m ds)) (hM' : (M.set i .gone).set p (.mix T (l.set q (.slm sz m ds))) = M') (h : dwp P s0 n c F M' K) : dwp P s0 n c F M K := by
  subst hM'
  exact fun a w hj => h a w (inv_givem hj hM hq hi hnl)
end
mutual
/-- data that names no block is the same everywhere -/
theorem vw_nl (σ : List Nat) (V : Nat → Bool) (M : List Blk) : ∀ d : D, d.nl = true → vw σ V M d = some d
  | .val v, _ => rfl
  | .loc i o, h => by cases h
  | .arr i, h => by cases h
  | .aloc i o, h => by cases h
  | .own i sz o n, h => by cases h
  | .part i sz o n c, h => by cases h
  | .dpf L, _ => rfl
  | .pin b L, _ => rfl
  | .pip L, _ => rfl
  | .slf sz n L, _ => rfl
  | .slc sz n L, _ => rfl
  | .tup l, h => by rw [vw, vwL_nl σ V M l (by simpa [D.nl] using h)]; rfl
  | .agg l, h => by rw [vw, vwL_nl σ V M l (by simpa [D.nl] using h)]; rfl
  | .dpm l, _ => rfl
  | .slm sz n l, _ => rfl
  | .smc sz n l, _ => rfl
  | .fn f a b, h => by
    rw [D.nl, Bool.and_eq_true] at h
    rw [vw, vwL_nl σ V M a h.1, vwL_nl σ V M b h.2]
  | .ifc t d, h => by rw [vw, vw_nl σ V M d (by simpa [D.nl] using h)]; rfl
  | .opt b d, h => by rw [vw, vw_nl σ V M d (by simpa [D.nl] using h)]; rfl
  | .hnd i, h => by cases h
  | .yld i, h => by cases h
  | .junk, _ => rfl
theorem vwL_nl (σ : List Nat) (V : Nat → Bool) (M : List Blk) : ∀ l : List D, D.nlL l = true → vwL σ V M l = some l
  | [], _ => rfl
  | d :: l, h => by
    rw [D.nlL, Bool.and_eq_true] at h
    rw [vwL, vw_nl σ V M d h.1, vwL_nl σ V M l h.2]
end
mutual
theorem sb_nl (τ : List Nat) : ∀ d : D, d.nl = true → sb τ d = some d
  | .val v, _ => rfl
  | .loc i o, h => by cases h
  | .arr i, h => by cases h
  | .aloc i o, h => by cases h
  | .own i sz o n, h => by cases h
  | .part i sz o n c, h => by cases h
  | .dpf L, _ => rfl
  | .pin b L, _ => rfl
  | .pip L, _ => rfl
  | .slf sz n L, _ => rfl
  | .slc sz n L, _ => rfl
  | .tup l, h => by rw [sb, sbL_nl τ l (by simpa [D.nl] using h)]; rfl
  | .agg l, h => by rw [sb, sbL_nl τ l (by simpa [D.nl] using h)]; rfl
  | .dpm l, _ => rfl
  | .slm sz n l, _ => rfl
  | .smc sz n l, _ => rfl
  | .fn f a b, h => by
    rw [D.nl, Bool.and_eq_true] at h
    rw [sb, sbL_nl τ a h.1, sbL_nl τ b h.2]
  | .ifc t d, h => by rw [sb, sb_nl τ d (by simpa [D.nl] using h)]; rfl
  | .opt b d, h => by rw [sb, sb_nl τ d (by simpa [D.nl] using h)]; rfl
  | .hnd i, h => by cases h
  | .yld i, h => by cases h
  | .junk, _ => rfl
theorem sbL_nl (τ : List Nat) : ∀ l : List D, D.nlL l = true → sbL τ l = some l
  | [], _ => rfl
  | d :: l, h => by
    rw [D.nlL, Bool.and_eq_true] at h
    rw [sbL, sb_nl τ d h.1, sbL_nl τ l h.2]
end
theorem vw1_nl' (σ : List Nat) (V : Nat → Bool) (M : List Blk) (d : D) (h : d.nl = true) : vw1 σ V M d = some d := by
  cases d with
  | loc => cases h
  | arr => cases h
  | aloc => cases h
  | own => cases h
  | part => cases h
  | hnd => cases h
  | yld => cases h
  | floc => cases h
  | farr => cases h
  | faloc => cases h
  | _ => simp [vw1, h]
theorem vw1L_nl (σ : List Nat) (V : Nat → Bool) (M : List Blk) : ∀ l : List D, D.nlL l = true → vw1L σ V M l = some l
  | [], _ => rfl
  | d :: l, h => by
    rw [D.nlL, Bool.and_eq_true] at h
    rw [vw1L, vw1_nl' σ V M d h.1, vw1L_nl σ V M l h.2]
theorem arxr_fits {σ : List Nat} {V : Nat → Bool} {M : List Blk} {T : TypeId} {sz n n' : Nat} {l l' : List D} (hn : n = n') (h : l = l') (hv : D.nlL l' = true) : (vwL σ V M l).map (Blk.arx T sz n) = some (Blk.arx T sz n' l') := by
  subst hn h
  rw [vwL_nl σ V M l hv]
  rfl
theorem sb_arxr {τ : List Nat} {T : TypeId} {sz n : Nat} {l : List D} (h : D.nlL l = true) : sbB τ (.arx T sz n l) = some (.arx T sz n l) := by
  show (sbL τ l).map _ = _
  rw [sbL_nl τ l h]; rfl
section
variable {P : Program} {pc : Bool} {o : Oper} {F : Fr} {M : List Blk} {T : TypeId} {x y : Operand} {n : Nat} {k : IntKind} {z : Int} {j : Nat}
end
end Go.Proofs.Ytmpodnadoebclaa
namespace Go.Proofs.Ytmpodnadoebclaa
set_option linter.unusedVariables false
set_option linter.unusedSimpArgs false
open Go.RowKit
section
variable {P : Program} {pc : Bool} {o : Oper} {F : Fr} {M : List Blk}
/-- a part of a struct's variable, all of whose cells are plain -/
theorem op_ldmv {T T' : TypeId} {x : Operand} {i p k : Nat} {l : List D} {R : List Value} (ho : o.op = .load T x) (hT : tyB P T = some (true, k)) (hx : Ev pc F x (.loc i p)) (hM : M[i]? = some (.mix T' l)) (hR : (l.drop p).take k = R.map .val) (hl : R.length = k) : DOp P pc o F M [i] (.val (.agg R.toArray)) [] := by
  intro hp a s hok hops hfp
  have hr := ev_at hp hx (by simp [ho, Op.operands]) hops
  generalize hv : a.eval x = vx at hr
  cases hr with
  | @loc _ _ b h =>
    obtain ⟨b', vs, e1, e2, e3, e4⟩ := hok.blk i _ _ (by rw [hfp i (by simp)]; exact hM) h
    cases e1
    have hvs : (vs.drop p).take k = R := by
      have hlen : ((vs.drop p).take k).length = R.length := by
        have h1 := congrArg List.length hR
        rw [List.length_take, List.length_drop, List.length_map] at h1
        rw [List.length_take, List.length_drop, e3, h1]
      refine List.ext_getElem hlen fun j h1 h2 => ?_
      have h3 : ((l.drop p).take k)[j]? = some (.val R[j]) := by rw [hR, List.getElem?_map, List.getElem?_eq_getElem h2]; rfl
      have hjk : j < k := by omega
      rw [List.getElem?_take, if_pos hjk, List.getElem?_drop] at h3
      have h5 : vs[p + j]? = some ((vs.drop p).take k)[j] := by
        have := List.getElem?_eq_getElem h1
        rw [List.getElem?_take, if_pos hjk, List.getElem?_drop] at this
        exact this
      exact (e4 _ _ _ h3 h5).val_eq
    have hc : cellsAt s.w b 0 vs := cellsAt_block e2 0
    have hr := cellsAt_range hc p k hvs
    rw [Nat.zero_add] at hr
    exact dg_val hok (run_load_row ho hT hv hr hl) (.val _)
end
/-- a row of one's own that holds data, looked at -/
theorem vw_arrV {σ : List Nat} {V : Nat → Bool} {M : List Blk} {i : Nat} {T : TypeId} {sz n : Nat} {l : List D} (hp : pos σ i = none) (hV : V i = true) (hM : M[i]? = some (.arx T sz n l)) (h : D.nlL l = true) : vw σ V M (.arr i) = some (.slm sz n l) := by
  rw [vw, hp]
  show vwArr σ V M i = _
  unfold vwArr
  rw [hV, hM]
  show (vw1L σ V M _).map _ = _
  rw [vw1L_nl σ V M l h]; rfl
end Go.Proofs.Ytmpodnadoebclaa
namespace Go.Proofs.Ytmpodnadoebclaa
set_option linter.unusedVariables false
set_option linter.unusedSimpArgs false
open Go.RowKit
def Mem.blk : Mem → Blk
  | .gone => .gone
  | .flat T L => .flat T L
  | .arr T sz n L => .arr T sz n L
  | .que T sz n L => .que T sz n L
theorem mem_blk {s : St} {h : Value} {B : Mem} (hk : BlkOk s h B.blk) : MemOk s.w h B := by cases B <;> exact hk
theorem blk_live (B : Mem) : B.blk.live = B.live := by cases B <;> rfl
theorem blk_owns {B : Mem} {h : Value} {b : Nat} : owns B.blk h b ↔ hb h = some b := by cases B <;> exact Iff.rfl
/-- a block joins a family -/
theorem tr_abs {s : St} (ho : Ok s) {i j : Nat} {Bs : List Mem} {B : Mem} {hs : List Value} {h : Value} (hi : s.M[i]? = some (.fam Bs)) (hj : s.M[j]? = some B.blk) (hl : B.live = true) (hβi : s.β[i]? = some (.tuple hs.toArray)) (hβj : s.β[j]? = some h) :
    Tr s ⟨s.β.set i (.tuple (hs ++ [h]).toArray), s.I, (s.M.set j .gone).set i (.fam (Bs ++ [B])), s.w⟩ := by
  have hne : i ≠ j := fun e => by subst e; rw [hi] at hj; cases B <;> cases hj
  have hil := (List.getElem?_eq_some_iff.1 hi).1
  have hjl := (List.getElem?_eq_some_iff.1 hj).1
  have hf := fam_at (k := 0) ho hi hβi
  have hlen := hf.len
  have hm : MemOk s.w h B := mem_blk (ho.blk j _ h hj hβj)
  have other : ∀ b, owns (.fam (Bs ++ [B])) (.tuple (hs ++ [h]).toArray) b → owns (.fam Bs) (.tuple hs.toArray) b ∨ hb h = some b := by
    rintro b ⟨hs', k, B', u, e1, e2, e3, e4, e5⟩
    have e1 : hs ++ [h] = hs' := by simpa using e1
    subst e1
    by_cases hk : k < Bs.length
    · rw [List.getElem?_append_left hk] at e2
      rw [List.getElem?_append_left (by omega)] at e4
      exact .inl ⟨hs, k, B', u, rfl, e2, e3, e4, e5⟩
    · rw [List.getElem?_append_right (by omega)] at e2 e4
      have hk0 : k - hs.length = 0 := by have := (List.getElem?_eq_some_iff.1 e4).1; simp at this; omega
      rw [hk0] at e4
      simp at e4
      subst e4
      exact .inr e5
  have lvi : ∀ b, owns (.fam Bs) (.tuple hs.toArray) b → Live s b := fun b hb => live_of hi rfl hβi hb
  have lvj : ∀ b, hb h = some b → Live s b := fun b hb => live_of hj (by rw [blk_live]; exact hl) hβj (blk_owns.2 hb)
  have ne : ∀ (k : Nat) kb, (s.M.set j .gone)[k]? = some kb → kb.live = true → j ≠ k ∧ s.M[k]? = some kb := fun k kb hkb hlv => by
    by_cases hk : j = k
    · subst hk
      rw [List.getElem?_set_self hjl] at hkb
      cases hkb; cases hlv
    · rw [List.getElem?_set_ne hk] at hkb; exact ⟨hk, hkb⟩
  refine step_set ho i (s.M.set j .gone) _ _ s.w (by simp) (fun k kb hkb => ?_) hil (.inr (.inr ⟨hs, hs ++ [h], hβi, rfl, fun k u hu => ?_⟩)) (by simp) ⟨_, rfl, ?_⟩ (fun b hb k kb hh hne' q1 q2 q3 q4 => ?_) (fun b hb => .inr ((other b hb).elim (lvi b) (lvj b))) (fun b hb => (ho.lt b ((other b hb).elim (lvi b) (lvj b))).1) (fun _ => False) (fun _ h => h.elim) (fun _ _ _ _ => rfl) rfl rfl rfl (Nat.le_refl _)
  · by_cases hk : j = k
    · subst hk
      rw [List.getElem?_set_self hjl] at hkb
      exact .inr (Option.some.inj hkb).symm
    · rw [List.getElem?_set_ne hk] at hkb; exact .inl hkb
  · rw [List.getElem?_append_left (List.getElem?_eq_some_iff.1 hu).1]; exact hu
  · have split : ∀ (k : Nat) B' u, (Bs ++ [B])[k]? = some B' → (hs ++ [h])[k]? = some u → (Bs[k]? = some B' ∧ hs[k]? = some u) ∨ (k = Bs.length ∧ B' = B ∧ u = h) := by
      intro k B' u e2 e4
      by_cases hk : k < Bs.length
      · rw [List.getElem?_append_left hk] at e2
        rw [List.getElem?_append_left (by omega)] at e4
        exact .inl ⟨e2, e4⟩
      · rw [List.getElem?_append_right (by omega)] at e2 e4
        have hk0 : k - Bs.length = 0 := by have := (List.getElem?_eq_some_iff.1 e2).1; simp at this; omega
        rw [show k - hs.length = 0 by omega] at e4
        rw [hk0] at e2
        simp at e2 e4
        exact .inr ⟨by omega, e2.symm, e4.symm⟩
    refine ⟨by simp [hlen], fun k B' u e2 e4 => ?_, fun k k' B1 B2 u1 u2 b e1 l1 e2 e3 f1 l2 f2 f3 => ?_⟩
    · rcases split k B' u e2 e4 with ⟨a, c⟩ | ⟨_, rfl, rfl⟩
      · exact hf.ok k B' u a c
      · exact hm
    · rcases split k B1 u1 e1 e2 with ⟨a, c⟩ | ⟨rfl, rfl, rfl⟩ <;> rcases split k' B2 u2 f1 f2 with ⟨a', c'⟩ | ⟨rfl, rfl, rfl⟩
      · exact hf.inj k k' B1 B2 u1 u2 b a l1 c e3 a' l2 c' f3
      · exact absurd (ho.inj i j _ _ _ _ b hi rfl hβi ⟨hs, k, B1, u1, rfl, a, l1, c, e3⟩ hj (by rw [blk_live]; exact hl) hβj (blk_owns.2 f3)) hne
      · exact absurd (ho.inj i j _ _ _ _ b hi rfl hβi ⟨hs, k', B2, u2, rfl, a', l2, c', f3⟩ hj (by rw [blk_live]; exact hl) hβj (blk_owns.2 e3)) hne
      · rfl
  · obtain ⟨hjk, q1⟩ := ne k kb q1 q2
    rcases other b hb with h1 | h1
    · exact hne' (ho.inj i k _ kb _ hh b hi rfl hβi h1 q1 q2 q3 q4).symm
    · exact hjk (ho.inj j k _ kb _ hh b hj (by rw [blk_live]; exact hl) hβj (blk_owns.2 h1) q1 q2 q3 q4)
/-- an empty family -/
theorem tr_fam {s : St} (ho : Ok s) {j : Nat} (hj : s.M[j]? = some .hole) : Tr s ⟨s.β.set j (.tuple #[]), s.I, s.M.set j (.fam []), s.w⟩ := by
  have hjl : j < s.M.length := (List.getElem?_eq_some_iff.1 hj).1
  have hβ : s.β[j]? = some .nilFunc := by
    have hjb : j < s.β.length := by rw [ho.len]; exact hjl
    have e : s.β[j]? = some s.β[j] := List.getElem?_eq_getElem hjb
    have : s.β[j] = .nilFunc := ho.blk j .hole _ hj e
    rw [e, this]
  have no : ∀ b, ¬ owns (.fam []) (.tuple #[]) b := by
    rintro b ⟨hs, k, B, u, e1, e2, _⟩
    simp at e2
  exact step_set ho j s.M (.tuple #[]) (.fam []) s.w rfl (fun i k h => .inl h) hjl (.inl hβ) (by simp) ⟨[], rfl, rfl, fun k B u h => by simp at h, fun k k' B B' u u' b h => by simp at h⟩ (fun b hb => (no b hb).elim) (fun b hb => (no b hb).elim) (fun b hb => (no b hb).elim) (fun _ => False) (fun _ h => h.elim) (fun _ _ _ _ => rfl) rfl rfl rfl (Nat.le_refl _)
section
variable {P : Program} {s0 : St} {n : Cx}
theorem inv_fam {F : Fr} {M : List Blk} {a : Act} {w : World} {j : Nat} (h : Inv s0 n F M a w) (hj : M[j]? = some .hole) : Inv s0 n F (M.set j (.fam [])) a w := by
  obtain ⟨h0, s, rfl, rfl, h3, h4, h5, h6⟩ := h
  have tt := tr_fam h3.ok hj
  exact ⟨h0, ⟨s.β.set j (.tuple #[]), s.I, s.M.set j (.fam []), s.w⟩, rfl, rfl, h3.trans tt, fun x d hd => (h4 x d hd).mono h3.ok tt, h5, h6.mono h3.ok tt⟩
/-- an empty family is laid -/
theorem dwp_fam {c : Code} {F : Fr} {M M' : List Blk} {K : Cont} (j : Nat) (hj : M[j]? = some .hole) (hM' : M.set j (.fam []) = M') (h : dwp P s0 n c F M' K) : dwp P s0 n c F M K := by
  subst hM'
  exact fun a w hi => h a w (inv_fam hi hj)
end
end Go.Proofs.Ytmpodnadoebclaa
