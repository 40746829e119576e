/- Operations: numbers, bools, structs, memory that is read and written. Conditions: what a type is, by the kernel; Operations that make memory, and write it. Conditions: what a type is, by the kernel; Operations on slices: made, cut, grown; tuples; function values; structs. Conditions: what a type is, by the kernel; Ends of calls; structs built; bools and strings compared; least and greatest; slices taken over, and given up. Conditions: what a type is, by the kernel; Functions that are deferred: a body up to there; closures that recover; results in cells; Scopes; slices beside nil; rows of one's own, element by element. Conditions: what a type is, by the kernel; Structs and arrays compared, cell by cell. Conditions: what a type is, by the kernel; Codes within a function; a loop's rounds one by one; strings; Strings: put together, cut, indexed, ranged over; numbers by their bits; From a con. No condition. -/
import Derived.Test.YtaekkjhpdendoaaDoorQ1
import Derived.Deep.MidRow
import Derived.Laws.MakeOwn
import Derived.IntWalk
import Derived.Laws.OwnMore
import Derived.OwnWalk
import Derived.Recover
import Derived.RangeFuncIn
import Derived.Laws.StructEq
import Derived.LaidMore
import Derived.Handed
import Derived.LaidHandle
import Derived.Stop.Joined
import Derived.Lib.LaidTab
import Derived.Test.YtaekkjhpdendoaaDoorProg
import Derived.Laws.IdiomCopy
import Derived.Laws.Pointers
import Derived.Laws.LoneSync
import Derived.OpenShut
import Derived.Laws.BytesArg
import Derived.Laws.Strings
namespace Go.Proofs.YtaekkjhpdendoaaDoor
set_option linter.unusedVariables false
set_option linter.unusedSimpArgs false
open Go.RowKit

/-! ### what a type is -/
/-- a struct or an array? how many cells? -/
def tyB (P : Program) (T : TypeId) : Option (Bool × Nat) := match P.underlying T, P.info? T with
  | some d, some i => some (d.isRow, i.size)
  | _, _ => none
/-- a slice's element: its type, cells, bytes -/
def slE (P : Program) (T : TypeId) : Option (TypeId × Nat × Nat) := match P.underlying T with
  | some (.slice e) => (P.info? e).map fun i => (e, i.size, i.bytes)
  | _ => none
/-- an array's length, and its element's cells -/
def arE (P : Program) (T : TypeId) : Option (Nat × Nat) := match P.underlying T with
  | some (.array n e) => (P.info? e).map fun i => (n, i.size)
  | _ => none
/-- where a field that has cells stands -/
def fdO (P : Program) (T : TypeId) (f : Nat) : Option Nat := match P.underlying T with
  | some (.struct fs) => (fs[f]?).bind fun d => (P.info? d.type).bind fun i => if i.size = 0 then none else some d.offset
  | _ => none
def zrC (P : Program) (T : TypeId) : Option (List Value) := (P.info? T).bind fun i => i.zero.map fun z => z.cells.toList
def knd (P : Program) (T : TypeId) : Option IntKind := match P.underlying T with
  | some (.int k) => some k
  | _ => none
theorem tyB_spec {P : Program} {T : TypeId} {b : Bool} {k : Nat} (h : tyB P T = some (b, k)) : ∃ d i, P.underlying T = some d ∧ P.info? T = some i ∧ d.isRow = b ∧ i.size = k := by
  unfold tyB at h
  split at h
  · rename_i d i h1 h2
    simp only [Option.some.injEq, Prod.mk.injEq] at h
    exact ⟨d, i, h1, h2, h.1, h.2⟩
  · cases h
theorem slE_spec {P : Program} {T e : TypeId} {sz by' : Nat} (h : slE P T = some (e, sz, by')) : P.underlying T = some (.slice e) ∧ ∃ i, P.info? e = some i ∧ i.size = sz ∧ i.bytes = by' := by
  unfold slE at h
  split at h
  · rename_i e' h1
    simp only [Option.map_eq_some_iff, Prod.mk.injEq] at h
    obtain ⟨i, h2, rfl, h3, h4⟩ := h
    exact ⟨h1, i, h2, h3, h4⟩
  · cases h
theorem arE_spec {P : Program} {T : TypeId} {n sz : Nat} (h : arE P T = some (n, sz)) : ∃ e i, P.underlying T = some (.array n e) ∧ P.info? e = some i ∧ i.size = sz := by
  unfold arE at h
  split at h
  · rename_i m e' h1
    simp only [Option.map_eq_some_iff, Prod.mk.injEq] at h
    obtain ⟨i, h2, rfl, h3⟩ := h
    exact ⟨e', i, h1, h2, h3⟩
  · cases h
section
variable {P : Program} {pc : Bool} {o : Oper} {F : Fr} {M : List Blk}
theorem run_v {s : Sem Value} {w w' : World} {v : Value} (h : s.run P w = .ok v w') : (do pure (Next.value (← s)) : Sem Next).run P w = .ok (.value v) w' := by
  simp only [Sem.run_bind, h, Result.andThen_ok, Sem.run_pure]
theorem run_u {s : Sem Unit} {w w' : World} (h : s.run P w = .ok () w') : (do s; pure Next.skip : Sem Next).run P w = .ok .skip w' := by
  simp only [Sem.run_bind, h, Result.andThen_ok, Sem.run_pure]
/-- an operand's value, where an operation stands -/
theorem ev_at {x : Operand} {d : D} {a : Act} {s : St} (hp : pc = true) (hx : Ev pc F x d) (hm : x ∈ o.op.operands) (hops : ∀ x ∈ o.op.operands, ∀ d, ev F x = some d → Rep s d (a.eval x)) : Rep s d (a.eval x) := by
  obtain ⟨d', e1, e2⟩ := hx
  exact e2 s _ hp (hops x hm d' e1)
theorem dg_val {a : Act} {s : St} {d : D} {v : Value} (ho : Ok s) (h : (execOp a.eval o).run P s.w = .ok (.value v) s.w) (hr : Rep s d v) : DGives P s (fun s' v => s'.M = upd s.M [] ∧ Rep s' d v) ((execOp a.eval o).run P s.w) := by
  rw [h]; exact ⟨s, rfl, Tr.refl ho, rfl, hr⟩
/-- it takes a value over -/
theorem op_move {x : Operand} {d : D} (ho : o.op = .move x ∨ o.op = .assign x) (hx : Ev pc F x d) : DOp P pc o F M [] d [] := by
  intro hp a s hok hops _
  have hm : x ∈ o.op.operands := by rcases ho with h | h <;> simp [h, Op.operands]
  refine dg_val hok ?_ (ev_at hp hx hm hops)
  unfold execOp
  rcases ho with h | h <;> simp only [h] <;> rfl
theorem op_and {c x : Operand} {y p : Bool} (ho : o.op = .pick c x (.const (.bool false))) (hc : Ev pc F c (.val (.bool y))) (hx : Ev (pc && y) F x (.val (.bool p))) : DOp P pc o F M [] (.val (.bool (y && p))) [] := by
  intro hp a s hok hops _
  have h1 := (ev_at hp hc (by simp [ho, Op.operands]) hops).val_eq
  refine dg_val (v := .bool (y && p)) hok ?_ (.val _)
  cases y with
  | false => unfold execOp; simp only [ho, h1, asBool]; rfl
  | true =>
    have h2 := (ev_at (by simp [hp]) hx (by simp [ho, Op.operands]) hops).val_eq
    unfold execOp
    simp only [ho, h1, h2, asBool]
    rfl
theorem op_or {c x : Operand} {y p : Bool} (ho : o.op = .pick c (.const (.bool true)) x) (hc : Ev pc F c (.val (.bool y))) (hx : Ev (pc && !y) F x (.val (.bool p))) : DOp P pc o F M [] (.val (.bool (y || p))) [] := by
  intro hp a s hok hops _
  have h1 := (ev_at hp hc (by simp [ho, Op.operands]) hops).val_eq
  refine dg_val (v := .bool (y || p)) hok ?_ (.val _)
  cases y with
  | true => unfold execOp; simp only [ho, h1, asBool]; rfl
  | false =>
    have h2 := (ev_at (by simp [hp]) hx (by simp [ho, Op.operands]) hops).val_eq
    unfold execOp
    simp only [ho, h1, h2, asBool]
    rfl

/-! ### numbers -/
theorem int_bin {op : BinOp} {T T' : TypeId} {x y : Operand} {k : IntKind} {p q : Int} {r : Value} (ho : o.op = .binOp op T x y T') (hx : Ev pc F x (.val (.int k p))) (hy : Ev pc F y (.val (.int k q)))
    (hr : ∀ w, (eqGuard op T x y (.int k p) (.int k q)).run P w = .ok () w ∧ (binOp op T (.int k p) (.int k q)).run P w = .ok r w) : DOp P pc o F M [] (.val r) [] := by
  intro hp a s hok hops _
  have h1 := (ev_at hp hx (by simp [ho, Op.operands]) hops).val_eq
  have h2 := (ev_at hp hy (by simp [ho, Op.operands]) hops).val_eq
  refine dg_val (v := r) hok ?_ (.val _)
  unfold execOp
  simp only [ho, h1, h2]
  refine run_v ?_
  rw [Sem.run_bind, (hr s.w).1, Result.andThen_ok]
  exact (hr s.w).2
theorem guard_int (op : BinOp) (T : TypeId) (x y : Operand) (k : IntKind) (p q : Int) (w : World) : (eqGuard op T x y (.int k p) (.int k q)).run P w = .ok () w := by
  unfold eqGuard; cases op <;> rfl
section
variable {T T' : TypeId} {x y : Operand} {k : IntKind} {p q : Int}
theorem op_add (ho : o.op = .binOp .add T x y T') (hx : Ev pc F x (.val (.int k p))) (hy : Ev pc F y (.val (.int k q))) : DOp P pc o F M [] (.val (.int k (k.wrap (p + q)))) [] := int_bin ho hx hy fun w => ⟨guard_int .., by simp [binOp, Op.intArith]⟩
theorem op_sub (ho : o.op = .binOp .sub T x y T') (hx : Ev pc F x (.val (.int k p))) (hy : Ev pc F y (.val (.int k q))) : DOp P pc o F M [] (.val (.int k (k.wrap (p - q)))) [] := int_bin ho hx hy fun w => ⟨guard_int .., by simp [binOp, Op.intArith]⟩
theorem op_mul (ho : o.op = .binOp .mul T x y T') (hx : Ev pc F x (.val (.int k p))) (hy : Ev pc F y (.val (.int k q))) : DOp P pc o F M [] (.val (.int k (k.wrap (p * q)))) [] := int_bin ho hx hy fun w => ⟨guard_int .., by simp [binOp, Op.intArith]⟩
/-- .. with no wrap -/
theorem op_add' (ho : o.op = .binOp .add T x y T') (hx : Ev pc F x (.val (.int k p))) (hy : Ev pc F y (.val (.int k q))) (h : pc = true → k.wrap (p + q) = p + q) : DOp P pc o F M [] (.val (.int k (p + q))) [] := fun hp => by
  have := op_add (P := P) (M := M) ho hx hy hp; rwa [h hp] at this
theorem op_sub' (ho : o.op = .binOp .sub T x y T') (hx : Ev pc F x (.val (.int k p))) (hy : Ev pc F y (.val (.int k q))) (h : pc = true → k.wrap (p - q) = p - q) : DOp P pc o F M [] (.val (.int k (p - q))) [] := fun hp => by
  have := op_sub (P := P) (M := M) ho hx hy hp; rwa [h hp] at this
theorem op_mul' (ho : o.op = .binOp .mul T x y T') (hx : Ev pc F x (.val (.int k p))) (hy : Ev pc F y (.val (.int k q))) (h : pc = true → k.wrap (p * q) = p * q) : DOp P pc o F M [] (.val (.int k (p * q))) [] := fun hp => by
  have := op_mul (P := P) (M := M) ho hx hy hp; rwa [h hp] at this
theorem op_lss (ho : o.op = .binOp .lss T x y T') (hx : Ev pc F x (.val (.int k p))) (hy : Ev pc F y (.val (.int k q))) : DOp P pc o F M [] (.val (.bool (decide (p < q)))) [] := int_bin ho hx hy fun w => ⟨guard_int .., by simp [binOp, Op.intCmp]⟩
theorem op_leq (ho : o.op = .binOp .leq T x y T') (hx : Ev pc F x (.val (.int k p))) (hy : Ev pc F y (.val (.int k q))) : DOp P pc o F M [] (.val (.bool (decide (p ≤ q)))) [] := int_bin ho hx hy fun w => ⟨guard_int .., by simp [binOp, Op.intCmp]⟩
theorem op_gtr (ho : o.op = .binOp .gtr T x y T') (hx : Ev pc F x (.val (.int k p))) (hy : Ev pc F y (.val (.int k q))) : DOp P pc o F M [] (.val (.bool (decide (q < p)))) [] := int_bin ho hx hy fun w => ⟨guard_int .., by simp [binOp, Op.intCmp]⟩
theorem op_geq (ho : o.op = .binOp .geq T x y T') (hx : Ev pc F x (.val (.int k p))) (hy : Ev pc F y (.val (.int k q))) : DOp P pc o F M [] (.val (.bool (decide (q ≤ p)))) [] := int_bin ho hx hy fun w => ⟨guard_int .., by simp [binOp, Op.intCmp]⟩
theorem op_eql (ho : o.op = .binOp .eql T x y T') (hx : Ev pc F x (.val (.int k p))) (hy : Ev pc F y (.val (.int k q))) : DOp P pc o F M [] (.val (.bool (p == q))) [] := int_bin ho hx hy fun w => ⟨guard_int .., by simp [binOp, Op.intCmp]⟩
theorem op_neq (ho : o.op = .binOp .neq T x y T') (hx : Ev pc F x (.val (.int k p))) (hy : Ev pc F y (.val (.int k q))) : DOp P pc o F M [] (.val (.bool (p != q))) [] := int_bin ho hx hy fun w => ⟨guard_int .., by simp [binOp, Op.intCmp]⟩
theorem op_quo (ho : o.op = .binOp .quo T x y T') (hx : Ev pc F x (.val (.int k p))) (hy : Ev pc F y (.val (.int k q))) (h0 : pc = true → q ≠ 0) : DOp P pc o F M [] (.val (.int k (k.wrap (p.tdiv q)))) [] :=
  fun hp => int_bin ho hx hy (fun w => ⟨guard_int .., by have := h0 hp; simp [binOp, Op.intDiv, this]⟩) hp
theorem op_rem (ho : o.op = .binOp .rem T x y T') (hx : Ev pc F x (.val (.int k p))) (hy : Ev pc F y (.val (.int k q))) (h0 : pc = true → q ≠ 0) : DOp P pc o F M [] (.val (.int k (p.tmod q))) [] :=
  fun hp => int_bin ho hx hy (fun w => ⟨guard_int .., by have := h0 hp; simp [binOp, Op.intDiv, this]⟩) hp
theorem op_quo' (ho : o.op = .binOp .quo T x y T') (hx : Ev pc F x (.val (.int k p))) (hy : Ev pc F y (.val (.int k q))) (h0 : pc = true → 0 < q ∧ 0 ≤ p ∧ k.wrap (p / q) = p / q) : DOp P pc o F M [] (.val (.int k (p / q))) [] := fun hp => by
  obtain ⟨h1, h2, h3⟩ := h0 hp
  have := op_quo (P := P) (M := M) ho hx hy (fun _ => by omega) hp
  rwa [Int.tdiv_eq_ediv_of_nonneg h2, h3] at this
theorem op_rem' (ho : o.op = .binOp .rem T x y T') (hx : Ev pc F x (.val (.int k p))) (hy : Ev pc F y (.val (.int k q))) (h0 : pc = true → q ≠ 0 ∧ 0 ≤ p) : DOp P pc o F M [] (.val (.int k (p % q))) [] := fun hp => by
  obtain ⟨h1, h2⟩ := h0 hp
  have := op_rem (P := P) (M := M) ho hx hy (fun _ => h1) hp
  rwa [Int.tmod_eq_emod_of_nonneg h2] at this
end
theorem op_neg {T : TypeId} {x : Operand} {k : IntKind} {p : Int} (ho : o.op = .unOp .neg T x) (hx : Ev pc F x (.val (.int k p))) : DOp P pc o F M [] (.val (.int k (k.wrap (0 - p)))) [] := by
  intro hp a s hok hops _
  have h1 := (ev_at hp hx (by simp [ho, Op.operands]) hops).val_eq
  refine dg_val (v := .int k (k.wrap (0 - p))) hok ?_ (.val _)
  unfold execOp
  simp only [ho, h1]
  exact run_v (by simp [Op.unary, Op.intArith])
theorem op_not {T : TypeId} {x : Operand} {b : Bool} (ho : o.op = .unOp .not T x) (hx : Ev pc F x (.val (.bool b))) : DOp P pc o F M [] (.val (.bool (!b))) [] := by
  intro hp a s hok hops _
  have h1 := (ev_at hp hx (by simp [ho, Op.operands]) hops).val_eq
  refine dg_val (v := .bool (!b)) hok ?_ (.val _)
  unfold execOp
  simp only [ho, h1]
  exact run_v (by simp [Op.unary])
theorem op_conv {S T : TypeId} {x : Operand} {k k' : IntKind} {p : Int} (hS : (tyB P S).isSome = true) (hT : knd P T = some k) (ho : o.op = .convert S T x) (hx : Ev pc F x (.val (.int k' p))) : DOp P pc o F M [] (.val (.int k (k.wrap p))) [] := by
  intro hp a s hok hops _
  have h1 := (ev_at hp hx (by simp [ho, Op.operands]) hops).val_eq
  refine dg_val (v := .int k (k.wrap p)) hok ?_ (.val _)
  obtain ⟨⟨b, m⟩, hS⟩ := Option.isSome_iff_exists.1 hS
  obtain ⟨d, i, e1, e2, _, _⟩ := tyB_spec hS
  have e3 : P.underlying T = some (.int k) := by
    unfold knd at hT
    split at hT
    · rename_i k' h; rw [h, Option.some.inj hT]
    · cases hT
  unfold execOp
  simp only [ho, h1]
  exact run_v (by simp [convert, run_underlying e1, run_underlying e3, Conv.intToInt])
theorem op_conv' {S T : TypeId} {x : Operand} {k k' : IntKind} {p : Int} (hS : (tyB P S).isSome = true) (hT : knd P T = some k) (ho : o.op = .convert S T x) (hx : Ev pc F x (.val (.int k' p))) (h : pc = true → k.wrap p = p) : DOp P pc o F M [] (.val (.int k p)) [] := fun hp => by
  have := op_conv (P := P) (M := M) hS hT ho hx hp; rwa [h hp] at this
/-- an operation on plain values, by its run -/
theorem op_val1 {x : Operand} {v r : Value} (hx : Ev pc F x (.val v)) (hm : x ∈ o.op.operands) (h : pc = true → ∀ (a : Act) (w : World), a.eval x = v → (execOp a.eval o).run P w = .ok (.value r) w) : DOp P pc o F M [] (.val r) [] := by
  intro hp a s hok hops _
  have h1 := (ev_at hp hx hm hops).val_eq
  exact dg_val (v := r) hok (h hp a s.w h1) (.val _)
theorem op_val2 {x y : Operand} {v u r : Value} (hx : Ev pc F x (.val v)) (hy : Ev pc F y (.val u)) (hm : x ∈ o.op.operands ∧ y ∈ o.op.operands) (h : pc = true → ∀ (a : Act) (w : World), a.eval x = v → a.eval y = u → (execOp a.eval o).run P w = .ok (.value r) w) : DOp P pc o F M [] (.val r) [] := by
  intro hp a s hok hops _
  have h1 := (ev_at hp hx hm.1 hops).val_eq
  have h2 := (ev_at hp hy hm.2 hops).val_eq
  exact dg_val (v := r) hok (h hp a s.w h1 h2) (.val _)
/-- two values of one type compared, by a law on their equality -/
theorem op_eqv {T T' : TypeId} {x y : Operand} {v u : Value} {b : Bool} (ho : o.op = .binOp .eql T x y T') (hx : Ev pc F x (.val v)) (hy : Ev pc F y (.val u)) (hg : ∀ w, (eqGuard .eql T x y v u).run P w = .ok () w) (h : ∀ w, (binOp .eql T v u).run P w = .ok (.bool b) w) : DOp P pc o F M [] (.val (.bool b)) [] :=
  op_val2 hx hy (by simp [ho, Op.operands]) fun _ a w e1 e2 => by
    unfold execOp
    simp only [ho, e1, e2]
    exact run_v (by rw [Sem.run_bind, hg, Result.andThen_ok, h])
theorem op_nev {T T' : TypeId} {x y : Operand} {v u : Value} {b : Bool} (ho : o.op = .binOp .neq T x y T') (hx : Ev pc F x (.val v)) (hy : Ev pc F y (.val u)) (hg : ∀ w, (eqGuard .neq T x y v u).run P w = .ok () w) (h : ∀ w, (binOp .neq T v u).run P w = .ok (.bool b) w) : DOp P pc o F M [] (.val (.bool b)) [] :=
  op_val2 hx hy (by simp [ho, Op.operands]) fun _ a w e1 e2 => by
    unfold execOp
    simp only [ho, e1, e2]
    exact run_v (by rw [Sem.run_bind, hg, Result.andThen_ok, h])

/-! ### memory that is read -/
theorem cellsAt_range {w : World} {b p : Nat} {L R : List Value} (h : cellsAt w b p L) (o k : Nat) (hR : (L.drop o).take k = R) : w.rangeAt b (p + o) R := by
  subst hR
  intro j v hj
  exact cellsAt_sub h o k j v hj
theorem run_load_row {T : TypeId} {x : Operand} {a : Act} {w : World} {b p k : Nat} {R : List Value} (ho : o.op = .load T x) (hT : tyB P T = some (true, k)) (hx : a.eval x = .pointer (some ⟨b, p, none⟩)) (hR : w.rangeAt b p R) (hl : R.length = k) :
    (execOp a.eval o).run P w = .ok (.value (.agg R.toArray)) w := by
  obtain ⟨d, i, e1, e2, e3, e4⟩ := tyB_spec hT
  unfold execOp
  simp only [ho, hx]
  exact run_v (run_loadAt_mid w b p T R d hR e1 e3 (by rw [e2]; simp [e4, hl]))
theorem run_load_one {T : TypeId} {x : Operand} {a : Act} {w : World} {b p k : Nat} {v : Value} (ho : o.op = .load T x) (hT : tyB P T = some (false, k)) (hx : a.eval x = .pointer (some ⟨b, p, none⟩)) (hv : w.cell? ⟨b, p, none⟩ = some v) :
    (execOp a.eval o).run P w = .ok (.value v) w := by
  obtain ⟨d, i, e1, e2, e3, e4⟩ := tyB_spec hT
  unfold execOp
  simp only [ho, hx]
  have hagg : (isAgg T).run P w = .ok false w := by
    unfold isAgg
    rw [Sem.run_bind, run_underlying e1 w]
    cases d <;> simp_all
  exact run_v (by simp [Instr.loadAt, Instr.sureAddr, loadVar, Sem.run_bind, hagg, load, Sem.run, hv])
section
variable {T : TypeId} {x : Operand} {i p k : Nat} {L R : List Value} {v : Value}
theorem flat_cells {s : St} (hok : Ok s) {T' : TypeId} {h : Value} {b : Nat} (h1 : s.M[i]? = some (.flat T' L)) (h2 : s.β[i]? = some h) (h3 : h = .pointer (some ⟨b, 0, none⟩)) : s.w.heap[b]? = some (.cells L.toArray T' (0, 0)) := by
  obtain ⟨b', e1, e2⟩ := hok.blk i _ h h1 h2
  rw [h3] at e1
  cases e1
  exact e2
theorem op_ldr {T' : TypeId} (ho : o.op = .load T x) (hT : tyB P T = some (true, k)) (hx : Ev pc F x (.loc i p)) (hM : M[i]? = some (.flat T' L)) (hR : (L.drop p).take k = R) (hl : R.length = k) : DOp P pc o F M [i] (.val (.agg R.toArray)) [] := by
  intro hp a s hok hops hfp
  have hr := ev_at hp hx (by simp [ho, Op.operands]) hops
  generalize hv : a.eval x = vx at hr
  cases hr with
  | @loc _ _ b h =>
    have hc := flat_cells hok (by rw [hfp i (by simp)]; exact hM) h rfl
    have := cellsAt_range (by simpa using cellsAt_block hc 0) p k hR
    rw [Nat.zero_add] at this
    exact dg_val hok (run_load_row ho hT hv this hl) (.val _)
theorem op_ldw {T' : TypeId} (ho : o.op = .load T x) (hT : tyB P T = some (true, k)) (hx : Ev pc F x (.loc i 0)) (hM : M[i]? = some (.flat T' L)) (hl : L.length = k) : DOp P pc o F M [i] (.val (.agg L.toArray)) [] :=
  op_ldr ho hT hx hM (by subst hl; simp) hl
theorem op_ldo {T' : TypeId} (ho : o.op = .load T x) (hT : tyB P T = some (false, k)) (hx : Ev pc F x (.loc i p)) (hM : M[i]? = some (.flat T' L)) (hR : L[p]? = some v) : DOp P pc o F M [i] (.val v) [] := by
  intro hp a s hok hops hfp
  have hr := ev_at hp hx (by simp [ho, Op.operands]) hops
  generalize hv : a.eval x = vx at hr
  cases hr with
  | @loc _ _ b h =>
    have hc := flat_cells hok (by rw [hfp i (by simp)]; exact hM) h rfl
    have h2 := cellsAt_block hc 0 p v (by simpa using hR)
    exact dg_val hok (run_load_one ho hT hv (by simpa using h2)) (.val _)
theorem op_ldrd (ho : o.op = .load T x) (hT : tyB P T = some (true, k)) (hx : Ev pc F x (.dpf L)) (hR : L.take k = R) (hl : R.length = k) : DOp P pc o F M [] (.val (.agg R.toArray)) [] := by
  intro hp a s hok hops hfp
  have hr := ev_at hp hx (by simp [ho, Op.operands]) hops
  generalize hv : a.eval x = vx at hr
  cases hr with
  | @dpf b q _ hI h =>
    have := cellsAt_range h 0 k (by simpa using hR)
    exact dg_val hok (run_load_row ho hT hv (by simpa using this) hl) (.val _)
theorem op_ldwd (ho : o.op = .load T x) (hT : tyB P T = some (true, k)) (hx : Ev pc F x (.dpf L)) (hl : L.length = k) : DOp P pc o F M [] (.val (.agg L.toArray)) [] := op_ldrd ho hT hx (by subst hl; simp) hl
theorem op_ldod (ho : o.op = .load T x) (hT : tyB P T = some (false, k)) (hx : Ev pc F x (.dpf L)) (hR : L[0]? = some v) : DOp P pc o F M [] (.val v) [] := by
  intro hp a s hok hops hfp
  have hr := ev_at hp hx (by simp [ho, Op.operands]) hops
  generalize hv : a.eval x = vx at hr
  cases hr with
  | @dpf b q _ hI h => exact dg_val hok (run_load_one ho hT hv (by simpa using h 0 v hR)) (.val _)
theorem arr_cells {s : St} (hok : Ok s) {T' : TypeId} {sz n n' c b : Nat} (h1 : s.M[i]? = some (.arr T' sz n L)) (h2 : s.β[i]? = some (.slice (some ⟨b, 0, none⟩) n' c)) : n' = n ∧ L.length = n * sz ∧ n ≤ c ∧ c ≤ maxLen ∧ cellsAt s.w b 0 L ∧ ∃ cur, s.w.heap[b]? = some (.cells cur T' (0, 0)) ∧ L.length ≤ cur.size ∧ cur.toList.take L.length = L := by
  have hk : s.w.ownsRow 0 T' sz _ n L := hok.blk i _ _ h1 h2
  rcases hk.2 with ⟨e1, e2⟩ | ⟨g, cap, cur, e1, e2, e3, e4, e5, e6, e7⟩
  · cases e1
  · cases e1
    have hc0 := cellsAt_sub (cellsAt_block e3 0) 0 (n * sz)
    have hle := Nat.mul_le_mul_right sz e4
    exact ⟨rfl, hk.1, e4, e5, by simpa [e7] using hc0, cur, e3, by rw [hk.1, e6]; exact hle, by rw [hk.1]; exact e7⟩
theorem op_ldra {T' : TypeId} {sz n : Nat} (ho : o.op = .load T x) (hT : tyB P T = some (true, k)) (hx : Ev pc F x (.aloc i p)) (hM : M[i]? = some (.arr T' sz n L)) (hR : (L.drop p).take k = R) (hl : R.length = k) : DOp P pc o F M [i] (.val (.agg R.toArray)) [] := by
  intro hp a s hok hops hfp
  have hr := ev_at hp hx (by simp [ho, Op.operands]) hops
  generalize hv : a.eval x = vx at hr
  cases hr with
  | @aloc _ _ n' c b h =>
    obtain ⟨_, _, _, _, hc, _⟩ := arr_cells hok (by rw [hfp i (by simp)]; exact hM) h
    have := cellsAt_range hc p k hR
    rw [Nat.zero_add] at this
    exact dg_val hok (run_load_row ho hT hv this hl) (.val _)
theorem op_ldoa {T' : TypeId} {sz n : Nat} (ho : o.op = .load T x) (hT : tyB P T = some (false, k)) (hx : Ev pc F x (.aloc i p)) (hM : M[i]? = some (.arr T' sz n L)) (hR : L[p]? = some v) : DOp P pc o F M [i] (.val v) [] := by
  intro hp a s hok hops hfp
  have hr := ev_at hp hx (by simp [ho, Op.operands]) hops
  generalize hv : a.eval x = vx at hr
  cases hr with
  | @aloc _ _ n' c b h =>
    obtain ⟨_, _, _, _, hc, _⟩ := arr_cells hok (by rw [hfp i (by simp)]; exact hM) h
    exact dg_val hok (run_load_one ho hT hv (by simpa using hc p v hR)) (.val _)

/-! ### addresses -/
theorem run_fieldAddr {T : TypeId} {f q : Nat} {a : Act} {w : World} {b p : Nat} (ho : o.op = .fieldAddr T x f) (hT : fdO P T f = some q) (hx : a.eval x = .pointer (some ⟨b, p, none⟩)) : (execOp a.eval o).run P w = .ok (.value (.pointer (some ⟨b, p + q, none⟩))) w := by
  unfold fdO at hT
  split at hT
  · rename_i fs hu
    simp only [Option.bind_eq_some_iff] at hT
    obtain ⟨d, hd, i, hi, hq⟩ := hT
    by_cases hz : i.size = 0
    · rw [if_pos hz] at hq; cases hq
    · rw [if_neg hz] at hq
      obtain rfl := Option.some.inj hq
      unfold execOp
      simp only [ho, hx]
      refine run_v ?_
      unfold Instr.fieldAt
      simp [run_underlying hu, hd, Instr.sureAddr, fieldPlace, sizeOf, typeInfo, hi, hz, Addr.add_mid]
  · cases hT
theorem op_fa {f q : Nat} (ho : o.op = .fieldAddr T x f) (hT : fdO P T f = some q) (hx : Ev pc F x (.loc i p)) : DOp P pc o F M [] (.loc i (p + q)) [] := by
  intro hp a s hok hops hfp
  have hr := ev_at hp hx (by simp [ho, Op.operands]) hops
  generalize hv : a.eval x = vx at hr
  cases hr with
  | @loc _ _ b h => exact dg_val hok (run_fieldAddr ho hT hv) (.loc h)
end
theorem run_index_arr {T : TypeId} {x y : Operand} {a : Act} {w : World} {n sz b p : Nat} {k : IntKind} {z : Int} (ho : o.op = .indexAddr T x y) (hT : arE P T = some (n, sz)) (hx : a.eval x = .pointer (some ⟨b, p, none⟩)) (hy : a.eval y = .int k z) (h0 : 0 ≤ z) (h1 : z < n) :
    (execOp a.eval o).run P w = .ok (.value (.pointer (some ⟨b, p + z.toNat * sz, none⟩))) w := by
  obtain ⟨e, i, e1, e2, e3⟩ := arE_spec hT
  unfold execOp
  simp only [ho, hx, hy]
  refine run_v ?_
  unfold Instr.indexAt
  simp [run_underlying e1, asIntOf, Instr.sureAddr, h0, h1, sizeOf, typeInfo, e2, e3, Addr.add_mid]
theorem run_index_sl {T e : TypeId} {x y : Operand} {a : Act} {w : World} {n c sz by' : Nat} {ad : Addr} {k : IntKind} {z : Int} (ho : o.op = .indexAddr T x y) (hT : slE P T = some (e, sz, by')) (hx : a.eval x = .slice (some ad) n c) (hy : a.eval y = .int k z) (h0 : 0 ≤ z) (h1 : z < n) :
    (execOp a.eval o).run P w = .ok (.value (.pointer (some (ad.add (z.toNat * sz))))) w := by
  obtain ⟨e1, i, e2, e3, _⟩ := slE_spec hT
  unfold execOp
  simp only [ho, hx, hy]
  refine run_v ?_
  unfold Instr.indexAt
  simp [run_underlying e1, asIntOf, h0, h1, sizeOf, typeInfo, e2, e3]
section
variable {T : TypeId} {x y : Operand} {i p n sz : Nat} {k : IntKind} {z : Int} {L : List Value}
theorem op_ixl (ho : o.op = .indexAddr T x y) (hT : arE P T = some (n, sz)) (hx : Ev pc F x (.loc i p)) (hy : Ev pc F y (.val (.int k z))) (h : pc = true → 0 ≤ z ∧ z < n) : DOp P pc o F M [] (.loc i (p + z.toNat * sz)) [] := by
  intro hp a s hok hops hfp
  have hr := ev_at hp hx (by simp [ho, Op.operands]) hops
  have h2 := (ev_at hp hy (by simp [ho, Op.operands]) hops).val_eq
  generalize hv : a.eval x = vx at hr
  cases hr with
  | @loc _ _ b hb => exact dg_val hok (run_index_arr ho hT hv h2 (h hp).1 (h hp).2) (.loc hb)
theorem op_ixal (ho : o.op = .indexAddr T x y) (hT : arE P T = some (n, sz)) (hx : Ev pc F x (.aloc i p)) (hy : Ev pc F y (.val (.int k z))) (h : pc = true → 0 ≤ z ∧ z < n) : DOp P pc o F M [] (.aloc i (p + z.toNat * sz)) [] := by
  intro hp a s hok hops hfp
  have hr := ev_at hp hx (by simp [ho, Op.operands]) hops
  have h2 := (ev_at hp hy (by simp [ho, Op.operands]) hops).val_eq
  generalize hv : a.eval x = vx at hr
  cases hr with
  | @aloc _ _ n' c b hb => exact dg_val hok (run_index_arr ho hT hv h2 (h hp).1 (h hp).2) (.aloc hb)
variable {e : TypeId} {by' m : Nat}
/-- an element of a slice that stays -/
theorem op_ixs (ho : o.op = .indexAddr T x y) (hT : slE P T = some (e, sz, by')) (hx : Ev pc F x (.slf sz m L)) (hy : Ev pc F y (.val (.int k z))) (h : pc = true → 0 ≤ z ∧ z < m) (hsz : 0 < sz) : DOp P pc o F M [] (.dpf (L.drop (z.toNat * sz))) [] := by
  intro hp a s hok hops hfp
  have hr := ev_at hp hx (by simp [ho, Op.operands]) hops
  have h2 := (ev_at hp hy (by simp [ho, Op.operands]) hops).val_eq
  obtain ⟨h3, h4⟩ := h hp
  generalize hv : a.eval x = vx at hr
  cases hr with
  | @slf _ _ cap ad _ hl hn hc ha hL =>
    rcases hL with rfl | ⟨b, q, rfl, hI, hcl⟩
    · exfalso
      have : m * sz = 0 := by simpa using hl.symm
      rcases Nat.mul_eq_zero.1 this with h | h <;> omega
    · refine dg_val hok (run_index_sl ho hT hv h2 h3 h4) ?_
      rw [Addr.add_mid]
      refine .dpf hI fun j v hj => ?_
      rw [List.getElem?_drop] at hj
      rw [Nat.add_assoc]
      exact hcl _ v hj
theorem op_ixsr {α : Type} {en : α → List Value} {l : List α} {j : Nat} (ho : o.op = .indexAddr T x y) (hT : slE P T = some (e, sz, by')) (hx : Ev pc F x (.slf sz l.length (l.flatMap en))) (hy : Ev pc F y (.val (.int k z))) (hen : ∀ a, (en a).length = sz) (hsz : 0 < sz) (hz : z = (j : Int)) (hj : j < l.length) : DOp P pc o F M [] (.dpf (en l[j])) [] := by
  intro hp a s hok hops hfp
  have h1 := op_ixs (P := P) (M := M) ho hT hx hy (fun _ => by omega) hsz hp a s hok hops hfp
  revert h1
  generalize (execOp a.eval o).run P s.w = r
  have key : ∀ (s' : St) v, Rep s' (.dpf ((l.flatMap en).drop (z.toNat * sz))) v → Rep s' (.dpf (en l[j])) v := by
    intro s' v hr
    cases hr with
    | dpf hI hc =>
      refine .dpf hI fun i v hi => hc i v ?_
      rw [List.getElem?_drop, show z.toNat = j by omega]
      have : ∀ (l : List α) (j : Nat) (hj : j < l.length), (l.flatMap en)[j * sz + i]? = (en l[j])[i]? := by
        intro l
        induction l with
        | nil => intro j hj; simp at hj
        | cons b l ih =>
          intro j hj
          have hil : i < sz := by rw [← hen]; exact (List.getElem?_eq_some_iff.1 hi).1
          cases j with
          | zero => rw [List.flatMap_cons, Nat.zero_mul, Nat.zero_add, List.getElem?_append_left (by rw [hen]; exact hil)]; rfl
          | succ j =>
            rw [List.flatMap_cons, List.getElem?_append_right (by rw [hen, Nat.succ_mul]; omega), hen, show (j + 1) * sz + i - sz = j * sz + i by rw [Nat.succ_mul]; omega]
            exact ih j (by simpa using hj)
      rw [this l j hj]
      exact hi
  intro h1
  cases r with
  | halt x w' => exact h1
  | ok nx w' =>
    cases nx with
    | value v => obtain ⟨s', a1, a2, a3, a4⟩ := h1; exact ⟨s', a1, a2, a3, key s' v a4⟩
    | skip => obtain ⟨s', a1, a2, a3, a4⟩ := h1; exact ⟨s', a1, a2, a3, key s' _ a4⟩
    | enter f args => exact ⟨h1.1, h1.2.mono fun e w'' ⟨s', v, b1, b2, b3, b4, b5⟩ => ⟨s', v, b1, b2, b3, b4, key s' v b5⟩⟩
    | round l f tmps asg body => exact ⟨h1.1, h1.2.mono fun e w'' ⟨s', v, b1, b2, b3, b4, b5⟩ => ⟨s', v, b1, b2, b3, b4, key s' v b5⟩⟩
    | _ => exact h1
/-- an element of an array of its own -/
theorem op_ixa {T' : TypeId} (ho : o.op = .indexAddr T x y) (hT : slE P T = some (e, sz, by')) (hx : Ev pc F x (.arr i)) (hy : Ev pc F y (.val (.int k z))) (hM : M[i]? = some (.arr T' sz m L)) (h : pc = true → 0 ≤ z ∧ z < m) : DOp P pc o F M [i] (.aloc i (z.toNat * sz)) [] := by
  intro hp a s hok hops hfp
  have hr := ev_at hp hx (by simp [ho, Op.operands]) hops
  have h2 := (ev_at hp hy (by simp [ho, Op.operands]) hops).val_eq
  obtain ⟨h3, h4⟩ := h hp
  generalize hv : a.eval x = vx at hr
  cases hr with
  | @arr _ ad n' c hb =>
    have hM' : s.M[i]? = some (.arr T' sz m L) := by rw [hfp i (by simp)]; exact hM
    have hk : s.w.ownsRow 0 T' sz _ m L := hok.blk i _ _ hM' hb
    rcases hk.2 with ⟨e1, e2⟩ | ⟨g, cap, cur, e1, e2, e3, e4, e5, e6, e7⟩
    · exfalso; omega
    · cases e1
      refine dg_val hok (run_index_sl ho hT hv h2 h3 h4) ?_
      rw [Addr.add_mid, Nat.zero_add]
      exact .aloc hb
end
end
end Go.Proofs.YtaekkjhpdendoaaDoor

namespace Go.Proofs.YtaekkjhpdendoaaDoor
set_option linter.unusedVariables false
set_option linter.unusedSimpArgs false
open Go.RowKit
/-- a new block, in a place that was kept for it -/
theorem tr_new {s : St} (ho : Ok s) {j : Nat} (hj : s.M[j]? = some .hole) (h' : Value) (k' : Blk) (w' : World) (hn : h' ≠ .nilFunc) (hh : ∀ b, hb h' = some b → b = s.w.heap.size)
    (keep : ∀ b, b < s.w.heap.size → w'.heap[b]? = s.w.heap[b]?) (hlt : ∀ b, hb h' = some b → b < w'.heap.size) (hsz : s.w.heap.size ≤ w'.heap.size) (hos : w'.os = s.w.os) (htape : w'.tape = s.w.tape) (hout : w'.output = s.w.output)
    (hblk : BlkOk ⟨s.β.set j h', s.I, s.M.set j k', w'⟩ h' k') (hk : k'.nf = true := by rfl) : Tr s ⟨s.β.set j h', s.I, s.M.set j k', w'⟩ := by
  have hjl : j < s.M.length := (List.getElem?_eq_some_iff.1 hj).1
  have hβ : s.β[j]? = some .nilFunc := by
    have hjb : j < s.β.length := by rw [ho.len]; exact hjl
    have e : s.β[j]? = some s.β[j] := List.getElem?_eq_getElem hjb
    have : s.β[j] = .nilFunc := ho.blk j .hole _ hj e
    rw [e, this]
  refine step_set ho j s.M h' k' w' rfl (fun i k h => .inl h) hjl (.inl hβ) hn hblk (fun b hb i k h hne h1 h2 h3 h4 => ?_) (fun b hb => .inl (by rw [hh b ((owns_nf hk).1 hb)]; exact Nat.le_refl _)) (fun b hb => hlt b ((owns_nf hk).1 hb)) (fun _ => False) (fun _ h => h.elim) (fun b hb _ _ => keep b hb) hos htape hout hsz
  have := (ho.lt b (live_of h1 h2 h3 h4)).1
  rw [hh b ((owns_nf hk).1 hb)] at this
  omega
/-- cells set, one behind the other -/
def setL : List Value → Nat → List Value → List Value
  | L, _, [] => L
  | L, p, v :: r => setL (L.set p v) (p + 1) r
theorem setL_len : ∀ (C L : List Value) (p : Nat), (setL L p C).length = L.length
  | [], _, _ => rfl
  | v :: r, L, p => by rw [setL, setL_len r]; simp
theorem setL_eq : ∀ (C L : List Value) (p : Nat), p + C.length ≤ L.length → setL L p C = L.take p ++ C ++ L.drop (p + C.length)
  | [], L, p, _ => by simp [setL]
  | v :: r, L, p, h => by
    simp only [List.length_cons] at h
    rw [setL, setL_eq r _ (p + 1) (by simp; omega)]
    have h1 : p < L.length := by omega
    rw [List.take_set, List.drop_set_of_lt (by omega), List.take_succ_eq_append_getElem h1, List.set_append_right _ _ (by simp; omega)]
    simp [show min p L.length = p by omega, show p + 1 + r.length = p + (r.length + 1) by omega]
theorem setL_all {C L : List Value} (h : C.length = L.length) : setL L 0 C = C := by
  rw [setL_eq C L 0 (by omega)]; simp [h]
theorem flat_len {α : Type} {en : α → List Value} {sz : Nat} (hen : ∀ a, (en a).length = sz) : ∀ l : List α, (l.flatMap en).length = l.length * sz
  | [] => by simp
  | a :: l => by rw [List.flatMap_cons, List.length_append, hen, flat_len hen l, List.length_cons, Nat.succ_mul]; omega
theorem flat_drop {α : Type} {en : α → List Value} {sz : Nat} (hen : ∀ a, (en a).length = sz) : ∀ (l : List α) (k : Nat), (l.flatMap en).drop (k * sz) = (l.drop k).flatMap en
  | l, 0 => by simp
  | [], k + 1 => by simp
  | a :: l, k + 1 => by
    rw [List.flatMap_cons, List.drop_append, hen, Nat.succ_mul, List.drop_succ_cons, List.drop_eq_nil_of_le (by rw [hen]; omega), List.nil_append, show k * sz + sz - sz = k * sz by omega, flat_drop hen l k]
theorem flat_take {α : Type} {en : α → List Value} {sz : Nat} (hen : ∀ a, (en a).length = sz) : ∀ (l : List α) (k : Nat), (l.flatMap en).take (k * sz) = (l.take k).flatMap en
  | l, 0 => by simp
  | [], k + 1 => by simp
  | a :: l, k + 1 => by
    rw [List.flatMap_cons, List.take_append, hen, Nat.succ_mul, List.take_succ_cons, List.flatMap_cons, List.take_of_length_le (by rw [hen]; omega), show k * sz + sz - sz = k * sz by omega, flat_take hen l k]
/-- the cells of one of a row, and of a part of it -/
theorem flat_part {α : Type} {en : α → List Value} {sz : Nat} (hen : ∀ a, (en a).length = sz) {l : List α} {j c k : Nat} (hj : j < l.length) (hc : c + k ≤ sz) : ((l.flatMap en).drop (j * sz + c)).take k = ((en l[j]).drop c).take k := by
  rw [← List.drop_drop, flat_drop hen, List.drop_eq_getElem_cons hj, List.flatMap_cons, List.drop_append_of_le_length (by rw [hen]; omega), List.take_append_of_le_length (by rw [List.length_drop, hen]; omega)]
theorem flat_one {α : Type} {en : α → List Value} {sz : Nat} (hen : ∀ a, (en a).length = sz) {l : List α} {j : Nat} (hj : j < l.length) : ((l.flatMap en).drop (j * sz)).take sz = en l[j] := by
  have := flat_part hen (c := 0) (k := sz) hj (by omega)
  rw [Nat.add_zero] at this
  rw [this, List.drop_zero, List.take_of_length_le (by rw [hen]; exact Nat.le_refl _)]
theorem flat_cell {α : Type} {en : α → List Value} {sz : Nat} (hen : ∀ a, (en a).length = sz) {l : List α} {j c : Nat} (hj : j < l.length) (hc : c < sz) : (l.flatMap en)[j * sz + c]? = (en l[j])[c]? := by
  have := flat_part hen (c := c) (k := 1) hj (by omega)
  have h := congrArg (fun x : List Value => x[0]?) this
  simpa [List.getElem?_take, List.getElem?_drop] using h
theorem flat_set {α : Type} {en : α → List Value} {sz : Nat} (hen : ∀ a, (en a).length = sz) {l : List α} {j : Nat} (hj : j < l.length) (x : α) : setL (l.flatMap en) (j * sz) (en x) = (l.set j x).flatMap en := by
  have h1 : (j + 1) * sz ≤ l.length * sz := Nat.mul_le_mul_right _ hj
  rw [Nat.succ_mul] at h1
  rw [setL_eq _ _ _ (by rw [hen, flat_len hen]; exact h1), hen, show j * sz + sz = (j + 1) * sz by rw [Nat.succ_mul], flat_take hen, flat_drop hen]
  conv => rhs; rw [List.set_eq_take_append_cons_drop]
  rw [if_pos hj, List.flatMap_append, List.flatMap_cons, List.append_assoc]
theorem flat_set_part {α : Type} {en : α → List Value} {sz : Nat} (hen : ∀ a, (en a).length = sz) {l : List α} {j c : Nat} {C : List Value} (hj : j < l.length) (hc : c + C.length ≤ sz) {x : α} (hx : setL (en l[j]) c C = en x) : setL (l.flatMap en) (j * sz + c) C = (l.set j x).flatMap en := by
  rw [← flat_set hen hj, ← hx]
  have h1 : (j + 1) * sz ≤ l.length * sz := Nat.mul_le_mul_right _ hj
  rw [Nat.succ_mul] at h1
  have hl := flat_len hen l
  have e1 : l.flatMap en = (l.flatMap en).take (j * sz) ++ en l[j] ++ (l.flatMap en).drop (j * sz + sz) := by
    have h2 := flat_one hen hj
    rw [← h2, List.append_assoc, ← List.drop_drop, List.take_append_drop, List.take_append_drop]
  have hlen0 : ((l.flatMap en).take (j * sz)).length = j * sz := by rw [List.length_take, hl]; omega
  generalize hA : (l.flatMap en).take (j * sz) = A at e1 hlen0
  generalize hB : (l.flatMap en).drop (j * sz + sz) = B at e1
  generalize l.flatMap en = X at e1 hl
  subst e1
  have he := hen l[j]
  generalize en l[j] = E at *
  have hlE : (setL E c C).length = E.length := setL_len _ _ _
  rw [setL_eq C _ _ (by simp; omega), setL_eq (setL E c C) _ _ (by simp; omega), hlE, setL_eq C E c (by omega)]
  have t1 : (A ++ E ++ B).take (j * sz + c) = A ++ E.take c := by
    rw [List.append_assoc, List.take_append, List.take_of_length_le (by omega), hlen0, show j * sz + c - j * sz = c by omega, List.take_append_of_le_length (by omega)]
  have t2 : (A ++ E ++ B).drop (j * sz + c + C.length) = E.drop (c + C.length) ++ B := by
    rw [List.append_assoc, List.drop_append, List.drop_eq_nil_of_le (by omega), List.nil_append, hlen0, show j * sz + c + C.length - j * sz = c + C.length by omega, List.drop_append_of_le_length (by omega)]
  have t3 : (A ++ E ++ B).take (j * sz) = A := by
    rw [List.append_assoc, List.take_append_of_le_length (by omega), List.take_of_length_le (by omega)]
  have t4 : (A ++ E ++ B).drop (j * sz + E.length) = B := by
    rw [List.drop_append, List.drop_eq_nil_of_le (by simp; omega), List.nil_append]
    simp [hlen0]
  rw [t1, t2, t3, t4]
  simp
theorem setCells_block (b : Nat) : ∀ (C : List Value) (p : Nat) (w : World) (L : List Value) (T : TypeId), w.heap[b]? = some (.cells L.toArray T (0, 0)) → (w.setCells b p C).heap[b]? = some (.cells (setL L p C).toArray T (0, 0))
  | [], _, _, _, _, h => h
  | v :: r, p, w, L, T, h => by
    rw [World.setCells, setL]
    refine setCells_block b r (p + 1) _ _ T ?_
    simp only [World.setCell, Array.getElem?_modify]
    simp [h]
theorem setCells_other (b : Nat) : ∀ (C : List Value) (p : Nat) (w : World) (k : Nat), k ≠ b → (w.setCells b p C).heap[k]? = w.heap[k]?
  | [], _, _, _, _ => rfl
  | v :: r, p, w, k, h => by
    rw [World.setCells, setCells_other b r _ _ k h]
    exact Below.heap_setCell _ _ _ _ h
theorem setCells_rest (b : Nat) : ∀ (C : List Value) (p : Nat) (w : World), (w.setCells b p C).heap.size = w.heap.size ∧ (w.setCells b p C).os = w.os ∧ (w.setCells b p C).tape = w.tape ∧ (w.setCells b p C).output = w.output
  | [], _, _ => ⟨rfl, rfl, rfl, rfl⟩
  | v :: r, p, w => by
    rw [World.setCells]
    obtain ⟨h1, h2, h3, h4⟩ := setCells_rest b r (p + 1) (w.setCell ⟨b, p, none⟩ v)
    exact ⟨h1.trans (by simp [World.setCell]), h2, h3, h4⟩
/-- a store into a block that the call may write -/
theorem tr_store {s : St} (ho : Ok s) {i : Nat} {k k' : Blk} {h : Value} {b : Nat} (hi : s.M[i]? = some k) (hl : k.live = true) (hh : s.β[i]? = some h) (hbb : hb h = some b) (p : Nat) (C : List Value)
    (hblk : BlkOk ⟨s.β.set i h, s.I, s.M.set i k', s.w.setCells b p C⟩ h k') : Tr s ⟨s.β.set i h, s.I, s.M.set i k', s.w.setCells b p C⟩ := by
  have hil : i < s.M.length := (List.getElem?_eq_some_iff.1 hi).1
  obtain ⟨r1, r2, r3, r4⟩ := setCells_rest b C p s.w
  have hko := ho.blk i k h hi hh
  have tw : ∀ b', owns k' h b' → owns k h b' := fun b' q => (owns_blk hko hbb).2 (owns_hb hbb q)
  refine step_set ho i s.M h k' _ rfl (fun i k h => .inl h) hil (.inr (.inl hh)) ((ho.blk i k h hi hh).live_ne hl) hblk (fun b' hb' j kj hj hne h1 h2 h3 h4 => ?_) (fun b' hb' => .inr (live_of hi hl hh (tw b' hb'))) (fun b' hb' => ?_) (fun _ => False) (fun _ h => h.elim) (fun b' hlt hne _ => ?_) r2 r3 r4 (by rw [r1]; exact Nat.le_refl _)
  · exact hne (ho.inj j i kj k hj h b' h1 h2 h3 h4 hi hl hh (tw b' hb'))
  · rw [r1]; exact (ho.lt b' (live_of hi hl hh (tw b' hb'))).1
  · refine setCells_other b C p s.w b' fun e => hne ?_
    rw [e]; exact owns_of hblk hbb
section
variable {P : Program} {pc : Bool} {o : Oper} {F : Fr} {M : List Blk}
theorem dg_step {a : Act} {s s' : St} {d : D} {v : Value} {wr : List (Nat × Blk)} (h : (execOp a.eval o).run P s.w = .ok (.value v) s'.w) (ht : Tr s s') (hM : s'.M = upd s.M wr) (hr : Rep s' d v) : DGives P s (fun s' v => s'.M = upd s.M wr ∧ Rep s' d v) ((execOp a.eval o).run P s.w) := by
  rw [h]; exact ⟨s', rfl, ht, hM, hr⟩
theorem dg_skip {a : Act} {s s' : St} {wr : List (Nat × Blk)} (h : (execOp a.eval o).run P s.w = .ok .skip s'.w) (ht : Tr s s') (hM : s'.M = upd s.M wr) : DGives P s (fun s' v => s'.M = upd s.M wr ∧ Rep s' .junk v) ((execOp a.eval o).run P s.w) := by
  rw [h]; exact ⟨s', rfl, ht, hM, .junk _⟩
theorem run_newVar (t : TypeId) (v : Value) (w : World) : (newVar t v).run P w = .ok ⟨w.heap.size, 0, none⟩ (w.alloc (.cells v.cells t)) := rfl
theorem zrC_spec {T : TypeId} {Z : List Value} (h : zrC P T = some Z) : ∃ i z, P.info? T = some i ∧ i.zero = some z ∧ z.cells.toList = Z := by
  simp only [zrC, Option.bind_eq_some_iff, Option.map_eq_some_iff] at h
  obtain ⟨i, h1, z, h2, h3⟩ := h
  exact ⟨i, z, h1, h2, h3⟩
theorem new_flat {s : St} (ho : Ok s) {j : Nat} (hj : s.M[j]? = some .hole) (T : TypeId) (cs : Array Value) (L : List Value) (hL : cs.toList = L) :
    Tr s ⟨s.β.set j (.pointer (some ⟨s.w.heap.size, 0, none⟩)), s.I, s.M.set j (.flat T L), s.w.alloc (.cells cs T)⟩ := by
  subst hL
  refine tr_new ho hj _ _ _ (by simp) (fun b hb => by simpa [hb] using (Option.some.inj hb).symm) (fun b h => Below.heap_alloc _ _ _ h) (fun b hb => ?_) (by simp) rfl rfl rfl ⟨_, rfl, by simpa using heap_alloc_new s.w _⟩
  cases hb; simp
theorem rep_new {s : St} {j : Nat} {h : Value} {M' : List Blk} {w' : World} {b : Nat} (hj : j < s.β.length) (hh : h = .pointer (some ⟨b, 0, none⟩)) : Rep ⟨s.β.set j h, s.I, M', w'⟩ (.loc j 0) (.pointer (some ⟨b, 0, none⟩)) :=
  .loc (by simp [hj, hh])
/-- a new variable of zeros, in the place j -/
theorem op_alloc {T : TypeId} {Z : List Value} (j : Nat) (ho : o.op = .alloc T) (hT : zrC P T = some Z) (hj : M[j]? = some .hole) : DOp P pc o F M [j] (.loc j 0) [(j, .flat T Z)] := by
  intro hp a s hok hops hfp
  obtain ⟨i, z, e1, e2, e3⟩ := zrC_spec hT
  have hj' : s.M[j]? = some .hole := by rw [hfp j (by simp)]; exact hj
  have hjl : j < s.β.length := by rw [hok.len]; exact (List.getElem?_eq_some_iff.1 hj').1
  refine dg_step (v := .pointer (some ⟨s.w.heap.size, 0, none⟩)) ?_ (new_flat hok hj' T z.cells Z e3) rfl (rep_new hjl rfl)
  unfold execOp
  simp only [ho]
  exact run_v (by simp [Instr.alloc, zeroValue, typeInfo, e1, e2, Sem.run_bind, run_newVar])
/-- a new variable that holds a plain value -/
theorem op_box {T : TypeId} {x : Operand} {v : Value} {L : List Value} (j : Nat) (ho : o.op = .box T x) (hx : Ev pc F x (.val v)) (hL : v.cells.toList = L) (hj : M[j]? = some .hole) : DOp P pc o F M [j] (.loc j 0) [(j, .flat T L)] := by
  intro hp a s hok hops hfp
  have h1 := (ev_at hp hx (by simp [ho, Op.operands]) hops).val_eq
  have hj' : s.M[j]? = some .hole := by rw [hfp j (by simp)]; exact hj
  have hjl : j < s.β.length := by rw [hok.len]; exact (List.getElem?_eq_some_iff.1 hj').1
  refine dg_step (v := .pointer (some ⟨s.w.heap.size, 0, none⟩)) ?_ (new_flat hok hj' T v.cells L hL) rfl (rep_new hjl rfl)
  unfold execOp
  simp only [ho, h1]
  exact run_v (by simp only [Instr.box, Sem.run_bind, run_newVar, Result.andThen_ok, Sem.run_pure])
theorem op_boxa {T : TypeId} {x : Operand} {L : List Value} (j : Nat) (ho : o.op = .box T x) (hx : Ev pc F x (.val (.agg L.toArray))) (hj : M[j]? = some .hole) : DOp P pc o F M [j] (.loc j 0) [(j, .flat T L)] := op_box j ho hx rfl hj
/-- .. a value with addresses, of one cell -/
theorem op_boxm {T : TypeId} {x : Operand} {d : D} (j : Nat) (ho : o.op = .box T x) (hx : Ev pc F x d) (h1 : ∀ (s : St) v, Rep s d v → v.cells = #[v]) (hj : M[j]? = some .hole) : DOp P pc o F M [j] (.loc j 0) [(j, .mix T [d])] := by
  intro hp a s hok hops hfp
  have hr := ev_at hp hx (by simp [ho, Op.operands]) hops
  have hc := h1 s _ hr
  have hj' : s.M[j]? = some .hole := by rw [hfp j (by simp)]; exact hj
  have hjl : j < s.β.length := by rw [hok.len]; exact (List.getElem?_eq_some_iff.1 hj').1
  have hβ : s.β[j]? = some .nilFunc := by
    have e : s.β[j]? = some s.β[j] := List.getElem?_eq_getElem hjl
    have : s.β[j] = .nilFunc := hok.blk j .hole _ hj' e
    rw [e, this]
  have ht : Tr s ⟨s.β.set j (.pointer (some ⟨s.w.heap.size, 0, none⟩)), s.I, s.M.set j (.mix T [d]), s.w.alloc (.cells #[a.eval x] T)⟩ := by
    refine tr_new hok hj' _ _ _ (by simp) (fun b hb => by simpa [hb] using (Option.some.inj hb).symm) (fun b h => Below.heap_alloc _ _ _ h) (fun b hb => ?_) (by simp) rfl rfl rfl ⟨_, [a.eval x], rfl, heap_alloc_new s.w _, rfl, fun k e v hk hv => ?_⟩
    · cases hb; simp
    · cases k with
      | zero =>
        simp at hk hv
        subst hk; subst hv
        refine Rep.mono' (s := s) (s' := ⟨s.β.set j (.pointer (some ⟨s.w.heap.size, 0, none⟩)), s.I, s.M.set j (.mix T [d]), s.w.alloc (.cells #[a.eval x] T)⟩) (fun i h hi hne => ?_) (fun _ h => h) (fun b hI => Below.heap_alloc _ _ _ (hok.il b hI)) hr
        show (s.β.set j _)[i]? = some h
        by_cases e : j = i
        · subst e; rw [hi] at hβ; exact absurd (Option.some.inj hβ) hne
        · rw [List.getElem?_set_ne e]; exact hi
      | succ k => simp at hk
  refine dg_step (v := .pointer (some ⟨s.w.heap.size, 0, none⟩)) ?_ ht rfl (rep_new hjl rfl)
  unfold execOp
  simp only [ho]
  exact run_v (by simp only [Instr.box, Sem.run_bind, run_newVar, Result.andThen_ok, Sem.run_pure, hc])
/-- a plain value into a variable -/
theorem run_store {T : TypeId} {x y : Operand} {a : Act} {w : World} {b p k : Nat} {rw' : Bool} {v : Value} {C : List Value} (ho : o.op = .store T x y) (hT : tyB P T = some (rw', k)) (hx : a.eval x = .pointer (some ⟨b, p, none⟩)) (hy : a.eval y = v) (hC : v.cells.toList = C) (hk : C.length = k)
    (hc : ∀ j, j < C.length → (w.cell? ⟨b, p + j, none⟩).isSome = true) (hf : ∀ j, j < C.length → w.frozen? ⟨b, p + j, none⟩ = false) (h1 : ∀ u ∈ C, u.oneCell' = true) : (execOp a.eval o).run P w = .ok .skip (w.setCells b p C) := by
  obtain ⟨d, i, e1, e2, e3, e4⟩ := tyB_spec hT
  subst hC
  have := run_storeCells_cells (P := P) b p v.cells.toList 0 w (by simpa using hc) (by simpa using hf) h1
  simp only [Nat.add_zero] at this
  unfold execOp
  simp only [ho, hx, hy]
  refine run_u ?_
  have hs : v.cells.size = i.size := by rw [e4, ← hk]; simp
  simp [Instr.storeAt, Instr.sureAddr, storeVar, sizeOf, typeInfo, e2, hs, this]
theorem op_st {T T' : TypeId} {x y : Operand} {i p k : Nat} {rw' : Bool} {v : Value} {L C L' : List Value} (ho : o.op = .store T x y) (hT : tyB P T = some (rw', k)) (hx : Ev pc F x (.loc i p)) (hy : Ev pc F y (.val v)) (hM : M[i]? = some (.flat T' L)) (hC : v.cells.toList = C) (hk : C.length = k) (h1 : C.all (·.oneCell') = true)
    (hfit : p + C.length ≤ L.length) (hL : setL L p C = L') : DOp P pc o F M [i] .junk [(i, .flat T' L')] := by
  intro hp a s hok hops hfp
  have hr := ev_at hp hx (by simp [ho, Op.operands]) hops
  have h2 := (ev_at hp hy (by simp [ho, Op.operands]) hops).val_eq
  have hM' : s.M[i]? = some (.flat T' L) := by rw [hfp i (by simp)]; exact hM
  subst hL
  generalize hv : a.eval x = vx at hr
  cases hr with
  | @loc _ _ b h =>
    have hc := flat_cells hok hM' h rfl
    have hcell := cellsAt_block hc 0
    have hrun := run_store (P := P) (w := s.w) ho hT hv h2 hC hk (fun j hj => by
        have := hcell (p + j) _ (by simpa using List.getElem?_eq_getElem (by omega : p + j < L.length))
        rw [Nat.zero_add] at this
        rw [this]; rfl) (fun j hj => by simp [World.frozen?, hc]) (fun u hu => List.all_eq_true.1 h1 u hu)
    exact dg_skip (s' := ⟨s.β.set i (.pointer (some ⟨b, 0, none⟩)), s.I, s.M.set i (.flat T' (setL L p C)), s.w.setCells b p C⟩) hrun (tr_store hok hM' rfl h rfl p C ⟨b, rfl, setCells_block b C p s.w L T' hc⟩) rfl
/-- the whole variable -/
theorem op_stw {T T' : TypeId} {x y : Operand} {i k : Nat} {rw' : Bool} {v : Value} {L C : List Value} (ho : o.op = .store T x y) (hT : tyB P T = some (rw', k)) (hx : Ev pc F x (.loc i 0)) (hy : Ev pc F y (.val v)) (hM : M[i]? = some (.flat T' L)) (hC : v.cells.toList = C) (hk : C.length = k) (h1 : C.all (·.oneCell') = true)
    (hfit : C.length = L.length) : DOp P pc o F M [i] .junk [(i, .flat T' C)] := op_st ho hT hx hy hM hC hk h1 (by omega) (setL_all hfit)
theorem op_stwa {T T' : TypeId} {x y : Operand} {i k : Nat} {rw' : Bool} {L C : List Value} (ho : o.op = .store T x y) (hT : tyB P T = some (rw', k)) (hx : Ev pc F x (.loc i 0)) (hy : Ev pc F y (.val (.agg C.toArray))) (hM : M[i]? = some (.flat T' L)) (hk : C.length = k) (h1 : C.all (·.oneCell') = true)
    (hfit : C.length = L.length) : DOp P pc o F M [i] .junk [(i, .flat T' C)] := op_stw ho hT hx hy hM rfl hk h1 hfit
theorem op_stwi {T T' : TypeId} {x y : Operand} {i : Nat} {rw' : Bool} {kd : IntKind} {z : Int} {v : Value} (ho : o.op = .store T x y) (hT : tyB P T = some (rw', 1)) (hx : Ev pc F x (.loc i 0)) (hy : Ev pc F y (.val (.int kd z))) (hM : M[i]? = some (.flat T' [v])) : DOp P pc o F M [i] .junk [(i, .flat T' [.int kd z])] :=
  op_stw ho hT hx hy hM rfl rfl rfl rfl
/-- one cell of a variable -/
theorem op_st1 {T T' : TypeId} {x y : Operand} {i p : Nat} {rw' : Bool} {kd : IntKind} {z : Int} {L L' : List Value} (ho : o.op = .store T x y) (hT : tyB P T = some (rw', 1)) (hx : Ev pc F x (.loc i p)) (hy : Ev pc F y (.val (.int kd z))) (hM : M[i]? = some (.flat T' L)) (hfit : p < L.length) (hL : L.set p (.int kd z) = L') : DOp P pc o F M [i] .junk [(i, .flat T' L')] :=
  op_st ho hT hx hy hM rfl rfl rfl hfit hL
theorem op_sta {T T' : TypeId} {x y : Operand} {i p k sz n : Nat} {rw' : Bool} {v : Value} {L C L' : List Value} (ho : o.op = .store T x y) (hT : tyB P T = some (rw', k)) (hx : Ev pc F x (.aloc i p)) (hy : Ev pc F y (.val v)) (hM : M[i]? = some (.arr T' sz n L)) (hC : v.cells.toList = C) (hk : C.length = k) (h1 : C.all (·.oneCell') = true)
    (hfit : p + C.length ≤ L.length) (hL : setL L p C = L') : DOp P pc o F M [i] .junk [(i, .arr T' sz n L')] := by
  intro hp a s hok hops hfp
  have hr := ev_at hp hx (by simp [ho, Op.operands]) hops
  have h2 := (ev_at hp hy (by simp [ho, Op.operands]) hops).val_eq
  have hM' : s.M[i]? = some (.arr T' sz n L) := by rw [hfp i (by simp)]; exact hM
  subst hL
  generalize hv : a.eval x = vx at hr
  cases hr with
  | @aloc _ _ n' c b h =>
    have hk' : s.w.ownsRow 0 T' sz _ n L := hok.blk i _ _ hM' h
    rcases hk'.2 with ⟨e1, e2⟩ | ⟨g, cap, cur, e1, e2, e3, e4, e5, e6, e7⟩
    · cases e1
    · cases e1
      have hle := Nat.mul_le_mul_right sz e4
      have hlL := hk'.1
      have hcell := cellsAt_block e3 0
      have hrun := run_store (P := P) (w := s.w) ho hT hv h2 hC hk (fun j hj => by
          have := hcell (p + j) _ (by simpa using List.getElem?_eq_getElem (by simp; omega : p + j < cur.toList.length))
          rw [Nat.zero_add] at this
          rw [this]; rfl) (fun j hj => by simp [World.frozen?, e3]) (fun u hu => List.all_eq_true.1 h1 u hu)
      refine dg_skip (s' := ⟨s.β.set i (.slice (some ⟨b, 0, none⟩) n c), s.I, s.M.set i (.arr T' sz n (setL L p C)), s.w.setCells b p C⟩) hrun (tr_store hok hM' rfl h rfl p C ?_) rfl
      have hsl := setL_len C cur.toList p
      refine ⟨by rw [setL_len]; exact hlL, .inr ⟨b, c, (setL cur.toList p C).toArray, rfl, e2, setCells_block b C p s.w cur.toList T' (by simpa using e3), e4, e5, by simp [hsl]; simpa using e6, ?_⟩⟩
      have hcurlen : cur.toList.length = c * sz := by simpa using e6
      rw [setL_eq C cur.toList p (by omega), setL_eq C L p hfit]
      have hcut : cur.toList = L ++ cur.toList.drop L.length := by
        have := List.take_append_drop (n * sz) cur.toList
        rw [e7, ← hlL] at this
        exact this.symm
      generalize cur.toList.drop L.length = R at hcut
      rw [hcut]
      have t1 : (L ++ R).take p = L.take p := List.take_append_of_le_length (by omega)
      have t2 : (L ++ R).drop (p + C.length) = L.drop (p + C.length) ++ R := List.drop_append_of_le_length (by omega)
      rw [t1, t2, ← hlL, ← List.append_assoc]
      refine List.take_left' ?_
      simp; omega
end
end Go.Proofs.YtaekkjhpdendoaaDoor

namespace Go.Proofs.YtaekkjhpdendoaaDoor
set_option linter.unusedVariables false
set_option linter.unusedSimpArgs false
open Go.RowKit
section
variable {P : Program} {pc : Bool} {o : Oper} {F : Fr} {M : List Blk}
/-- plain operands -/
def EvV (pc : Bool) (F : Fr) : List Operand → List Value → Prop
  | [], [] => True
  | x :: xs, v :: vs => Ev pc F x (.val v) ∧ EvV pc F xs vs
  | _, _ => False
theorem vn : EvV pc F [] [] := trivial
theorem vc {x : Operand} {xs : List Operand} {v : Value} {vs : List Value} (h : Ev pc F x (.val v)) (h' : EvV pc F xs vs) : EvV pc F (x :: xs) (v :: vs) := ⟨h, h'⟩
theorem evV_eq {a : Act} {s : St} (hp : pc = true) : ∀ (xs : List Operand) (vs : List Value), EvV pc F xs vs → (∀ x ∈ xs, ∀ d, ev F x = some d → Rep s d (a.eval x)) → xs.map a.eval = vs
  | [], [], _, _ => rfl
  | x :: xs, v :: vs, ⟨⟨d', e1, e2⟩, h⟩, hr => by
    rw [List.map_cons, evV_eq hp xs vs h (fun y hy => hr y (List.mem_cons_of_mem _ hy)), (e2 s _ hp (hr x (List.mem_cons_self ..) d' e1)).val_eq]
  | [], _ :: _, h, _ => by cases h
  | _ :: _, [], h, _ => by cases h
theorem run_builtin {b : Builtin} {xs : Array Operand} {ts : Array TypeId} {a : Act} {w w' : World} {s : Sem Value} {v : Value} (ho : o.op = .call { callee := .builtin b, args := xs, argTypes := ts })
    (hb : ∀ cs, builtin b ts o.type cs (xs.map a.eval) = (do pure (Next.value (← s)))) (h : s.run P w = .ok v w') : (execOp a.eval o).run P w = .ok (.value v) w' := by
  unfold execOp
  simp only [ho, resolve, Sem.run_bind, Sem.run_pure, Result.andThen_ok, invoke]
  rw [hb]
  exact run_v h
/-- a component of a tuple -/
theorem op_ext {x : Operand} {i : Nat} {l : List D} {d : D} (ho : o.op = .extract x i) (hx : Ev pc F x (.tup l)) (hl : l[i]? = some d) : DOp P pc o F M [] d [] := by
  intro hp a s hok hops _
  have hr := ev_at hp hx (by simp [ho, Op.operands]) hops
  generalize hv : a.eval x = vx at hr
  cases hr with
  | @tup _ vs h1 h2 =>
    have hi : i < vs.length := by rw [h1]; exact (List.getElem?_eq_some_iff.1 hl).1
    refine dg_val (v := vs[i]) hok ?_ (h2 i d _ hl (List.getElem?_eq_getElem hi))
    unfold execOp
    simp only [ho, hv]
    exact run_v (by simp [Instr.extract, hi])
/-- a function value -/
theorem op_mkf {fn : Fn} {fs cs : List Operand} {ds es : List D} (ho : o.op = .makeFunc fn fs.toArray cs.toArray) (h1 : EvL pc F fs ds) (h2 : EvL pc F cs es) : DOp P pc o F M [] (.fn fn ds es) [] := by
  intro hp a s hok hops _
  have r1 := evL_reps (a := a) (s := s) hp fs ds h1 (fun y hy => hops y (by rw [ho]; simp [Op.operands, hy]))
  have r2 := evL_reps (a := a) (s := s) hp cs es h2 (fun y hy => hops y (by rw [ho]; simp [Op.operands, hy]))
  refine dg_val (v := .func fn (fs.map a.eval).toArray (cs.map a.eval).toArray) hok ?_ (.fn r1.1 r2.1 r1.2 r2.2)
  unfold execOp
  simp only [ho]
  exact run_v (by simp [Instr.makeFunc])

/-! ### len -/
theorem op_len {T : TypeId} {x : Operand} {q : TypeId × Nat × Nat} {sz n : Nat} {L : List Value} (ho : o.op = .call { callee := .builtin .len, args := #[x], argTypes := #[T] }) (hT : slE P T = some q) (hx : Ev pc F x (.slf sz n L)) : DOp P pc o F M [] (.val (.int .i64 n)) [] := by
  intro hp a s hok hops _
  obtain ⟨e1, _⟩ := slE_spec hT
  have hr := ev_at hp hx (by simp [ho, Op.operands, Call.operands]) hops
  generalize hv : a.eval x = vx at hr
  cases hr with
  | slf h1 h2 h3 h4 h5 =>
    refine dg_val hok (run_builtin ho (fun cs => rfl) ?_) (.val (.int .i64 n))
    simp [Builtin.len_, hv, run_underlying e1, goInt]
theorem op_lena {T T' : TypeId} {x : Operand} {q : TypeId × Nat × Nat} {i sz n : Nat} {L : List Value} (ho : o.op = .call { callee := .builtin .len, args := #[x], argTypes := #[T] }) (hT : slE P T = some q) (hx : Ev pc F x (.arr i)) (hM : M[i]? = some (.arr T' sz n L)) : DOp P pc o F M [i] (.val (.int .i64 n)) [] := by
  intro hp a s hok hops hfp
  obtain ⟨e1, _⟩ := slE_spec hT
  have hr := ev_at hp hx (by simp [ho, Op.operands, Call.operands]) hops
  generalize hv : a.eval x = vx at hr
  cases hr with
  | arr h =>
    have hM' : s.M[i]? = some (.arr T' sz n L) := by rw [hfp i (by simp)]; exact hM
    have hk : s.w.ownsRow 0 T' sz _ n L := hok.blk i _ _ hM' h
    refine dg_val hok (run_builtin ho (fun cs => rfl) ?_) (.val (.int .i64 n))
    rcases hk.2 with ⟨e2, e3⟩ | ⟨g, cap, cur, e2, _⟩
    · cases e2; simp [Builtin.len_, hv, run_underlying e1, goInt, e3]
    · cases e2; simp [Builtin.len_, hv, run_underlying e1, goInt]
def Bd (pc : Bool) (F : Fr) (y : Option Operand) (dflt z : Int) : Prop := match y with
  | none => z = dflt
  | some y => ∃ k, Ev pc F y (.val (.int k z))
theorem bd_none {z : Int} : Bd pc F none z z := rfl
theorem bd_some {y : Operand} {k : IntKind} {z q : Int} (h : Ev pc F y (.val (.int k z))) : Bd pc F (some y) q z := ⟨k, h⟩
theorem bd_at {y : Option Operand} {dflt z : Int} {a : Act} {s : St} (hp : pc = true) (h : Bd pc F y dflt z) (hm : ∀ u, y = some u → u ∈ o.op.operands) (hops : ∀ x ∈ o.op.operands, ∀ d, ev F x = some d → Rep s d (a.eval x)) :
    y.map a.eval = none ∧ z = dflt ∨ ∃ k, y.map a.eval = some (.int k z) := by
  cases y with
  | none => exact .inl ⟨rfl, h⟩
  | some u =>
    obtain ⟨k, h⟩ := h
    exact .inr ⟨k, by rw [Option.map_some, (ev_at hp h (hm u rfl) hops).val_eq]⟩
theorem fill_full {sz : Nat} : ∀ (vs : List Value) (k : Nat) (cs : Array Value) (pre : List Value), (∀ v ∈ vs, v.cells.size = sz) → pre.length = k * sz → cs.toList.take (k * sz) = pre → cs.size = (k + vs.length) * sz →
    Instr.fill (fun i => some (i * sz, sz)) cs ((List.range' k vs.length).zip vs) = some (pre ++ vs.flatMap fun v => v.cells.toList).toArray
  | [], k, cs, pre, _, hpl, hp, hs => by
    simp only [List.length_nil, List.range'_zero, List.zip_nil_left, Instr.fill, List.flatMap_nil, List.append_nil, Option.some.injEq]
    have : cs.toList = pre := by
      rw [← hp]
      exact (List.take_of_length_le (by simp [hs])).symm
    rw [← this]
  | v :: vs, k, cs, pre, hv, hpl, hp, hs => by
    have hv0 := hv v (List.mem_cons_self ..)
    simp only [List.length_cons] at hs
    rw [List.length_cons, List.range'_succ, List.zip_cons_cons, Instr.fill]
    have hfit : ¬ (k * sz + v.cells.size > cs.size) := by
      rw [hv0, hs, ← Nat.succ_mul]
      exact Nat.not_lt.2 (Nat.mul_le_mul_right _ (by omega))
    simp only [hv0, bne_self_eq_false, Bool.false_or, ne_eq, not_true_eq_false, decide_false, decide_eq_true_eq]
    rw [if_neg (by simp; rw [hs, ← Nat.succ_mul]; exact Nat.mul_le_mul_right _ (by omega))]
    -- the fold is a setL
    have fold : ∀ (C : List Value) (j : Nat) (cs : Array Value), (List.foldl (fun (acc : Array Value) (p : Value × Nat) => acc.setIfInBounds (k * sz + p.2) p.1) cs (C.zipIdx j)).toList = setL cs.toList (k * sz + j) C := by
      intro C
      induction C with
      | nil => intro j cs; rfl
      | cons c C ih => intro j cs; rw [List.zipIdx_cons, List.foldl_cons, ih, setL, Array.toList_setIfInBounds, Nat.add_assoc]
    have hfold := fold v.cells.toList 0 cs
    rw [Nat.add_zero] at hfold
    have hcl : v.cells.toList.length = sz := by simpa using hv0
    have hle : k * sz + v.cells.toList.length ≤ cs.toList.length := by
      simp only [hcl, Array.length_toList]; rw [hs, ← Nat.succ_mul]; exact Nat.mul_le_mul_right _ (by omega)
    rw [setL_eq _ _ _ hle] at hfold
    have hz : (v.cells.zipIdx.foldl (fun (acc : Array Value) (p : Value × Nat) => acc.setIfInBounds (k * sz + p.2) p.1) cs).toList = (pre ++ v.cells.toList) ++ cs.toList.drop (k * sz + v.cells.toList.length) := by
      rw [← hp, ← hfold, ← Array.foldl_toList]
      congr 1
      simp [Array.toList_zipIdx]
    have ih := fill_full vs (k + 1) (v.cells.zipIdx.foldl (fun (acc : Array Value) (p : Value × Nat) => acc.setIfInBounds (k * sz + p.2) p.1) cs) (pre ++ v.cells.toList) (fun u hu => hv u (List.mem_cons_of_mem _ hu)) (by rw [List.length_append, hpl, hcl, Nat.succ_mul])
      (by rw [hz]; exact List.take_left' (by rw [List.length_append, hpl, hcl, Nat.succ_mul])) (by
        rw [← Array.length_toList, hz, List.length_append, List.length_append, List.length_drop, hpl, hcl, Array.length_toList, hs]
        have : (k + 1) * sz ≤ (k + (vs.length + 1)) * sz := Nat.mul_le_mul_right _ (by omega)
        rw [Nat.succ_mul] at this
        rw [show k + 1 + vs.length = k + (vs.length + 1) by omega]
        omega)
    rw [List.flatMap_cons, ← List.append_assoc]
    exact ih
theorem run_buildSlice {T e : TypeId} {sz by' n : Nat} {ps : List (Nat × Operand)} {vs : List Value} {a : Act} {w : World} {Z : List Value} (ho : o.op = .buildSlice T n ps.toArray) (hT : slE P T = some (e, sz, by')) (hZ : zrC P e = some Z) (hi : ps.map (·.1) = List.range' 0 n) (hv : (ps.map (·.2)).map a.eval = vs)
    (hs : ∀ v ∈ vs, v.cells.size = sz) (hbig : n * sz ≤ 16777216) : (execOp a.eval o).run P w = .ok (.value (.slice (some ⟨w.heap.size, 0, none⟩) n n)) (w.alloc (.cells (vs.flatMap fun v => v.cells.toList).toArray e)) := by
  obtain ⟨e1, i, e2, e3, _⟩ := slE_spec hT
  obtain ⟨i', z, q1, q2, q3⟩ := zrC_spec hZ
  rw [e2] at q1
  obtain rfl := Option.some.inj q1
  have hlen : vs.length = n := by
    rw [← hv, List.length_map, List.length_map]
    have := congrArg List.length hi
    simpa using this
  have hparts : (ps.toArray.map fun (i, x) => (i, a.eval x)).toList = (List.range' 0 n).zip vs := by
    simp only [List.map_toArray]
    rw [← hi, ← hv]
    clear hi hv ho
    induction ps with
    | nil => rfl
    | cons p ps ih => simp only [List.map_cons, List.zip_cons_cons]; rw [← ih]
  unfold execOp
  simp only [ho]
  refine run_v ?_
  have hfill : ∀ zs : Array Value, Instr.fill (fun i => some (i * sz, sz)) ((Array.range (n * sz)).map (zs[· % zs.size]!)) ((List.range' 0 n).zip vs) = some (vs.flatMap fun v => v.cells.toList).toArray := by
    intro zs
    have := fill_full (sz := sz) vs 0 ((Array.range (n * sz)).map (zs[· % zs.size]!)) [] hs (by simp) (by simp) (by simp [hlen])
    rw [hlen] at this
    simpa using this
  have hb : ¬ (2 ^ 24 < n * sz) := by omega
  have hsz : (sizeOf e).run P w = .ok sz w := by simp [sizeOf, typeInfo, e2, e3]
  have hz0 : (zeroValue e).run P w = .ok z w := by simp [zeroValue, typeInfo, e2, q2]
  have hnr : ∀ (cs : Array Value), (newRow e cs).run P w = .ok ⟨w.heap.size, 0, none⟩ (w.alloc (.cells cs e)) := fun _ => rfl
  simp only [Instr.buildSlice, Sem.run_bind, run_underlying e1, Result.andThen_ok, hsz, gt_iff_lt, hb, if_false, hparts]
  by_cases hz : n * sz = 0
  · have h1 := hfill #[]
    simp only [hz, if_true, Sem.run_pure, Result.andThen_ok]
    rw [hz] at h1
    simp only [h1, Sem.run_bind, hnr, Result.andThen_ok, Sem.run_pure]
  · have h1 := hfill z.cells
    simp only [hz, if_false, Sem.run_bind, hz0, Sem.run_pure, Result.andThen_ok, h1, hnr]
section
variable {T e : TypeId} {sz by' n : Nat} {ps : List (Nat × Operand)} {vs Z : List Value}
theorem evV_ps {a : Act} {s : St} (hp : pc = true) (ho : o.op = .buildSlice T n ps.toArray) (h : EvV pc F (ps.map (·.2)) vs) (hops : ∀ x ∈ o.op.operands, ∀ d, ev F x = some d → Rep s d (a.eval x)) : (ps.map (·.2)).map a.eval = vs :=
  evV_eq hp _ _ h fun x hx => hops x (by rw [ho]; simpa [Op.operands] using hx)
theorem cells_sum (hs : ∀ v ∈ vs, v.cells.size = sz) : (vs.flatMap fun v => v.cells.toList).length = vs.length * sz := by
  induction vs with
  | nil => simp
  | cons v vs ih => rw [List.flatMap_cons, List.length_append, ih (fun u hu => hs u (List.mem_cons_of_mem _ hu)), List.length_cons, Nat.succ_mul]; simp [hs v (List.mem_cons_self ..)]; omega
/-- a slice of plain values, that stays as it is made -/
theorem op_bs (ho : o.op = .buildSlice T n ps.toArray) (hT : slE P T = some (e, sz, by')) (hZ : zrC P e = some Z) (hi : ps.map (·.1) = List.range' 0 n) (hv : EvV pc F (ps.map (·.2)) vs) (hs : vs.all (fun v => v.cells.size == sz) = true) (hbig : n * sz ≤ 16777216) (hn : n ≤ 16777216) :
    DOp P pc o F M [] (.slf sz n (vs.flatMap fun v => v.cells.toList)) [] := by
  intro hp a s hok hops _
  have hs' : ∀ v ∈ vs, v.cells.size = sz := fun v hv => by simpa using List.all_eq_true.1 hs v hv
  have hvs := evV_ps hp ho hv hops
  have hlen : vs.length = n := by
    rw [← hvs, List.length_map, List.length_map]
    have := congrArg List.length hi
    simpa using this
  have hrun := run_buildSlice (P := P) (w := s.w) ho hT hZ hi hvs hs' hbig
  refine dg_step (s' := ⟨s.β, fun b => s.I b ∨ b = s.w.heap.size, s.M, _⟩) hrun (step_imm hok _) rfl (.slf (by rw [cells_sum hs', hlen]) (Nat.le_refl _) (by unfold maxLen; omega) (fun e => by cases e) (.inr ⟨_, 0, rfl, .inr rfl, ?_⟩))
  simpa using cellsAt_block (heap_alloc_new s.w _) 0
/-- .. as an array of its own, in the place j -/
theorem op_bsa (j : Nat) (ho : o.op = .buildSlice T n ps.toArray) (hT : slE P T = some (e, sz, by')) (hZ : zrC P e = some Z) (hi : ps.map (·.1) = List.range' 0 n) (hv : EvV pc F (ps.map (·.2)) vs) (hs : vs.all (fun v => v.cells.size == sz) = true) (hbig : n * sz ≤ 16777216) (hn : n ≤ 16777216) (hj : M[j]? = some .hole) :
    DOp P pc o F M [j] (.arr j) [(j, .arr e sz n (vs.flatMap fun v => v.cells.toList))] := by
  intro hp a s hok hops hfp
  have hs' : ∀ v ∈ vs, v.cells.size = sz := fun v hv => by simpa using List.all_eq_true.1 hs v hv
  have hvs := evV_ps hp ho hv hops
  have hlen : vs.length = n := by
    rw [← hvs, List.length_map, List.length_map]
    have := congrArg List.length hi
    simpa using this
  have hj' : s.M[j]? = some .hole := by rw [hfp j (by simp)]; exact hj
  have hjl : j < s.β.length := by rw [hok.len]; exact (List.getElem?_eq_some_iff.1 hj').1
  have hrun := run_buildSlice (P := P) (w := s.w) ho hT hZ hi hvs hs' hbig
  refine dg_step (s' := ⟨s.β.set j (.slice (some ⟨s.w.heap.size, 0, none⟩) n n), s.I, s.M.set j (.arr e sz n (vs.flatMap fun v => v.cells.toList)), _⟩) hrun (tr_new hok hj' _ _ _ (by simp) (fun b hb => by cases hb; rfl) (fun b h => Below.heap_alloc _ _ _ h) (fun b hb => by cases hb; simp) (by simp) rfl rfl rfl ?_) rfl (.arr (by simp [hjl]))
  have := World.ownsRow_lit (base := 0) (e := e) (size := sz) s.w (vs.flatMap fun v => v.cells.toList).toArray n (Nat.zero_le _) (by unfold maxLen; omega) (by simp only [List.size_toArray]; rw [cells_sum hs', hlen])
  exact this
end

/-! ### append -/
/-- what is appended: m elements, these cells -/
def SrcOk (s : St) (v : Value) (m : Nat) (L2 : List Value) : Prop := ∃ a c, v = .slice a m c ∧ ((a = none ∧ m = 0 ∧ c = 0 ∧ L2 = []) ∨ ∃ ad, a = some ad ∧ ∀ (j : Nat) u, L2[j]? = some u → s.w.cell? (ad.add j) = some u)
def SrcD (M : List Blk) (fp : List Nat) (d : D) (m sz : Nat) (L2 : List Value) : Prop := ∀ (s : St) v, Ok s → (∀ i ∈ fp, s.M[i]? = M[i]?) → Rep s d v → L2.length = m * sz ∧ SrcOk s v m L2
theorem src_slf {m sz : Nat} {L2 : List Value} : SrcD M [] (.slf sz m L2) m sz L2 := by
  intro s v _ _ hr
  cases hr with
  | @slf _ _ cap ad _ hl hn hc ha hL =>
    refine ⟨hl, ad, cap, rfl, ?_⟩
    rcases hL with rfl | ⟨b, q, rfl, hI, hcl⟩
    · cases ad with
      | none => have := ha rfl; exact .inl ⟨rfl, by omega, this, rfl⟩
      | some ad => exact .inr ⟨ad, rfl, fun j u h => by simp at h⟩
    · exact .inr ⟨_, rfl, fun j u hj => by rw [Addr.add_mid]; exact hcl j u hj⟩
/-- append onto an array of its own: what comes, and where it lies -/
theorem run_append_D {T e : TypeId} {sz by' n m : Nat} {i : TypeInfo} {z : Value} {ty : TypeId} {s : St} {h v2 : Value} {L L2 : List Value} (hT : P.underlying T = some (.slice e)) (hi : P.info? e = some i) (hsz : i.size = sz) (hby : i.bytes = by') (hz : i.zero = some z) (hzs : z.cells.size = sz)
    (hown : s.w.ownsRow 0 e sz h n L) (hl : L2.length = m * sz) (hsrc : SrcOk s v2 m L2) (h1 : ∀ u ∈ L2, u.oneCell' = true) (h63 : n + m ≤ maxLen) (hbytes : (n + m) * by' ≤ 140737488355328) :
    ∃ h' w', (Builtin.append_ #[T, T] ty #[h, v2]).run P s.w = .ok h' w' ∧ w'.ownsRow 0 e sz h' (n + m) (L ++ L2) ∧ s.w.grownBy w' h.ownBlock ∧ (∀ b, h'.ownBlock = some b → h.ownBlock = some b ∨ s.w.heap.size ≤ b) := by
  subst hsz hby
  obtain ⟨a, c, rfl, hsrc⟩ := hsrc
  rcases hsrc with ⟨rfl, rfl, rfl, rfl⟩ | ⟨ad, rfl, hcells⟩
  · refine ⟨h, s.w, run_append_owned_none s.w 0 T ty e i i.size hT hi h n L hown, by simpa using hown, ⟨rfl, rfl, rfl, Nat.le_refl _, fun _ _ _ => rfl⟩, fun b hb => .inl hb⟩
  · have h63' : ((n + m : Nat) : Int) ≤ 9223372036854775807 := by simp only [maxLen] at h63; omega
    have grown : ∀ old, (s.w.drew.alloc (.cells (L.toArray ++ L2.toArray ++ Builtin.zeroCells z.cells (grownCap s.w (n + m) old e - (n + m))) e)).ownsRow 0 e i.size (.slice (some ⟨s.w.heap.size, 0, none⟩) (n + m) (grownCap s.w (n + m) old e)) (n + m) (L ++ L2) := by
      intro old
      have hge := grownCap_ge s.w (n + m) old e
      have hll : (L ++ L2).length = (n + m) * i.size := by rw [List.length_append, hown.1, hl, Nat.add_mul]
      refine ⟨hll, .inr ⟨s.w.heap.size, _, _, rfl, Nat.zero_le _, heap_alloc_new s.w.drew _, hge, grownCap_le_maxLen s.w _ _ _ h63, ?_, ?_⟩⟩
      · simp only [Array.size_append, List.size_toArray, size_zeroCells, hzs, hown.1, hl, ← Nat.add_mul]
        congr 1
        omega
      · simp only [Array.toList_append, List.append_assoc]
        rw [← List.append_assoc, ← hll]
        exact List.take_left
    rcases hown.2 with ⟨e1, e2⟩ | ⟨g, cap, cur, e1, _, e3, e4, e5, e6, e7⟩
    · subst e1 e2
      have hL : L = [] := List.eq_nil_of_length_eq_zero (by simpa using hown.1)
      subst hL
      by_cases hm : m = 0
      · subst hm
        have hL2 : L2 = [] := List.eq_nil_of_length_eq_zero (by simpa using hl)
        subst hL2
        refine ⟨.slice none 0 0, s.w, ?_, World.ownsRow_nil s.w 0 e i.size, ⟨rfl, rfl, rfl, Nat.le_refl _, fun _ _ _ => rfl⟩, fun b hb => .inl hb⟩
        simp [Builtin.append_, run_underlying hT, sizeOf, typeInfo, hi, Builtin.lenOf, Builtin.firstCells, loadCells, loadCellsFrom]
      · have hr := run_append_nil (P := P) s.w T ty e i z hT hi hz ad m c L2 hl hcells (by omega) (by omega) (by rw [Nat.zero_add] at hbytes; omega)
        have hg := grown 0
        simp only [Nat.zero_add, List.nil_append, Array.empty_append] at hg hr ⊢
        exact ⟨_, _, hr, hg, ⟨rfl, rfl, rfl, by simp, fun k hk _ => Below.heap_alloc _ _ _ hk⟩, fun b hb => .inr (by cases hb; exact Nat.le_refl _)⟩
    · subst e1
      by_cases hroom : n + m ≤ cap
      · obtain ⟨w', r1, r2, r3⟩ := run_append_fits (P := P) s.w 0 T ty e i i.size hT hi rfl g n cap L hown ad m c L2 hl hcells h1 hroom
        exact ⟨_, w', r1, r2, r3, fun b hb => .inl hb⟩
      · have holds : ∀ (j : Nat) u, L[j]? = some u → s.w.cell? ((⟨g, 0, none⟩ : Addr).add j) = some u := hown.cells (g := g) rfl
        have hr := run_append_grow (P := P) s.w T ty e i z hT hi hz ⟨g, 0, none⟩ n cap L hown.1 holds ad m c L2 hl hcells (by omega) h63' (growslice_fits (by omega) hbytes)
        exact ⟨_, _, hr, grown cap, ⟨rfl, rfl, rfl, by simp, fun k hk _ => Below.heap_alloc _ _ _ hk⟩, fun b hb => .inr (by cases hb; exact Nat.le_refl _)⟩
theorem hb_own {h : Value} (hs : (h = .slice none 0 0) ∨ ∃ a n c, h = .slice (some a) n c) : hb h = h.ownBlock := by
  rcases hs with rfl | ⟨a, n, c, rfl⟩ <;> rfl
theorem op_app {T e : TypeId} {sz by' n m i j : Nat} {x y : Operand} {d : D} {L L2 Z : List Value} {fp : List Nat} (ho : o.op = .call { callee := .builtin .append, args := #[x, y], argTypes := #[T, T] }) (hT : slE P T = some (e, sz, by')) (hZ : zrC P e = some Z) (hZl : Z.length = sz)
    (hx : Ev pc F x (.arr i)) (hy : Ev pc F y d) (hsrc : SrcD M fp d m sz L2) (hM : M[i]? = some (.arr e sz n L)) (hj : M[j]? = some .hole) (h1 : pc = true → L2.all (·.oneCell') = true) (hbd : pc = true → (n + m) * by' ≤ 140737488355328 ∧ n + m ≤ 140737488355328) :
    DOp P pc o F M (i :: j :: fp) (.arr j) [(i, .gone), (j, .arr e sz (n + m) (L ++ L2))] := by
  intro hp a s hok hops hfp
  obtain ⟨e1, ti, e2, e3, e4⟩ := slE_spec hT
  obtain ⟨ti', z, q1, q2, q3⟩ := zrC_spec hZ
  rw [e2] at q1
  obtain rfl := Option.some.inj q1
  obtain ⟨b1, b2⟩ := hbd hp
  have hM' : s.M[i]? = some (.arr e sz n L) := by rw [hfp i (by simp)]; exact hM
  have hj' : s.M[j]? = some .hole := by rw [hfp j (by simp)]; exact hj
  have hij : i ≠ j := fun h => by subst h; rw [hM'] at hj'; cases hj'
  have hjl : j < s.β.length := by rw [hok.len]; exact (List.getElem?_eq_some_iff.1 hj').1
  have hrx := ev_at hp hx (by simp [ho, Op.operands, Call.operands]) hops
  have hry := ev_at hp hy (by simp [ho, Op.operands, Call.operands]) hops
  obtain ⟨hl2, hso⟩ := hsrc s _ hok (fun k hk => hfp k (by simp [hk])) hry
  generalize hv : a.eval x = vx at hrx
  cases hrx with
  | @arr _ ad n' c hβ =>
    have hk : s.w.ownsRow 0 e sz _ n L := hok.blk i _ _ hM' hβ
    obtain ⟨h', w', r1, r2, r3, r4⟩ := run_append_D (P := P) (ty := o.type) (m := m) e1 e2 e3 e4 q2 (by rw [← hZl, ← q3]; simp) hk hl2 hso (fun u hu => List.all_eq_true.1 (h1 hp) u hu) (by unfold maxLen; omega) b1
    have hs' : (h' = .slice none 0 0) ∨ ∃ a n c, h' = .slice (some a) n c := by
      rcases r2.2 with ⟨q, _⟩ | ⟨g, cap, cur, q, _⟩
      · exact .inl q
      · exact .inr ⟨_, _, _, q⟩
    have hs0 : (Value.slice ad n' c = .slice none 0 0) ∨ ∃ a n k, Value.slice ad n' c = .slice (some a) n k := by
      rcases hk.2 with ⟨q, _⟩ | ⟨g, cap, cur, q, _⟩
      · exact .inl q
      · exact .inr ⟨_, _, _, q⟩
    have o1 := hb_own hs'
    have o0 := hb_own hs0
    have hblk : s.w.heap.size ≤ w'.heap.size := r3.size
    have hβj : s.β[j]? = some .nilFunc := by
      have q : s.β[j]? = some s.β[j] := List.getElem?_eq_getElem hjl
      have : s.β[j] = .nilFunc := hok.blk j .hole _ hj' q
      rw [q, this]
    have from_ : ∀ b, hb h' = some b → s.w.heap.size ≤ b ∨ (hb (Value.slice ad n' c) = some b) := by
      intro b hbb
      rw [o1] at hbb
      rcases r4 b hbb with h | h
      · exact .inr (by rw [o0]; exact h)
      · exact .inl h
    have ht : Tr s ⟨s.β.set j h', s.I, (s.M.set i .gone).set j (.arr e sz (n + m) (L ++ L2)), w'⟩ := by
      refine step_set hok j (s.M.set i .gone) h' _ w' (by simp) (fun k kb hkb => ?_) (by rw [← hok.len]; exact hjl) (.inl hβj) (by rcases hs' with rfl | ⟨_, _, _, rfl⟩ <;> simp) r2 (fun b hbb k kb hh hne q1 q2 q3 q4 => ?_) (fun b hbb => (from_ b hbb).imp id fun h => live_of hM' rfl hβ h) (fun b hbb => ?_) (fun b => hb (Value.slice ad n' c) = some b) (fun b hdr => ⟨live_of hM' rfl hβ hdr, fun k kb hh hne q1 q2 q3 q4 => ?_⟩) (fun b hlt hne hnd => ?_) r3.os r3.tape r3.output hblk
      · by_cases hki : i = k
        · subst hki
          have hlt : i < s.M.length := (List.getElem?_eq_some_iff.1 hM').1
          rw [List.getElem?_set_self hlt] at hkb
          exact .inr (Option.some.inj hkb).symm
        · rw [List.getElem?_set_ne hki] at hkb; exact .inl hkb
      · have hki : i ≠ k := fun h => by
          subst h
          have hlt : i < s.M.length := (List.getElem?_eq_some_iff.1 hM').1
          rw [List.getElem?_set_self hlt] at q1
          cases q1; cases q2
        rw [List.getElem?_set_ne hki] at q1
        rcases from_ b hbb with h | h
        · exact absurd (hok.lt b (live_of q1 q2 q3 q4)).1 (Nat.not_lt.2 h)
        · exact hki (hok.inj i k _ kb _ hh b hM' rfl hβ h q1 q2 q3 q4)
      · replace hbb : hb h' = some b := hbb
        rw [o1] at hbb
        exact (r2.lt b hbb).2
      · have hki : i ≠ k := fun h => by
          subst h
          have hlt : i < s.M.length := (List.getElem?_eq_some_iff.1 hM').1
          rw [List.getElem?_set_self hlt] at q1
          cases q1; cases q2
        rw [List.getElem?_set_ne hki] at q1
        exact hki (hok.inj i k _ kb _ hh b hM' rfl hβ hdr q1 q2 q3 q4)
      · exact r3.block b hlt fun h => hnd (by rw [o0]; exact h.symm)
    refine dg_step (s' := ⟨s.β.set j h', s.I, (s.M.set i .gone).set j (.arr e sz (n + m) (L ++ L2)), w'⟩) (run_builtin ho (fun cs => by rfl) (by simpa [hv] using r1)) ht rfl ?_
    rcases hs' with rfl | ⟨_, _, _, rfl⟩
    · exact .arr (by simp [hjl])
    · exact .arr (by simp [hjl])
end
end Go.Proofs.YtaekkjhpdendoaaDoor

namespace Go.Proofs.YtaekkjhpdendoaaDoor
set_option linter.unusedVariables false
set_option linter.unusedSimpArgs false
open Go.RowKit
theorem pr {a b : Bool} (h : (a && b) = true) : b = true := by cases a <;> simp_all
section
variable {P : Program} {fn : Func} {F : Fr} {M : List Blk} {t u v : Tmp} {d d' e f dr : D}
/-- the end of a call that leaves no memory of its own -/
theorem kend0 {pan : D → List Blk → Prop} (hr : ResD P fn F M d) (hv : vw [] allv M d = some d') (h : d' = dr) : DEnd P fn 0 (fun d M => d = dr ∧ M = []) pan [] none F M := .ret hr (σ := []) rfl hv (Mo := []) trivial ⟨h, rfl⟩
theorem kend {m : Nat} {Mo : List Blk} {pan : D → List Blk → Prop} (σ : List Nat) (hr : ResD P fn F M d) (hσ : okσ m σ = true) (hv : vw σ allv M d = some d') (h : d' = dr) (hM : MFits σ allv M σ Mo) : DEnd P fn m (fun d M => d = dr ∧ M = Mo) pan [] none F M := .ret hr hσ hv hM ⟨h, rfl⟩
theorem kpan0 {post : D → List Blk → Prop} (hv : vw [] allv M d = some d') (h : d' = dr) : DEnd P fn 0 post (fun d M => d = dr ∧ M = []) [] (some d) F M := .pan (σ := []) rfl hv (Mo := []) trivial ⟨h, rfl⟩
/-- behind a function that was deferred -/
theorem kdef {m : Nat} {post pan : D → List Blk → Prop} {g : FuncId} {first caps U : List D} {pn pn' : Option D} {M' : List Blk} (h : DTurn P g first caps pn M pn' M') (r : DEnd P fn m post pan U pn' F M') : DEnd P fn m post pan (.fn (.func g) first caps :: U) pn F M := .fn h r
end
section
variable {P : Program} {pc : Bool} {o : Oper} {F : Fr} {M : List Blk}

/-! ### structs built -/
/-- where each field lies, and how many cells it has -/
def fdL (P : Program) (T : TypeId) : Option (List (Nat × Nat)) := match P.underlying T with
  | some (.struct fs) => fs.toList.mapM fun f => (P.info? f.type).map fun i => (f.offset, i.size)
  | _ => none
def fillL (offs : List (Nat × Nat)) : List Value → List (Nat × List Value) → List Value
  | Z, [] => Z
  | Z, (i, C) :: r => fillL offs (setL Z ((offs.getD i (0, 0)).1) C) r
def fillB (offs : List (Nat × Nat)) (n : Nat) : List (Nat × List Value) → Bool
  | [] => true
  | (i, C) :: r => (match offs[i]? with | some (o, s) => C.length == s && Nat.ble (o + s) n | none => false) && fillB offs n r
theorem fill_struct {offs : List (Nat × Nat)} : ∀ (ps : List (Nat × Value)) (Z : Array Value), fillB offs Z.size (ps.map fun p => (p.1, p.2.cells.toList)) = true →
    Instr.fill (fun i => offs.toArray[i]?) Z ps = some (fillL offs Z.toList (ps.map fun p => (p.1, p.2.cells.toList))).toArray
  | [], Z, _ => by simp [Instr.fill, fillL]
  | (i, v) :: r, Z, h => by
    simp only [List.map_cons, fillB, Bool.and_eq_true] at h
    obtain ⟨h1, h2⟩ := h
    cases e : offs[i]? with
    | none => rw [e] at h1; cases h1
    | some q =>
      obtain ⟨off, sz⟩ := q
      rw [e] at h1
      simp only [Bool.and_eq_true, beq_iff_eq, Array.length_toList] at h1
      have hle := Nat.le_of_ble_eq_true h1.2
      have fold : ∀ (C : List Value) (j : Nat) (cs : Array Value), (List.foldl (fun (acc : Array Value) (p : Value × Nat) => acc.setIfInBounds (off + p.2) p.1) cs (C.zipIdx j)).toList = setL cs.toList (off + j) C := by
        intro C
        induction C with
        | nil => intro j cs; rfl
        | cons c C ih => intro j cs; rw [List.zipIdx_cons, List.foldl_cons, ih, setL, Array.toList_setIfInBounds, Nat.add_assoc]
      have hz : (v.cells.zipIdx.foldl (fun (acc : Array Value) (p : Value × Nat) => acc.setIfInBounds (off + p.2) p.1) Z).toList = setL Z.toList off v.cells.toList := by
        have := fold v.cells.toList 0 Z
        rw [Nat.add_zero] at this
        rw [← this, ← Array.foldl_toList]
        congr 1
        simp [Array.toList_zipIdx]
      have hsz : (v.cells.zipIdx.foldl (fun (acc : Array Value) (p : Value × Nat) => acc.setIfInBounds (off + p.2) p.1) Z).size = Z.size := by
        rw [← Array.length_toList, hz, setL_len, Array.length_toList]
      have ih := fill_struct r (v.cells.zipIdx.foldl (fun (acc : Array Value) (p : Value × Nat) => acc.setIfInBounds (off + p.2) p.1) Z) (by rw [hsz]; exact h2)
      rw [Instr.fill]
      have eo : offs.toArray[i]? = some (off, sz) := by simpa using e
      simp only [eo, h1.1, ne_eq, not_true_eq_false, decide_false, Bool.false_or, decide_eq_true_eq]
      rw [if_neg (by simp; rw [← h1.1] at hle; omega)]
      rw [List.map_cons, fillL, List.getD_eq_getElem?_getD, e]
      simp only [Option.getD_some]
      rw [← hz]
      exact ih
theorem mapM_run {α β : Type} {w : World} (f : α → Sem β) (g : α → Option β) (h : ∀ a b, g a = some b → (f a).run P w = .ok b w) : ∀ (l : List α) (r : List β), l.mapM g = some r → (l.mapM f).run P w = .ok r w
  | [], r, hr => by simp at hr; subst hr; rfl
  | a :: l, r, hr => by
    simp only [List.mapM_cons, Option.bind_eq_bind, Option.bind_eq_some_iff] at hr
    obtain ⟨b, h1, r', h2, h3⟩ := hr
    cases h3
    rw [List.mapM_cons, Sem.run_bind, h a b h1, Result.andThen_ok, Sem.run_bind, mapM_run f g h l r' h2, Result.andThen_ok]
    rfl
theorem op_build {T : TypeId} {ps : List (Nat × Operand)} {vs : List Value} {offs : List (Nat × Nat)} {Z R : List Value} (ho : o.op = .build T ps.toArray) (hT : fdL P T = some offs) (hZ : zrC P T = some Z) (hv : EvV pc F (ps.map (·.2)) vs)
    (hB : fillB offs Z.length ((ps.map (·.1)).zip (vs.map fun v => v.cells.toList)) = true) (hR : fillL offs Z ((ps.map (·.1)).zip (vs.map fun v => v.cells.toList)) = R) : DOp P pc o F M [] (.val (.agg R.toArray)) [] := by
  intro hp a s hok hops _
  have hvs : (ps.map (·.2)).map a.eval = vs := evV_eq hp _ _ hv fun x hx => hops x (by rw [ho]; simpa [Op.operands] using hx)
  obtain ⟨i, z, e1, e2, e3⟩ := zrC_spec hZ
  refine dg_val (v := .agg R.toArray) hok ?_ (.val _)
  unfold fdL at hT
  split at hT
  · rename_i fs hu
    have hparts : (ps.toArray.map fun (i, x) => (i, a.eval x)).toList = (ps.map (·.1)).zip vs := by
      rw [← hvs]
      simp only [List.map_toArray]
      clear hv hB hR hvs ho
      induction ps with
      | nil => rfl
      | cons p ps ih => simp only [List.map_cons, List.zip_cons_cons]; rw [← ih]
    have hz : ((ps.map (·.1)).zip vs).map (fun p => (p.1, p.2.cells.toList)) = (ps.map (·.1)).zip (vs.map fun v => v.cells.toList) := by
      rw [List.zip_map_right]
      rfl
    have hpl : (fs.mapM fun f => (do pure (f.offset, ← sizeOf f.type) : Sem (Nat × Nat))).run P s.w = .ok offs.toArray s.w := by
      rw [Array.mapM_eq_mapM_toList, Sem.run_map, mapM_run (P := P) (w := s.w) _ _ (fun f b hb => ?_) fs.toList offs hT]
      · rfl
      · simp only [Option.map_eq_some_iff] at hb
        obtain ⟨j, hj, rfl⟩ := hb
        simp [sizeOf, typeInfo, hj]
    have hf := fill_struct (offs := offs) ((ps.map (·.1)).zip vs) z.cells (by rw [hz, ← Array.length_toList, e3]; exact hB)
    rw [hz, e3, hR] at hf
    unfold execOp
    simp only [ho]
    refine run_v ?_
    have hz0 : (zeroValue T).run P s.w = .ok z s.w := by simp [zeroValue, typeInfo, e1, e2]
    simp only [Instr.build, Sem.run_bind, hz0, run_underlying hu, Result.andThen_ok, hpl, hparts, hf, Sem.run_pure]
  · cases hT
/-- .. with no field named -/
theorem op_build0 {T : TypeId} {offs : List (Nat × Nat)} {Z : List Value} (ho : o.op = .build T #[]) (hT : fdL P T = some offs) (hZ : zrC P T = some Z) : DOp P pc o F M [] (.val (.agg Z.toArray)) [] :=
  op_build (ps := []) (vs := []) ho hT hZ trivial rfl rfl

/-! ### bools and strings -/
theorem op_neb {T T' : TypeId} {x y : Operand} {p q : Bool} (ho : o.op = .binOp .neq T x y T') (hT : P.underlying T = some .bool) (hx : Ev pc F x (.val (.bool p))) (hy : Ev pc F y (.val (.bool q))) : DOp P pc o F M [] (.val (.bool (p != q))) [] :=
  op_nev ho hx hy (fun w => by unfold eqGuard; rfl) fun w => by
    have h : ∀ d, (Op.equalIn (d + 1) T (.bool p) (.bool q)).run P w = .ok (p == q) w := fun d => by simp [Op.equalIn, run_underlying hT]
    show (do pure (Value.bool (!(← Op.equalIn (9999 + 1) T (.bool p) (.bool q)))) : Sem Value).run P w = _
    rw [Sem.run_bind, h 9999]; rfl
theorem op_eqs {T T' : TypeId} {x y : Operand} {p q : ByteArray} (ho : o.op = .binOp .eql T x y T') (hx : Ev pc F x (.val (.string p))) (hy : Ev pc F y (.val (.string q))) : DOp P pc o F M [] (.val (.bool (p.toList == q.toList))) [] :=
  op_eqv ho hx hy (fun w => by unfold eqGuard; rfl) fun w => by simp [binOp, Op.stringOp]
theorem op_nes {T T' : TypeId} {x y : Operand} {p q : ByteArray} (ho : o.op = .binOp .neq T x y T') (hx : Ev pc F x (.val (.string p))) (hy : Ev pc F y (.val (.string q))) : DOp P pc o F M [] (.val (.bool (!(p.toList == q.toList)))) [] :=
  op_nev ho hx hy (fun w => by unfold eqGuard; rfl) fun w => by simp [binOp, Op.stringOp]

/-! ### least, greatest -/
theorem op_min {x y : Operand} {T U : TypeId} {k : IntKind} {p q : Int} (ho : o.op = .call { callee := .builtin .min, args := #[x, y], argTypes := #[T, U] }) (hx : Ev pc F x (.val (.int k p))) (hy : Ev pc F y (.val (.int k q))) : DOp P pc o F M [] (.val (.int k (min p q))) [] := by
  refine op_val2 hx hy (by simp [ho, Op.operands, Call.operands]) fun _ a w e1 e2 => run_builtin ho (fun cs => rfl) ?_
  have : (if q < p then q else p) = min p q := by rw [Int.min_def]; split <;> split <;> omega
  simp [Builtin.min_, e1, e2, Builtin.min2, this]
theorem op_max {x y : Operand} {T U : TypeId} {k : IntKind} {p q : Int} (ho : o.op = .call { callee := .builtin .max, args := #[x, y], argTypes := #[T, U] }) (hx : Ev pc F x (.val (.int k p))) (hy : Ev pc F y (.val (.int k q))) : DOp P pc o F M [] (.val (.int k (max p q))) [] := by
  refine op_val2 hx hy (by simp [ho, Op.operands, Call.operands]) fun _ a w e1 e2 => run_builtin ho (fun cs => rfl) ?_
  have : (if p < q then q else p) = max p q := by rw [Int.max_def]; split <;> split <;> omega
  simp [Builtin.max_, e1, e2, Builtin.max2, this]
end
section
variable {P : Program} {s0 : St} {n : Cx}
/-- a nil slice taken over as an array of its own -/
theorem inv_adopt {F : Fr} {M : List Blk} {a : Act} {w : World} {t : Nat} (e : TypeId) (sz : Nat) (h : Inv s0 n F M a w) (ht : lk F t = some (.val (.slice none 0 0))) : Inv s0 n ((t, .arr M.length) :: F) (M ++ [.arr e sz 0 []]) a w := by
  obtain ⟨h0, s, rfl, rfl, h3, h4, h5, h6⟩ := h
  have t1 := step_hole h3.ok
  have hlen := h3.ok.len
  have hn : (s.M ++ [Blk.hole])[s.M.length]? = some .hole := by simp
  have t2 : Tr ⟨s.β ++ [Value.nilFunc], s.I, s.M ++ [Blk.hole], s.w⟩ ⟨(s.β ++ [Value.nilFunc]).set s.M.length (.slice none 0 0), s.I, (s.M ++ [Blk.hole]).set s.M.length (.arr e sz 0 []), s.w⟩ :=
    tr_new (s := ⟨s.β ++ [Value.nilFunc], s.I, s.M ++ [Blk.hole], s.w⟩) t1.ok (j := s.M.length) hn (.slice none 0 0) (.arr e sz 0 []) s.w (by simp) (fun b hb => by cases hb) (fun b _ => rfl) (fun b hb => by cases hb) (Nat.le_refl _) rfl rfl rfl (World.ownsRow_nil s.w 0 e sz)
  have tt := t1.trans t2
  refine ⟨h0, ⟨(s.β ++ [Value.nilFunc]).set s.M.length (.slice none 0 0), s.I, (s.M ++ [Blk.hole]).set s.M.length (.arr e sz 0 []), s.w⟩, by simp, rfl, h3.trans tt, fun x d hd => ?_, h5, h6.mono h3.ok tt⟩
  rw [lk_cons] at hd
  split at hd
  · rename_i e'
    subst e'
    obtain rfl := Option.some.inj hd
    have := (h4 t _ ht).val_eq
    rw [this]
    exact .arr (by simp [hlen])
  · exact (h4 x d hd).mono h3.ok tt
theorem dwp_adopt {c : Code} {F : Fr} {M M' : List Blk} {K : Cont} (t : Nat) (e : TypeId) (sz : Nat) {m : Nat} (ht : lk F t = some (.val (.slice none 0 0))) (hm : M.length = m) (hM : M ++ [.arr e sz 0 []] = M') (h : dwp P s0 n c ((t, .arr m) :: F) M' K) : dwp P s0 n c F M K := by
  subst hm hM
  exact fun a w hi => h a w (inv_adopt e sz hi ht)
end
end Go.Proofs.YtaekkjhpdendoaaDoor

namespace Go.Proofs.YtaekkjhpdendoaaDoor
set_option linter.unusedVariables false
set_option linter.unusedSimpArgs false
open Go.RowKit
theorem uponIn_mono {G : Fence} {k : Nat} {P : Program} {o : Oper} {a : Act} {K K' : Act → World → Prop} {Q Q' : Exit → Act → World → Prop} (hK : ∀ a w, K a w → K' a w) (hQ : ∀ ch a w, Q (.panic ch) a w → Q' (.panic ch) a w) (hO : LetsOut Q → LetsOut Q') :
    ∀ r, o.uponIn G k P a K Q r → o.uponIn G k P a K' Q' r := by
  intro r h
  cases r with
  | halt x w =>
    cases x with
    | panic v => exact hQ _ _ _ h
    | _ => exact h.elim
  | ok x w =>
    cases x with
    | value v => exact hK _ _ h
    | skip => exact hK _ _ h
    | defer d => exact hK _ _ h
    | enter f args => exact ⟨h.1, h.2.mono (fun e w h => by cases e with | returned v => exact hK _ _ h | panicked ch => exact hQ _ _ _ h | outgrown => exact hO h)⟩
    | row row args => exact ⟨h.1, h.2.mono fun v w => hK _ _⟩
    | round l f tmps asg body => exact ⟨h.1, h.2.mono (fun e w h => by cases e with | returned v => exact hK _ _ h | panicked ch => exact hQ _ _ _ h | outgrown => exact hO h)⟩
    | _ => exact h.elim
theorem wpListIn_app {G : Fence} {k : Nat} {P : Program} {ops : Array Oper} {Q Q' : Exit → Act → World → Prop} {l2 : List Oper} (hn : ∀ a w, Q' .normal a w → wpListIn G k P ops Q l2 a w) (hp : ∀ ch a w, Q' (.panic ch) a w → Q (.panic ch) a w) (hO : ∀ a w, ¬ Q' .outgrown a w) :
    ∀ (l1 : List Oper) (a : Act) (w : World), wpListIn G k P ops Q' l1 a w → wpListIn G k P ops Q (l1 ++ l2) a w
  | [], a, w, h => hn a w h
  | o :: l1, a, w, h => by
    unfold wpListIn at h
    show if Region.wanted o (yielded ops a.tmps) then _ else _
    split at h
    · rename_i hw
      rw [if_pos hw]
      exact ⟨h.1, uponIn_mono (fun a w => wpListIn_app hn hp hO l1 a w) (fun ch a w h => hp ch a w h) (fun ⟨a, w, h⟩ => (hO a w h).elim) _ h.2⟩
    · rename_i hw
      rw [if_neg hw]
      exact ⟨h.1, wpListIn_app hn hp hO l1 _ _ h.2⟩
theorem run_defer {P : Program} {o : Oper} {a : Act} {x : Operand} {g : FuncId} {v1 v2 : Array Value} {w : World} (ho : o.op = .defer { callee := .value x, args := #[], argTypes := #[] }) (hx : a.eval x = .func (.func g) v1 v2) :
    (o.semAt none a.eval).run P w = .ok (.defer { target := .fn (.func g) v2, args := v1 }) w := by
  rw [Oper.semAt_none]
  unfold execOp
  simp only [ho, resolve, hx, Deferred.ofValue]
  simp [pure, bind, Sem.bind, Sem.run]
section
variable {P : Program} {s0 : St} {n : Cx}
/-- up to a function that is deferred -/
theorem dbody_defer {fn : Func} {id : Nat} {l l0 : List Oper} {o : Oper} {y : Code} {x : Operand} {F : Fr} {M : List Blk} {m : Nat} {post pan : D → List Blk → Prop} (hl : l = l0 ++ [o]) (ho : o.op = .defer { callee := .value x, args := #[], argTypes := #[] }) (hg : o.guard = none) (hdst : o.dst = none) (hr : n.r = none) (hle : s0.M.length ≤ m)
    (h : Walk P s0 n l.toArray l0 F M (Kseq (fun F1 M1 => ∃ f first caps k', Ev true F1 x (.fn (.func f) first caps) ∧ s0.M.length ≤ k' ∧ D.ltL k' (.fn (.func f) first caps :: n.U) = true ∧ dbody P s0 ⟨n.n, none, k', .fn (.func f) first caps :: n.U, n.mks⟩ fn m post pan y F1 M1) (Kret P fn m n.U post pan))) :
    dbody P s0 n fn m post pan (.seq (.region id l.toArray false) y) F M := by
  intro a w hi
  have h1 := h a w hi
  have hρ : n.ρ s0 = none := by unfold Cx.ρ; rw [hr]
  rw [hρ] at h1
  refine wpIn_seq (wpIn_region_lit ?_)
  have key := wpListIn_app (G := wd none) (k := 0) (P := P) (ops := l.toArray) (Q := Exit.then (fun a w => y.wpIn Fence.wide 0 P (bodyPostM Fence.wide 0 P fn (Lv s0 post pan)) a w) (bodyPostM Fence.wide 0 P fn (Lv s0 post pan))) (l2 := [o]) ?_ ?_ ?_ l0 a w h1
  · rw [← hl] at key; exact key
  · intro a w hp
    obtain ⟨F1, M1, ⟨h0, s1, q1, q2, q3, q4, q5, q6⟩, f, first, caps, k', ⟨d', e1, e2⟩, hk, hlt, hy⟩ := hp
    subst q1 q2
    have hrep := e2 s1 _ rfl (ev_rep q4 e1)
    generalize hvx : a.eval x = vx at hrep
    cases hrep with
    | @fn _ _ _ vs us hl1 hl2 hr1 hr2 =>
      show if Region.wanted o (yielded l.toArray a.tmps) then _ else _
      have hw : Region.wanted o (yielded l.toArray a.tmps) = true := by unfold Region.wanted; rw [hg]
      rw [if_pos hw]
      refine ⟨fun _ _ => trivial, ?_⟩
      rw [show (wd none).round = none from rfl, run_defer ho hvx]
      rw [Oper.uponIn_defer, hdst]
      exact hy _ _ ⟨h0, s1, rfl, rfl, q3, q4, q5, .fn (.fn hl1 hl2 hr1 hr2) q6⟩
  · intro ch a w hp
    obtain ⟨F, M, d, ⟨h0, s1, v, q1, q2, q3, q4, q5, q6, q7, q8⟩, hk⟩ := hp
    subst q1 q2 q7
    exact leaves h0 hle a _ _ (some d) _ _ _ q6 q3 q4 ⟨v, rfl, q8⟩ hk
  · intro a w hp
    exact hp
end
theorem run_recover {P : Program} {o : Oper} {a : Act} {w : World} (ho : o.op = .call { callee := .builtin .recover, args := #[], argTypes := #[] }) : (execOp a.eval o).run P w = .ok .recover w := by
  unfold execOp
  simp only [ho, resolve]
  simp [go_sem, invoke, builtin]
/-- what recover hands back to a function that was deferred, and the mode that it leaves -/
def recV (u : FrameMode) : Value × FrameMode :=
  match u with
  | .panicking ({ v, recovered := false, goexit := false } :: older) => (v, .panicking ({ v, recovered := true } :: older))
  | _ => (.nilIface, u)
theorem recD (c0 : Frame) (cs : List Frame) : (recoverD (c0 :: cs) = none ∧ (recV c0.mode).1 = .nilIface ∧ (recV c0.mode).2 = c0.mode) ∨ recoverD (c0 :: cs) = some ((recV c0.mode).1, { c0 with mode := (recV c0.mode).2 } :: cs) := by
  unfold recoverD
  cases hm : c0.mode with
  | run => exact .inl ⟨by simp [hm], rfl, rfl⟩
  | returning => exact .inl ⟨by simp [hm], rfl, rfl⟩
  | panicking chain =>
    cases chain with
    | nil => exact .inl ⟨by simp [hm], rfl, rfl⟩
    | cons e older =>
      obtain ⟨v, r, g⟩ := e
      cases r with
      | true => exact .inl ⟨by simp [hm], rfl, rfl⟩
      | false =>
        cases g with
        | true => exact .inl ⟨by simp [hm], rfl, rfl⟩
        | false => exact .inr (by simp [hm, recV])
theorem step_rec {P : Program} {b : Frame} {a : Act} {k : List Item} {c0 : Frame} {cs : List Frame} {w : World} {ops : Array Oper} {i : Nat} {rest : List Nat} {o : Oper} (hk : b.kind = .deferred) (hro : b.roundOf = none) (hi : ops[i]? = some o) (hg : o.guard = none)
    (ho : o.op = .call { callee := .builtin .recover, args := #[], argTypes := #[] }) :
    step P (lone (b.atR a (.inRegion ops (i :: rest) :: k)) (c0 :: cs) w) = .next (lone (b.atR (a.put o.dst (recV c0.mode).1) (.inRegion ops rest :: k)) ({ c0 with mode := (recV c0.mode).2 } :: cs) w) := by
  have hw : Region.wanted o (yielded ops a.tmps) = true := by unfold Region.wanted; rw [hg]
  have hfin : ∀ v, (b.atR a (.inRegion ops (i :: rest) :: k)).finish v = b.atR (a.put o.dst v) (.inRegion ops rest :: k) := by
    intro v; rw [Frame.finish_atR, hi]; rfl
  have hgr := stepGR_op (P := P) (b := b) (a := a) (k := k) (cs := c0 :: cs) (w := w) (rest := rest) hi hw
  rw [hro, Oper.semAt_none] at hgr
  have hr := run_recover (P := P) (a := a) (w := w) ho
  refine step_lone_go ?_
  rw [hgr, ← hfin]
  have htr := tryRecover_deferred (fr := b.atR a (.inRegion ops (i :: rest) :: k)) hk (c0 :: cs)
  simp only [Frame.atR, hro] at htr ⊢
  rcases recD c0 cs with ⟨hrec, h1, h2⟩ | hrec
  · rw [h1, h2]
    simp [stepG.apply, hr, htr, hrec]
  · generalize recV c0.mode = x at hrec
    simp [stepG.apply, hr, htr, hrec]
section
variable {P : Program}
/-- what recover hands back, as data -/
def recD' : Option D → D
  | none => .val .nilIface
  | some d => d
theorem recV_mode {s : St} {pn : Option D} {u : FrameMode} (h : ModeOk s pn u) : Rep s (recD' pn) (recV u).1 ∧ settle (recV u).2 = .returning := by
  cases pn with
  | none => obtain rfl : u = .returning := h; exact ⟨.val _, rfl⟩
  | some d => obtain ⟨v, rfl, hr⟩ := h; exact ⟨hr, rfl⟩
theorem range_cons {o : Oper} {l : List Oper} : List.range (o :: l).toArray.size = 0 :: List.range' 1 l.length := by simp [List.range_eq_range', List.range'_succ]
theorem ddef_fin {f : FuncId} {fn : Func} {N m : Nat} {s : St} {dr : D} {Mout : List Blk} {b : Frame} {m0 : Machine} {c0 : Frame} {cs : List Frame} {e : Exit} {a : Act} {w : World} (hok : Ok s) (hle : s.M.length ≤ m) (hf : P.funcs[f]? = some fn) (hbf : b.fn = f) (hbk : b.kind = .deferred) (hro : b.roundOf = none)
    (hset : settle (recV c0.mode).2 = .returning) (hq : PostK s ⟨N, none, m, [], false⟩ (Kret P fn m [] (fun d M => d = dr ∧ M = Mout) (fun _ _ => False)) e a w)
    (harr : ArrivesIn (Machine.fenced P Fence.wide) P m0 b [] ({ c0 with mode := (recV c0.mode).2 } :: cs) e a w) :
    ∃ e u' w' fr, (∃ s' v, e = .returned v ∧ s'.w = w' ∧ Tr s s' ∧ s'.M = Mout ∧ ModeOk s' none (settle u')) ∧
      ComesIn (Machine.fenced P Fence.wide) P m0 (lone fr ({ c0 with mode := u' } :: cs) w') e ∧ fr.kind = .deferred ∧ fr.fn = f ∧ fr.going P w' e := by
  have no_marks : ∀ {s1 : St} {ds : List Deferred}, DfOk s s1 false [] ds → ds = [] := fun h => by
    cases h with
    | nil => rfl
    | mark hmk => cases hmk
  have fin : (e = .normal ∨ e = .ret) → (∃ F M, Inv s ⟨N, none, m, [], false⟩ F M a w ∧ DEnd P fn m (fun d M => d = dr ∧ M = Mout) (fun _ _ => False) [] none F M) → a.defers = [] ∧ ∃ v s', (results fn a.tmps).run P w = .ok v w ∧ s'.w = w ∧ Tr s s' ∧ s'.M = Mout := by
    rintro _ ⟨F, M, ⟨h0, s1, rfl, rfl, q3, q4, q5, q6⟩, hk⟩
    cases hk with
    | @ret _ _ Mo _ _ σ hr hσ hv hM hp =>
      obtain ⟨v, h1, h2⟩ := hr s1 a q3.ok rfl q4
      obtain ⟨rfl, rfl⟩ := hp
      exact ⟨no_marks q6, v, vst s1 σ allv Mo, h1, rfl, tr_vst hok q3 (mfits _ _ hM) hle hσ, rfl⟩
  cases e with
  | normal =>
    obtain ⟨hd, v, s', h1, h2, h3, h4⟩ := fin (.inl rfl) hq
    refine ⟨.returned v, (recV c0.mode).2, w, { b.atR a [] with mode := .returning }, ⟨s', v, rfl, h2, h3, h4, hset⟩, StepsIn.trans harr (.one (fenced_wide _ _) (stepR_end hro)), hbk, hbf, rfl, hd, fn, ?_, h1⟩
    show P.funcs[b.fn]? = some fn
    rw [hbf]; exact hf
  | ret =>
    obtain ⟨hd, v, s', h1, h2, h3, h4⟩ := fin (.inr rfl) hq
    obtain ⟨todo, hs⟩ := harr.1 hro
    refine ⟨.returned v, (recV c0.mode).2, w, { b.atR a todo with mode := .returning }, ⟨s', v, rfl, h2, h3, h4, hset⟩, hs, hbk, hbf, rfl, hd, fn, ?_, h1⟩
    show P.funcs[b.fn]? = some fn
    rw [hbf]; exact hf
  | panic ch => obtain ⟨F, M, d, _, hk⟩ := hq; cases hk with | pan _ _ _ hp => exact hp.elim
  | exit id => obtain ⟨_, _, _, hk⟩ := hq; exact hk.elim
  | goto l => obtain ⟨_, _, _, hk⟩ := hq; exact hk.elim
  | outgrown => exact hq.elim
/-- a function that is deferred, and recovers as its first deed -/
theorem ddef_set {fn : Func} {o : Oper} {l : List Oper} {args : List D} {Min : List Blk} {pn : Option D} {N t m : Nat} {s : St} {vs : List Value} {c0 : Frame} {K : Cont} (hn : fn.ntmps = N) (hle : Nat.ble args.length N = true) (hm : Min.length = m)
    (hd : o.dst = some t) (ht : Nat.blt t N = true) (hok : Ok s) (hM : s.M = Min) (hr : Reps s args vs) (hmode : ModeOk s pn c0.mode)
    (h : Walk P s ⟨N, none, m, [], false⟩ (o :: l).toArray l ((t, recD' pn) :: fr0 0 args) Min K) :
    wpOpsIn (wd none) 0 P (o :: l).toArray (PostK s ⟨N, none, m, [], false⟩ K) (List.range' 1 l.length) (Act.put { tmps := vs.toArray ++ Array.replicate (fn.ntmps - vs.toArray.size) undef, defers := [] } o.dst (recV c0.mode).1) s.w := by
  subst hm
  obtain ⟨hl, hr⟩ := hr
  have hle := Nat.le_of_ble_eq_true hle
  generalize ha : ({ tmps := vs.toArray ++ Array.replicate (fn.ntmps - vs.toArray.size) undef, defers := [] } : Act) = a0
  have hsize : a0.tmps.size = N := by subst ha; simp; omega
  have hslot : ∀ t d, lk (fr0 0 args) t = some d → Rep s d (slot a0 t) := by
    intro t d hd
    obtain ⟨_, h2⟩ := fr0_lk args 0 t d hd
    simp only [Nat.sub_zero] at h2
    have hlt : t < args.length := (List.getElem?_eq_some_iff.1 h2).1
    have hv : vs[t]? = some vs[t] := List.getElem?_eq_getElem (by omega)
    have : slot a0 t = vs[t] := by
      subst ha
      unfold slot
      simp only [Array.getD_eq_getD_getElem?]
      rw [Array.getElem?_append_left (by simp; omega)]
      simp [show t < vs.length by omega]
    rw [this]
    exact hr t d _ h2 hv
  obtain ⟨hrec, hset⟩ := recV_mode hmode
  have hsetup : Inv s ⟨N, none, Min.length, [], false⟩ ((t, recD' pn) :: fr0 0 args) Min (a0.put o.dst (recV c0.mode).1) s.w := by
    refine ⟨hok, s, hM, rfl, Tr.refl hok, ?_, by rw [put_size]; exact hsize, ?_⟩
    · rw [hd]
      exact FOk.put (s := s) (F := fr0 0 args) hslot (by rw [hsize]; exact Nat.blt_eq.mp ht) hrec
    · rw [put_def, ← ha]; exact .nil
  have hw := h _ _ hsetup
  rw [wpOpsIn_eq_wpListIn l 1 (by intro j; simp [Nat.add_comm 1 j])]
  exact hw
theorem ddef_go {f : FuncId} {fn : Func} {id : Nat} {o : Oper} {l : List Oper} {y : Code} {args : List D} {F0 : Fr} {Min Mout : List Blk} {pn : Option D} {dr : D} {N t : Nat} (m : Nat) (hcb : callB P f = true) (hf : P.funcs[f]? = some fn)
    (hc : fn.body = some (.seq (.region id (o :: l).toArray false) y)) (hn : fn.ntmps = N) (hle : Nat.ble args.length N = true) (hF : fr0 0 args = F0) (hm : Min.length = m)
    (ho : o.op = .call { callee := .builtin .recover, args := #[], argTypes := #[] }) (hg : o.guard = none) (hd : o.dst = some t) (ht : Nat.blt t N = true)
    (h : ∀ s0 : St, s0.M.length ≤ m → Walk P s0 ⟨N, none, m, [], false⟩ (o :: l).toArray l ((t, recD' pn) :: F0) Min (Kseq (fun F M => dwp P s0 ⟨N, none, m, [], false⟩ y F M (Kret P fn m [] (fun d M => d = dr ∧ M = Mout) (fun _ _ => False))) (Kret P fn m [] (fun d M => d = dr ∧ M = Mout) (fun _ _ => False)))) :
    DDef P f args Min pn none Mout := by
  subst hF
  refine ⟨hcb, fun s vs u hok hM hr hmode => ⟨trivial, fun c0 cs hu hroom => ?_⟩⟩
  subst hu
  have hlen : s.M.length ≤ m := by rw [hM, hm]; exact Nat.le_refl _
  have hops := ddef_set hn hle hm hd ht hok hM hr hmode (h s hlen)
  let b : Frame := { (default : Frame) with fn := f, kind := .deferred, roundOf := none }
  have henter : Frame.enter P f vs.toArray .deferred = b.atR { tmps := vs.toArray ++ Array.replicate (fn.ntmps - vs.toArray.size) undef, defers := [] } [.code (.seq (.region id (o :: l).toArray false) y)] := by
    simp [Frame.enter, Frame.atR, hf, hc, b]
  obtain ⟨e, a', w', hq, harr⟩ := wp_opsIn _ _ _ hops b [.code y] ({ c0 with mode := (recV c0.mode).2 } :: cs) rfl trivial (wd_room _ _)
  rw [henter]
  have pre : StepsIn (Machine.fenced P Fence.wide) P (lone (b.atR { tmps := vs.toArray ++ Array.replicate (fn.ntmps - vs.toArray.size) undef, defers := [] } [.code (.seq (.region id (o :: l).toArray false) y)]) (c0 :: cs) s.w)
      (lone (b.atR (Act.put { tmps := vs.toArray ++ Array.replicate (fn.ntmps - vs.toArray.size) undef, defers := [] } o.dst (recV c0.mode).1) (.inRegion (o :: l).toArray (List.range' 1 l.length) :: [.code y])) ({ c0 with mode := (recV c0.mode).2 } :: cs) s.w) := by
    refine .head (fenced_wide _ _) stepR_seq (.head (fenced_wide _ _) stepR_region (.one (fenced_wide _ _) ?_))
    have := step_rec (P := P) (b := b) (a := { tmps := vs.toArray ++ Array.replicate (fn.ntmps - vs.toArray.size) undef, defers := [] }) (k := [.code y]) (c0 := c0) (cs := cs) (w := s.w) (ops := (o :: l).toArray) (i := 0) (rest := List.range' 1 l.length) (o := o) rfl rfl rfl hg ho
    rw [range_cons]
    exact this
  have other : ∀ e : Exit, e ≠ .normal → PostK s ⟨N, none, m, [], false⟩ (Kseq (fun F M => dwp P s ⟨N, none, m, [], false⟩ y F M (Kret P fn m [] (fun d M => d = dr ∧ M = Mout) (fun _ _ => False))) (Kret P fn m [] (fun d M => d = dr ∧ M = Mout) (fun _ _ => False))) e a' w' →
      PostK s ⟨N, none, m, [], false⟩ (Kret P fn m [] (fun d M => d = dr ∧ M = Mout) (fun _ _ => False)) e a' w' := by
    intro e he hq
    cases e with
    | normal => exact absurd rfl he
    | exit id => exact hq
    | goto l => exact hq
    | ret => exact hq
    | panic ch => exact hq
    | outgrown => exact hq
  by_cases he : e = .normal
  · subst he
    obtain ⟨F, M, hi, hk⟩ := hq
    obtain ⟨e2, a2, w2, hq2, harr2⟩ := hk a' w' hi b [] ({ c0 with mode := (recV c0.mode).2 } :: cs) rfl trivial (wd_room _ _)
    exact ddef_fin (P := P) (b := b) hok hlen hf rfl rfl rfl (recV_mode hmode).2 hq2 (ArrivesIn.of_steps (StepsIn.trans pre harr) harr2)
  · exact ddef_fin (P := P) (b := b) hok hlen hf rfl rfl rfl (recV_mode hmode).2 (other e he hq) (ArrivesIn.of_steps pre (.pass (x := .code y) rfl (fun _ _ => .inl he) harr))
theorem fn_pre {s : St} {σ : List Nat} {V : Nat → Bool} {Min : List Blk} {f : Fn} {d1 d2 cargs : List D} {vs us : List Value} (hok : Ok s) (hr : Rep s (.fn f d1 d2) (.func f vs.toArray us.toArray)) (hc : vwL σ V s.M (d1 ++ d2) = some cargs) : Reps (vst s σ V Min) cargs (vs ++ us) := by
  generalize hvs : vs.toArray = va at hr
  generalize hus : us.toArray = ua at hr
  cases hr with
  | @fn _ _ _ vs' us' hl1 hl2 hr1 hr2 =>
    have e1 : vs' = vs := by simpa using congrArg Array.toList hvs.symm
    have e2 : us' = us := by simpa using congrArg Array.toList hus.symm
    subst e1 e2
    have hall : Reps s (d1 ++ d2) (vs' ++ us') := by
      refine ⟨by simp [hl1, hl2], fun j e v hj hv => ?_⟩
      by_cases h1 : j < d1.length
      · rw [List.getElem?_append_left h1] at hj
        rw [List.getElem?_append_left (by omega)] at hv
        exact hr1 j e v hj hv
      · rw [List.getElem?_append_right (by omega)] at hj
        rw [List.getElem?_append_right (by omega), hl1] at hv
        exact hr2 _ e v hj hv
    obtain ⟨g1, g2⟩ := vwL_spec _ _ hc
    refine ⟨by rw [hall.1, g1], fun j e v hj hv => ?_⟩
    obtain ⟨y, hy, hy2⟩ := g2 j e hj
    exact vw_rep hok (hall.2 j y v hy hv) e hy2
/-- the turn of a function that was deferred, where its closure stands -/
theorem dturn_idle {f : FuncId} {first caps cargs : List D} {M Min Mout M' : List Blk} {wr : List (Nat × Blk)} (σ ν : List Nat) (hc : vwL σ nov M (first ++ caps) = some cargs) (hMin : vwMs σ nov M σ = some Min) (hf : DDef P f cargs Min none none Mout)
    (hlive : Min.all (·.live) = true) (hn : decide (σ ++ ν).Nodup = true) (hν : ν.all (fun i => match M[i]? with | some .hole => true | _ => false) = true) (hwr : wrOf (σ ++ ν) (σ ++ ν) Mout = some wr) (hM' : upd M wr = M') : DTurn P f first caps none M none M' := by
  subst hM'
  refine ⟨hf.1, fun s vs us u hok hM hrep hmode => ?_⟩
  subst hM
  have hn' : (σ ++ ν).Nodup := of_decide_eq_true hn
  have hcr : Reps (vst s σ nov Min) cargs (vs ++ us) := by
    exact fn_pre hok hrep hc
  refine CallsDIn.mono (hf.2 (vst s σ nov Min) (vs ++ us) u (ok_vst hok hMin (List.nodup_append.1 hn').1) rfl hcr hmode) ?_
  rintro e u' w' ⟨s2, v, rfl, rfl, ht, hM2, hm⟩
  have hν' : ∀ i ∈ ν, s.M[i]? = some .hole := fun i hi => by
    have h1 := List.all_eq_true.1 hν i hi
    split at h1
    · rename_i h2; exact h2
    · cases h1
  obtain ⟨q1, _⟩ := call_back (M3 := upd s.M wr) hok hMin hlive hn' hν' ht hM2 hwr rfl fun ⟨i, h⟩ => by cases h
  exact ⟨back s s2 σ nov ν (upd s.M wr), v, rfl, rfl, q1, rfl, hm⟩
theorem dturn_caught {f : FuncId} {first caps cargs : List D} {M Min Mout M' : List Blk} {wr : List (Nat × Blk)} {d d0 : D} (σ ν : List Nat) (hc : vwL σ nov M (first ++ caps) = some cargs) (hMin : vwMs σ nov M σ = some Min) (hd : vw σ nov M d = some d0) (hf : DDef P f cargs Min (some d0) none Mout)
    (hlive : Min.all (·.live) = true) (hn : decide (σ ++ ν).Nodup = true) (hν : ν.all (fun i => match M[i]? with | some .hole => true | _ => false) = true) (hwr : wrOf (σ ++ ν) (σ ++ ν) Mout = some wr) (hM' : upd M wr = M') : DTurn P f first caps (some d) M none M' := by
  subst hM'
  refine ⟨hf.1, fun s vs us u hok hM hrep hmode => ?_⟩
  subst hM
  have hn' : (σ ++ ν).Nodup := of_decide_eq_true hn
  have hcr : Reps (vst s σ nov Min) cargs (vs ++ us) := by
    exact fn_pre hok hrep hc
  obtain ⟨v, rfl, hv⟩ := hmode
  refine CallsDIn.mono (hf.2 (vst s σ nov Min) (vs ++ us) _ (ok_vst hok hMin (List.nodup_append.1 hn').1) rfl hcr ⟨v, rfl, vw_rep hok hv d0 hd⟩) ?_
  rintro e u' w' ⟨s2, v', rfl, rfl, ht, hM2, hm⟩
  have hν' : ∀ i ∈ ν, s.M[i]? = some .hole := fun i hi => by
    have h1 := List.all_eq_true.1 hν i hi
    split at h1
    · rename_i h2; exact h2
    · cases h1
  obtain ⟨q1, _⟩ := call_back (M3 := upd s.M wr) hok hMin hlive hn' hν' ht hM2 hwr rfl fun ⟨i, h⟩ => by cases h
  exact ⟨back s s2 σ nov ν (upd s.M wr), v', rfl, rfl, q1, rfl, hm⟩

/-! ### results, in slots and in cells -/
def rv (tmps : Array Value) : ResultVar → Sem Value
  | .tmp t => pure (tmps.getD t undef)
  | .cell p t => do loadVar t (← asAddr (tmps.getD p undef))
def RvD (P : Program) (r : ResultVar) (F : Fr) (M : List Blk) (d : D) : Prop := ∀ (s : St) (a : Act), Ok s → s.M = M → FOk s F a → ∃ v, (rv a.tmps r).run P s.w = .ok v s.w ∧ Rep s d v
theorem results_rv (fn : Func) (tmps : Array Value) : results fn tmps = (do let vs ← fn.results.mapM (rv tmps); pure (if h : vs.size = 1 then vs[0] else .tuple vs)) := by
  unfold results
  congr 1
section
variable {fn : Func} {F : Fr} {M : List Blk} {r1 r2 r3 r4 : ResultVar} {d1 d2 d3 d4 d : D}
theorem rs1 (h : fn.results = #[r1]) (h1 : RvD P r1 F M d1) : ResD P fn F M d1 := fun s a ho hM hF => by
  obtain ⟨v1, e1, q1⟩ := h1 s a ho hM hF
  refine ⟨v1, ?_, q1⟩
  rw [results_rv, h]; simp [Sem.run_bind, e1]
theorem rs2 (h : fn.results = #[r1, r2]) (h1 : RvD P r1 F M d1) (h2 : RvD P r2 F M d2) : ResD P fn F M (.tup [d1, d2]) := fun s a ho hM hF => by
  obtain ⟨v1, e1, q1⟩ := h1 s a ho hM hF
  obtain ⟨v2, e2, q2⟩ := h2 s a ho hM hF
  refine ⟨.tuple #[v1, v2], ?_, Rep.tup (vs := [v1, v2]) rfl fun j x y hj hy => ?_⟩
  · rw [results_rv, h]; simp [Sem.run_bind, e1, e2]
  · match j with
    | 0 => simp at hj hy; subst hj; subst hy; exact q1
    | 1 => simp at hj hy; subst hj; subst hy; exact q2
    | j + 2 => simp at hj
theorem rs3 (h : fn.results = #[r1, r2, r3]) (h1 : RvD P r1 F M d1) (h2 : RvD P r2 F M d2) (h3 : RvD P r3 F M d3) : ResD P fn F M (.tup [d1, d2, d3]) := fun s a ho hM hF => by
  obtain ⟨v1, e1, q1⟩ := h1 s a ho hM hF
  obtain ⟨v2, e2, q2⟩ := h2 s a ho hM hF
  obtain ⟨v3, e3, q3⟩ := h3 s a ho hM hF
  refine ⟨.tuple #[v1, v2, v3], ?_, Rep.tup (vs := [v1, v2, v3]) rfl fun j x y hj hy => ?_⟩
  · rw [results_rv, h]; simp [Sem.run_bind, e1, e2, e3]
  · match j with
    | 0 => simp at hj hy; subst hj; subst hy; exact q1
    | 1 => simp at hj hy; subst hj; subst hy; exact q2
    | 2 => simp at hj hy; subst hj; subst hy; exact q3
    | j + 3 => simp at hj
theorem rv_t {t : Tmp} (h : lk F t = some d) : RvD P (.tmp t) F M d := fun s a _ _ hF => ⟨_, rfl, hF t d h⟩
/-- a whole struct, or array -/
theorem rv_w {p : Tmp} {T T' : TypeId} {i k : Nat} {L : List Value} (hT : tyB P T = some (true, k)) (h : lk F p = some (.loc i 0)) (hM : M[i]? = some (.flat T' L)) (hl : L.length = k) : RvD P (.cell p T) F M (.val (.agg L.toArray)) := fun s a ho hMs hF => by
  subst hMs
  have hv := hF p _ h
  generalize hvx : slot a p = vx at hv
  cases hv with
  | @loc _ _ b hb =>
    obtain ⟨b', e1, e2⟩ := ho.blk i _ _ hM hb
    cases e1
    obtain ⟨dd, ii, h1, h2, h3, h4⟩ := tyB_spec hT
    refine ⟨_, ?_, .val _⟩
    have hvx' : a.tmps.getD p undef = .pointer (some ⟨b, 0, none⟩) := hvx
    simp only [rv, hvx']
    simp only [asAddr, Sem.run_bind, Sem.run_pure, Result.andThen_ok]
    exact run_loadVar_row s.w b T' T L.toArray (0, 0) dd e2 h1 (by cases dd <;> simp_all [TypeDesc.isRow]) (by simp [h2, h4, hl])
/-- one cell -/
theorem rv_1 {p : Tmp} {T T' : TypeId} {i k : Nat} {v : Value} {L : List Value} (hT : tyB P T = some (false, k)) (h : lk F p = some (.loc i 0)) (hM : M[i]? = some (.flat T' L)) (hl : L[0]? = some v) : RvD P (.cell p T) F M (.val v) := fun s a ho hMs hF => by
  subst hMs
  have hv := hF p _ h
  generalize hvx : slot a p = vx at hv
  cases hv with
  | @loc _ _ b hb =>
    obtain ⟨b', e1, e2⟩ := ho.blk i _ _ hM hb
    cases e1
    obtain ⟨dd, ii, h1, h2, h3, h4⟩ := tyB_spec hT
    refine ⟨v, ?_, .val _⟩
    have hvx' : a.tmps.getD p undef = .pointer (some ⟨b, 0, none⟩) := hvx
    have hc : s.w.cell? ⟨b, 0, none⟩ = some v := by rw [cell_of_row s.w b 0 L.toArray T' (0, 0) e2]; simpa using hl
    have hagg : (isAgg T).run P s.w = .ok false s.w := by
      unfold isAgg
      rw [Sem.run_bind, run_underlying h1]
      cases dd <;> simp_all [TypeDesc.isRow]
    simp only [rv, hvx']
    simp [asAddr, loadVar, Sem.run_bind, hagg, load, Sem.run, hc]
end

/-! ### interfaces, panics -/
section
variable {pc : Bool} {o : Oper} {F : Fr} {M : List Blk}
/-- a concrete type -/
def niF (P : Program) (T : TypeId) : Bool := match P.underlying T with
  | some (.interface _) => false
  | some _ => true
  | none => false
def zrV (P : Program) (T : TypeId) : Option Value := (P.info? T).bind (·.zero)
theorem op_mi {T : TypeId} {x : Operand} {d : D} (ho : o.op = .makeInterface T x) (hT : niF P T = true) (hx : Ev pc F x d) : DOp P pc o F M [] (.ifc T d) [] := by
  intro hp a s hok hops _
  have h1 := ev_at hp hx (by simp [ho, Op.operands]) hops
  refine dg_val (v := .iface T (a.eval x)) hok ?_ (.ifc h1)
  unfold execOp
  simp only [ho]
  refine run_v ?_
  unfold niF at hT
  unfold Instr.makeInterface
  split at hT
  · cases hT
  · rename_i dd hne hu
    rw [Sem.run_bind, run_underlying hu]
    simp only [Result.andThen_ok]
    cases dd <;> simp_all
  · cases hT
theorem op_tay {T X : TypeId} {x : Operand} {d : D} (ho : o.op = .typeAssert x X T true) (hT : niF P T = true) (hx : Ev pc F x (.ifc T d)) : DOp P pc o F M [] (.tup [d, .val (.bool true)]) [] := by
  intro hp a s hok hops _
  have h1 := ev_at hp hx (by simp [ho, Op.operands]) hops
  generalize hv : a.eval x = v at h1
  cases h1 with
  | @ifc _ _ u h1 =>
    refine dg_val (v := .tuple #[u, .bool true]) hok ?_ (Rep.tup (vs := [u, .bool true]) rfl fun j y z hj hz => ?_)
    · unfold execOp
      simp only [ho]
      refine run_v ?_
      unfold niF at hT
      unfold Instr.typeAssert
      split at hT
      · cases hT
      · rename_i dd hne hu
        rw [Sem.run_bind, run_underlying hu]
        simp only [Result.andThen_ok, hv]
        split <;> simp_all
      · cases hT
    · match j with
      | 0 => simp at hj hz; subst hj; subst hz; exact h1
      | 1 => simp at hj hz; subst hj; subst hz; exact .val _
      | j + 2 => simp at hj
theorem op_tan {T X : TypeId} {x : Operand} {z : Value} (ho : o.op = .typeAssert x X T true) (hT : niF P T = true) (hz : zrV P T = some z) (hx : Ev pc F x (.val .nilIface)) : DOp P pc o F M [] (.tup [.val z, .val (.bool false)]) [] := by
  intro hp a s hok hops _
  have h1 := (ev_at hp hx (by simp [ho, Op.operands]) hops).val_eq
  refine dg_val (v := .tuple #[z, .bool false]) hok ?_ (Rep.tup (vs := [z, .bool false]) rfl fun j y q hj hq => ?_)
  · unfold execOp
    simp only [ho]
    refine run_v ?_
    unfold niF at hT
    unfold Instr.typeAssert
    have hzr : (zeroValue T).run P s.w = .ok z s.w := by
      unfold zrV at hz
      obtain ⟨i, hi, hz⟩ := Option.bind_eq_some_iff.1 hz
      simp [zeroValue, typeInfo, hi, hz]
    split at hT
    · cases hT
    · rename_i dd hne hu
      rw [Sem.run_bind, run_underlying hu]
      simp only [Result.andThen_ok, h1]
      split <;> simp_all
    · cases hT
  · match j with
    | 0 => simp at hj hq; subst hj; subst hq; exact .val _
    | 1 => simp at hj hq; subst hj; subst hq; exact .val _
    | j + 2 => simp at hj
theorem op_pan {T : TypeId} {x : Operand} {d : D} (ho : o.op = .panic x) (hx : Ev pc F x (.ifc T d)) : DOpP P pc o F M [] (.ifc T d) [] := by
  intro hp a s hok hops _
  have h1 := ev_at hp hx (by simp [ho, Op.operands]) hops
  have hr := h1
  generalize hv : a.eval x = v at h1
  cases h1 with
  | @ifc _ _ u h1 =>
    have : (execOp a.eval o).run P s.w = .halt (.panic (.iface T u)) s.w := by
      unfold execOp
      simp only [ho, hv, Instr.panic]
      simp [goPanic, Sem.run_bind, Sem.run, Sem.bind, bind]
    rw [this]
    exact ⟨s, rfl, Tr.refl hok, rfl, by rw [hv] at hr; exact hr⟩
end
end
end Go.Proofs.YtaekkjhpdendoaaDoor

namespace Go.Proofs.YtaekkjhpdendoaaDoor
set_option linter.unusedVariables false
set_option linter.unusedSimpArgs false
open Go.RowKit
section
variable {P : Program} {s0 : St} {n : Cx}
/-- a loop that is left in its first round -/
theorem dwp_once {c : Code} {F : Fr} {M : List Blk} {K : Cont} (h : dwp P s0 n c F M (Kseq (fun _ _ => False) K)) : dwp P s0 n (.loop c) F M K :=
  dwp_loop_inv (α := Unit) (fun _ => F) (fun _ => M) (fun _ => True) (fun _ => 0) () trivial (fun _ _ h => h) fun _ _ => dwp_mono h fun x F M hk => by
    cases x with
    | normal => exact hk.elim
    | exit id => exact hk
    | goto l => exact hk
    | ret => exact hk
    | panic d => exact hk
/-- a slice is no longer than may be -/
theorem dwp_len {c : Code} {F : Fr} {M : List Blk} {K : Cont} {t sz m : Nat} {L : List Value} (ht : lk F t = some (.slf sz m L)) (hk : m ≤ 9223372036854775807 → L.length = m * sz → dwp P s0 n c F M K) : dwp P s0 n c F M K := by
  intro a w hi
  obtain ⟨h0, s, h1, h2, h3, h4, h5, h6⟩ := hi
  have hr := h4 t _ ht
  generalize slot a t = vx at hr
  have hb : m ≤ 9223372036854775807 ∧ L.length = m * sz := by
    cases hr with
    | slf hl hn hc _ _ => exact ⟨Nat.le_trans hn hc, hl⟩
  exact hk hb.1 hb.2 a w ⟨h0, s, h1, h2, h3, h4, h5, h6⟩
/-- .. nor is a row of one's own -/
theorem dwp_lena {c : Code} {F : Fr} {M : List Blk} {K : Cont} {T : TypeId} {i sz m : Nat} {L : List Value} (hM : M[i]? = some (.arr T sz m L)) (hk : m ≤ 9223372036854775807 → L.length = m * sz → dwp P s0 n c F M K) : dwp P s0 n c F M K := by
  intro a w hi
  obtain ⟨h0, s, h1, h2, h3, h4, h5, h6⟩ := hi
  have hil : i < s.β.length := by rw [h3.ok.len, h1]; exact (List.getElem?_eq_some_iff.1 hM).1
  have hM' : s.M[i]? = some (.arr T sz m L) := by rw [h1]; exact hM
  have hk' : s.w.ownsRow 0 T sz s.β[i] m L := h3.ok.blk i _ _ hM' (List.getElem?_eq_getElem hil)
  have hb : m ≤ 9223372036854775807 := by
    rcases hk'.2 with ⟨_, e2⟩ | ⟨g, cap, cur, e1, e2, e3, e4, e5, e6, e7⟩
    · omega
    · exact Nat.le_trans e4 e5
  exact hk hb hk'.1 a w ⟨h0, s, h1, h2, h3, h4, h5, h6⟩
variable {ops : Array Oper}
/-- is a slice nil? -/
theorem walk_nil? {o : Oper} {rest : List Oper} {F : Fr} {M : List Blk} {K : Cont} {T T' e : TypeId} {sz by' m t : Nat} {L : List Value} {x : Operand} (hg : o.guard = none) (hd : o.dst = some t) (ht : Nat.blt t n.n = true) (ho : o.op = .binOp .eql T x (.const (.slice none 0 0)) T') (hT : slE P T = some (e, sz, by')) (hx : Ev true F x (.slf sz m L))
    (hk : ∀ b, (b = true → m = 0 ∧ L = []) → Walk P s0 n ops rest ((t, .val (.bool b)) :: F) M K) : Walk P s0 n ops (o :: rest) F M K := by
  intro a w hi
  have hi' := hi
  obtain ⟨h0, s, h1, h2, h3, h4, h5, h6⟩ := hi
  obtain ⟨dx, ex1, ex2⟩ := hx
  have hrx := ex2 s _ rfl (ev_rep h4 ex1)
  generalize hvx : a.eval x = vx at hrx
  cases hrx with
  | @slf _ _ cap ad _ hl hn hc ha hm =>
    obtain ⟨hu, _⟩ := slE_spec hT
    have hrun : (execOp a.eval o).run P w = .ok (.value (.bool ad.isNone)) w := by
      unfold execOp
      simp only [ho]
      have hv : a.eval (.const (.slice none 0 0)) = .slice none 0 0 := rfl
      rw [hv, hvx]
      refine run_v ?_
      simp only [eqGuard, binOp, Sem.run_bind]
      have heq : ∀ d, (Op.equalIn (d + 1) T (.slice ad m cap) (.slice none 0 0)).run P w = .ok ad.isNone w := fun d => by
        unfold Op.equalIn
        rw [Sem.run_bind, run_underlying hu]
        cases ad <;> simp
      have heq' : (Op.equalIn Op.maxDepth T (.slice ad m cap) (.slice none 0 0)).run P w = .ok ad.isNone w := heq 9999
      simp [Op.equal, heq', Sem.run_bind, go_sem]
    have hfin := hk ad.isNone (fun hb => by
      cases ad with
      | none => have := ha rfl; exact ⟨by omega, List.eq_nil_of_length_eq_zero (by rw [hl, show m = 0 by omega]; simp)⟩
      | some q => cases hb) (a.put o.dst (.bool ad.isNone)) w (by
        obtain ⟨h0, s, h1, h2, h3, h4, h5, h6⟩ := hi'
        refine ⟨h0, s, h1, h2, h3, ?_, by rw [put_size]; exact h5, by rw [put_def]; exact h6⟩
        rw [hd]
        exact h4.put (by rw [h5]; exact Nat.blt_eq.mp ht) (.val _))
    show if Region.wanted o (yielded ops a.tmps) then _ else _
    have hw : Region.wanted o (yielded ops a.tmps) = true := by unfold Region.wanted; rw [hg]
    rw [if_pos hw]
    refine ⟨fun _ _ => trivial, ?_⟩
    rw [semAt_noDef (by rw [ho]; rfl), hrun]
    exact hfin
end
section
variable {P : Program} {pc : Bool} {o : Oper} {F : Fr} {M : List Blk} {α : Type} {en : α → List Value} {T T' e : TypeId} {sz by' k n i j : Nat} {l : List α} {x y : Operand}
/-- an address, read in memory that stays -/
theorem op_lddm {kk : Nat} {ld : List D} {d : D} (ho : o.op = .load T x) (hT : tyB P T = some (false, kk)) (hx : Ev pc F x (.dpm ld)) (hR : ld[0]? = some d) : DOp P pc o F M [] d [] := by
  intro hp a s hok hops hfp
  have hr := ev_at hp hx (by simp [ho, Op.operands]) hops
  generalize hv : a.eval x = vx at hr
  cases hr with
  | @dpm b q _ vs hnl hI hc hl h =>
    obtain ⟨v, hv0⟩ : ∃ v, vs[0]? = some v := ⟨vs[0]'(by rw [hl]; exact (List.getElem?_eq_some_iff.1 hR).1), List.getElem?_eq_getElem _⟩
    exact dg_val hok (run_load_one ho hT hv (by simpa using hc 0 v hv0)) (h 0 d v hR hv0)
/-- a pointer that is not nil -/
theorem op_nc {x : Operand} {d : D} (ho : o.op = .nilCheck x) (hx : Ev pc F x d) (hd : ∀ (s : St) v, Rep s d v → ∃ q, v = .pointer (some q)) : DOp P pc o F M [] d [] := by
  intro hp a s hok hops _
  have h1 := ev_at hp hx (by simp [ho, Op.operands]) hops
  obtain ⟨q, hq⟩ := hd s _ h1
  refine dg_val (v := a.eval x) hok ?_ h1
  unfold execOp
  simp only [ho, hq, Sem.run_pure]
/-- an element of a row of one's own: its place -/
theorem op_ixar {kd : IntKind} {z : Int} (ho : o.op = .indexAddr T x y) (hT : slE P T = some (e, sz, by')) (hx : Ev pc F x (.arr i)) (hy : Ev pc F y (.val (.int kd z))) (hM : M[i]? = some (.arr T' sz n (l.flatMap en))) (hz : pc = true → z = (j : Int)) (hj : pc = true → j < n) : DOp P pc o F M [i] (.aloc i (j * sz)) [] := by
  cases pc with
  | false => intro h; cases h
  | true =>
    have hz := hz rfl
    have hj := hj rfl
    subst hz
    have := op_ixa ho hT hx hy hM (fun _ => ⟨by omega, by omega⟩)
    simpa using this
/-- .. it as a whole -/
theorem op_ldar (ho : o.op = .load T x) (hT : tyB P T = some (true, sz)) (hx : Ev pc F x (.aloc i (j * sz))) (hM : M[i]? = some (.arr T' sz n (l.flatMap en))) (hen : ∀ a, (en a).length = sz) (hj : j < l.length) : DOp P pc o F M [i] (.val (.agg (en l[j]).toArray)) [] :=
  op_ldra ho hT hx hM (flat_one hen hj) (hen _)
theorem op_lda1 {v : Value} (ho : o.op = .load T x) (hT : tyB P T = some (false, k)) (hx : Ev pc F x (.aloc i (j * 1))) (hM : M[i]? = some (.arr T' 1 n (l.flatMap en))) (hen : ∀ a, (en a).length = 1) (hj : j < l.length) (hv : (en l[j])[0]? = some v) : DOp P pc o F M [i] (.val v) [] :=
  op_ldoa ho hT hx hM (by have := flat_cell (c := 0) hen hj (by omega); rw [Nat.add_zero] at this; rw [this, hv])
/-- .. it stored -/
theorem op_star {q : α} (ho : o.op = .store T x y) (hT : tyB P T = some (true, sz)) (hx : Ev pc F x (.aloc i (j * sz))) (hM : M[i]? = some (.arr T' sz n (l.flatMap en))) (hy : Ev pc F y (.val (.agg (en q).toArray))) (hen : ∀ a, (en a).length = sz) (hj : j < l.length) (h1 : (en q).all (·.oneCell') = true) : DOp P pc o F M [i] .junk [(i, .arr T' sz n ((l.set j q).flatMap en))] :=
  op_sta ho hT hx hy hM (by simp [Value.cells]) (hen _) h1 (by
    have h2 : (j + 1) * sz ≤ l.length * sz := Nat.mul_le_mul_right _ hj
    rw [Nat.succ_mul] at h2
    rw [hen, flat_len hen]; exact h2) (flat_set hen hj q)
end
end Go.Proofs.YtaekkjhpdendoaaDoor

namespace Go.Proofs.YtaekkjhpdendoaaDoor
set_option linter.unusedVariables false
set_option linter.unusedSimpArgs false
open Go.RowKit
/-- what == comes to on two rows of cells of a type: for ints, bools, strings, and what is made of these -/
def eqA (f : List Value → List Value → Option Bool) (sz : Nat) : Nat → List Value → List Value → Option Bool
  | 0, _, _ => some true
  | n + 1, xs, ys => match f (xs.take sz) (ys.take sz), eqA f sz n (xs.drop sz) (ys.drop sz) with
    | some r, some r' => some (r && r')
    | _, _ => none
def eqFl (f : TypeId → List Value → List Value → Option Bool) (P : Program) (xs ys : List Value) : List Field → Option Bool
  | [] => some true
  | g :: fs => if g.name = "_" then none else match P.info? g.type with
    | none => none
    | some i => match f g.type ((xs.drop g.offset).take i.size) ((ys.drop g.offset).take i.size), eqFl f P xs ys fs with
      | some r, some r' => some (r && r')
      | _, _ => none
def eqT (P : Program) : Nat → TypeId → List Value → List Value → Option Bool
  | 0, _, _, _ => none
  | d + 1, T, xs, ys => match P.underlying T with
    | some (.int _) => match xs, ys with
      | [.int k a], [.int k' b] => if k = k' then some (a == b) else none
      | _, _ => none
    | some .bool => match xs, ys with
      | [.bool a], [.bool b] => some (a == b)
      | _, _ => none
    | some .string => match xs, ys with
      | [.string a], [.string b] => some (a.toList == b.toList)
      | _, _ => none
    | some (.struct fs) => if P.stoodInHeld T then none else eqFl (eqT P d) P xs ys fs.toList
    | some (.array n e) => match P.info? e with
      | none => none
      | some i => eqA (eqT P d e) i.size n xs ys
    | _ => none
/-- cells as a value of the type -/
def valC (P : Program) (T : TypeId) (xs : List Value) : Value := match P.underlying T with
  | some (.struct _) | some (.array _ _) => .agg xs.toArray
  | _ => xs.getD 0 undef
section
variable {P : Program}
theorem run_part_row {T : TypeId} {i : TypeInfo} {cs : List Value} {off : Nat} {w : World} (hi : P.info? T = some i) (hr : (∃ fs, P.underlying T = some (.struct fs)) ∨ ∃ n e, P.underlying T = some (.array n e)) : (part T cs.toArray off).run P w = .ok (valC P T ((cs.drop off).take i.size)) w := by
  have hex : cs.toArray.extract off (off + i.size) = ((cs.drop off).take i.size).toArray := by simp [List.extract_eq_take_drop]
  unfold part isAgg valC
  rcases hr with ⟨fs, hu⟩ | ⟨n, e, hu⟩ <;> simp [Sem.run_bind, run_underlying hu, sizeOf, typeInfo, hi, hu, hex]
theorem run_part_one {T : TypeId} {cs : List Value} {off sz : Nat} {v : Value} {w : World} {d : TypeDesc} (hu : P.underlying T = some d) (hd : d.isRow = false) (hv : (cs.drop off).take sz = [v]) : (part T cs.toArray off).run P w = .ok (valC P T [v]) w := by
  have hc : cs[off]? = some v := by
    have := congrArg (fun l : List Value => l[0]?) hv
    simp only [List.getElem?_take, List.getElem?_drop, Nat.add_zero] at this
    split at this
    · simpa using this
    · simp at this
  unfold part isAgg valC
  cases d <;> simp_all [TypeDesc.isRow, Sem.run_bind, run_underlying hu]
theorem eqT_row {d : Nat} {T : TypeId} {xs ys : List Value} {r : Bool} (h : eqT P d T xs ys = some r) : ((∃ fs, P.underlying T = some (.struct fs)) ∨ ∃ n e, P.underlying T = some (.array n e)) ∨ (∃ u, P.underlying T = some u ∧ u.isRow = false) ∧ (∃ x, xs = [x]) ∧ ∃ y, ys = [y] := by
  cases d with
  | zero => cases h
  | succ d =>
    unfold eqT at h
    split at h
    · rename_i k hu
      split at h
      · exact .inr ⟨⟨_, hu, rfl⟩, ⟨_, rfl⟩, ⟨_, rfl⟩⟩
      · cases h
    · rename_i hu
      split at h
      · exact .inr ⟨⟨_, hu, rfl⟩, ⟨_, rfl⟩, ⟨_, rfl⟩⟩
      · cases h
    · rename_i hu
      split at h
      · exact .inr ⟨⟨_, hu, rfl⟩, ⟨_, rfl⟩, ⟨_, rfl⟩⟩
      · cases h
    · rename_i fs hu; exact .inl (.inl ⟨fs, hu⟩)
    · rename_i n e hu; exact .inl (.inr ⟨n, e, hu⟩)
    · cases h
theorem run_part_of {d : Nat} {T : TypeId} {i : TypeInfo} {xs ys : List Value} {off : Nat} {r : Bool} {w : World} (hi : P.info? T = some i) (h : eqT P d T ((xs.drop off).take i.size) ((ys.drop off).take i.size) = some r) :
    (part T xs.toArray off).run P w = .ok (valC P T ((xs.drop off).take i.size)) w ∧ (part T ys.toArray off).run P w = .ok (valC P T ((ys.drop off).take i.size)) w := by
  rcases eqT_row h with hr | ⟨⟨u, hu, hd⟩, ⟨x, hx⟩, ⟨y, hy⟩⟩
  · exact ⟨run_part_row hi hr, run_part_row hi hr⟩
  · exact ⟨by rw [hx]; exact run_part_one hu hd hx, by rw [hy]; exact run_part_one hu hd hy⟩
theorem eqT_run : ∀ (d k : Nat) (T : TypeId) (xs ys : List Value) (r : Bool) (w : World), eqT P d T xs ys = some r → (Op.equalIn (d + k) T (valC P T xs) (valC P T ys)).run P w = .ok r w := by
  intro d
  induction d with
  | zero => intro k T xs ys r w h; cases h
  | succ d ih =>
    intro k T xs ys r w h
    rw [show d + 1 + k = d + k + 1 by omega]
    unfold eqT at h
    split at h
    · rename_i kd hu
      split at h
      · split at h
        · rename_i e; cases h; subst e; simp [valC, hu]; exact run_equalIn_int w _ T _ _ _ _ hu
        · cases h
      · cases h
    · rename_i hu
      split at h
      · cases h; simp [valC, hu]; exact run_equalIn_bool' w _ T _ _ hu
      · cases h
    · rename_i hu
      split at h
      · cases h; simp [valC, hu]; exact run_equalIn_string w _ T _ _ hu
      · cases h
    · rename_i fs hu
      split at h
      · cases h
      · rename_i hst
        have hv : ∀ zs, valC P T zs = .agg zs.toArray := fun zs => by simp [valC, hu]
        rw [hv, hv]
        have hf : P.underlying T = some (.struct (P.fieldsOf T)) := by unfold Program.fieldsOf; rw [hu]
        have hfs : P.fieldsOf T = fs := by unfold Program.fieldsOf; rw [hu]
        rw [run_equalIn_struct w _ T _ _ hf (by simpa using hst), hfs]
        clear hf hfs hu hv
        generalize fs.toList = l at h
        induction l generalizing r with
        | nil => cases h; simp [Op.eqFields]
        | cons g fs ihf =>
          unfold eqFl at h
          split at h
          · cases h
          · rename_i hne
            split at h
            · cases h
            · rename_i i hi
              split at h
              · rename_i r1 r2 h1 h2
                cases h
                obtain ⟨p1, p2⟩ := run_part_of (w := w) hi h1
                have e := ih k _ _ _ _ w h1
                simp only [Op.eqFields, hne, ne_eq, not_false_eq_true, if_true, Sem.run_bind, p1, p2, e, Result.andThen_ok]
                cases r1 with
                | true => simpa using ihf r2 h2
                | false => simp
              · cases h
    · rename_i n e hu
      split at h
      · cases h
      · rename_i i hi
        have hv : ∀ zs, valC P T zs = .agg zs.toArray := fun zs => by simp [valC, hu]
        rw [hv, hv]
        unfold Op.equalIn
        simp only [Sem.run_bind, run_underlying hu, Result.andThen_ok, sizeOf, typeInfo, run_program, hi, Sem.run_pure]
        have key : ∀ (n s : Nat) (r : Bool), eqA (eqT P d e) i.size n (xs.drop (s * i.size)) (ys.drop (s * i.size)) = some r →
            (forIn (List.range' s n) ((none : Option Bool), ()) fun j _ => do
              let a ← part e xs.toArray (j * i.size)
              let b ← part e ys.toArray (j * i.size)
              let q ← Op.equalIn (d + k) e a b
              if (!q) = true then pure (ForInStep.done (some false, ())) else pure (ForInStep.yield (none, ())) : Sem (Option Bool × Unit)).run P w = .ok (if r then (none, ()) else (some false, ())) w := by
          intro n
          induction n with
          | zero => intro s r h; unfold eqA at h; cases h; simp
          | succ n ihn =>
            intro s r h
            unfold eqA at h
            split at h
            · rename_i r1 r2 h1 h2
              cases h
              obtain ⟨p1, p2⟩ := run_part_of (w := w) hi h1
              have e1 := ih k _ _ _ _ w h1
              have h2' := ihn (s + 1) r2 (by rw [Nat.succ_mul, ← List.drop_drop, ← List.drop_drop]; exact h2)
              rw [List.range'_succ, List.forIn_cons]
              simp only [Sem.run_bind, p1, p2, e1, Result.andThen_ok]
              cases r1 with
              | true => simpa using h2'
              | false => simp
            · cases h
        have hk := key n 0 r (by simpa using h)
        simp only [Std.Legacy.Range.forIn_eq_forIn_range', Std.Legacy.Range.size, Nat.sub_zero, Nat.add_sub_cancel, Nat.div_one, hk, Result.andThen_ok]
        cases r <;> simp
    · cases h
variable {pc : Bool} {o : Oper} {F : Fr} {M : List Blk}
theorem row_val {T : TypeId} {k : Nat} {L : List Value} (hT : tyB P T = some (true, k)) : valC P T L = .agg L.toArray := by
  obtain ⟨d, i, h1, h2, h3, h4⟩ := tyB_spec hT
  unfold valC
  rw [h1]
  cases d <;> simp_all [TypeDesc.isRow]
theorem op_eqr {T T' : TypeId} {x y : Operand} {L1 L2 : List Value} {b : Bool} {k : Nat} (he : eqT P 9 T L1 L2 = some b) (ho : o.op = .binOp .eql T x y T') (hg : P.eqGuardType P.depth T = false) (hT : tyB P T = some (true, k)) (hx : Ev pc F x (.val (.agg L1.toArray))) (hy : Ev pc F y (.val (.agg L2.toArray))) : DOp P pc o F M [] (.val (.bool b)) [] :=
  op_eqv ho hx hy (fun w => run_eqGuard_agg w _ _ _ _ _ _ hg) fun w => by
    have := eqT_run (P := P) 9 9991 T L1 L2 b w he
    rw [row_val hT, row_val hT] at this
    rw [run_eql_struct, this]; rfl
theorem op_ner {T T' : TypeId} {x y : Operand} {L1 L2 : List Value} {b : Bool} {k : Nat} (he : eqT P 9 T L1 L2 = some b) (ho : o.op = .binOp .neq T x y T') (hg : P.eqGuardType P.depth T = false) (hT : tyB P T = some (true, k)) (hx : Ev pc F x (.val (.agg L1.toArray))) (hy : Ev pc F y (.val (.agg L2.toArray))) : DOp P pc o F M [] (.val (.bool !b)) [] :=
  op_nev ho hx hy (fun w => run_eqGuard_agg w _ _ _ _ _ _ hg) fun w => by
    have := eqT_run (P := P) 9 9991 T L1 L2 b w he
    rw [row_val hT, row_val hT] at this
    rw [run_neq_struct, this]; rfl
end
end Go.Proofs.YtaekkjhpdendoaaDoor

namespace Go.Proofs.YtaekkjhpdendoaaDoor
set_option linter.unusedVariables false
set_option linter.unusedSimpArgs false
open Go.RowKit
theorem flat_oc {α : Type} {en : α → List Value} (h : ∀ a, (en a).all (·.oneCell') = true) (l : List α) : (l.flatMap en).all (·.oneCell') = true := by
  induction l with
  | nil => rfl
  | cons a l ih => rw [List.flatMap_cons, List.all_append, h, ih]; rfl
theorem getD_at {α : Type} {l : List α} {j : Nat} {a0 : α} (h : j < l.length) : l.getD j a0 = l[j] := by simp [List.getD_eq_getElem?_getD, h]
theorem arr_eq {T : TypeId} {sz n n' : Nat} {L L' : List Value} (h : n = n') (h' : L = L') : some (Blk.arr T sz n L) = some (Blk.arr T sz n' L') := by rw [h, h']
section
variable {P : Program} {s0 : St} {n : Cx}
theorem fits_app {F : Fr} {σ : List Nat} {M : List Blk} : ∀ {A B : Fr}, Fits F σ M A → Fits F σ M B → Fits F σ M (A ++ B)
  | [], _, _, h => h
  | _ :: _, _, ⟨h1, h2⟩, h => ⟨h1, fits_app h2 h⟩
/-- a loop some of whose slots and blocks turn -/
theorem dwp_loopS {α : Type} {c : Code} {F : Fr} {M : List Blk} {K : Cont} (hg : Gs s0 n) (dyn : α → Fr) (stat : Fr) (dynM : α → List (Nat × Blk)) (Mst : List Blk) (Pr : α → Prop) (μ : α → Nat) (x0 : α) (σ0 : List Nat) (h0 : Pr x0)
    (hσ0 : okσ n.k σ0 = true) (hF0 : Fits F σ0 M stat) (hF1 : Fits F σ0 M (dyn x0)) (hM0 : MFits σ0 nov M σ0 (upd Mst (dynM x0)))
    (round : ∀ x, Pr x → dwp P s0 n c (dyn x ++ stat) (upd Mst (dynM x)) (Kseq (Again n.k (fun x => dyn x ++ stat) (fun x => upd Mst (dynM x)) Pr μ x) K)) : dwp P s0 n (.loop c) F M K :=
  dwp_loop hg (fun x => dyn x ++ stat) (fun x => upd Mst (dynM x)) Pr μ x0 σ0 h0 hσ0 (fits_app hF1 hF0) hM0 round
/-- a loop, at the head of a round -/
def dloop (P : Program) (s0 : St) (n : Cx) (c : Code) (F : Fr) (M : List Blk) (K : Cont) : Prop := ∀ a w, Inv s0 n F M a w → ∀ (b : Frame) (k : List Item) (cs : List Frame), b.roundOf = (wd (n.ρ s0)).round → (wd (n.ρ s0)).fn b.fn → (wd (n.ρ s0)).room (cs.length + 1 + 0) →
  ∃ e a' w', PostK s0 n K e a' w' ∧ ArrivesIn (Machine.fenced P (wd (n.ρ s0))) P (lone (b.atR a (.code c :: .inLoop c :: k)) cs w) b k cs e a' w'
theorem dwp_dloop {c : Code} {F : Fr} {M : List Blk} {K : Cont} (h : dloop P s0 n c F M K) : dwp P s0 n (.loop c) F M K := by
  intro a w hi b k cs hro hb hr
  obtain ⟨e, a', w', hq, harr⟩ := h a w hi b k cs hro hb hr
  exact ⟨e, a', w', hq, .of_steps (.one (fenced_calm hb hr rfl) stepR_loop) harr⟩
theorem dloop_step {c : Code} {F : Fr} {M : List Blk} {K : Cont} (h : dwp P s0 n c F M (Kseq (fun F M => dloop P s0 n c F M K) K)) : dloop P s0 n c F M K := by
  intro a w hi b k cs hro hb hr
  obtain ⟨e, a₁, w₁, hq, harr⟩ := h a w hi b (.inLoop c :: k) cs hro hb hr
  cases e with
  | normal =>
    obtain ⟨F', M', hi', hl⟩ := hq
    obtain ⟨e₂, a₂, w₂, hq₂, harr₂⟩ := hl a₁ w₁ hi' b k cs hro hb hr
    exact ⟨e₂, a₂, w₂, hq₂, .of_steps (StepsIn.trans harr (.one (fenced_calm hb hr rfl) stepR_inLoop)) harr₂⟩
  | exit id => exact ⟨.exit id, a₁, w₁, hq, .pass (x := .inLoop c) rfl (fun _ _ => .inl (by simp)) harr⟩
  | goto l => exact ⟨.goto l, a₁, w₁, hq, .pass (x := .inLoop c) rfl (fun _ _ => .inl (by simp)) harr⟩
  | ret => exact ⟨.ret, a₁, w₁, hq, .pass (x := .inLoop c) rfl (fun _ _ => .inl (by simp)) harr⟩
  | panic ch => exact ⟨.panic ch, a₁, w₁, hq, .pass (x := .inLoop c) rfl (fun _ _ => .inl (by simp)) harr⟩
  | outgrown => exact hq.elim
end
end Go.Proofs.YtaekkjhpdendoaaDoor

namespace Go.Proofs.YtaekkjhpdendoaaDoor
set_option linter.unusedVariables false
set_option linter.unusedSimpArgs false
open Go.RowKit
section
variable {P : Program} {pc : Bool} {o : Oper} {F : Fr} {M : List Blk}
theorem op_cat {T T' : TypeId} {x y : Operand} {p q : ByteArray} (ho : o.op = .binOp .add T x y T') (hx : Ev pc F x (.val (.string p))) (hy : Ev pc F y (.val (.string q))) (h : pc = true → p.size + q.size ≤ 9223372036854775807) : DOp P pc o F M [] (.val (.string (p ++ q))) [] := by
  refine op_val2 hx hy (by simp [ho, Op.operands]) fun hp a w e1 e2 => ?_
  unfold execOp
  simp only [ho, e1, e2]
  refine run_v ?_
  have hg : (eqGuard .add T x y (.string p) (.string q)).run P w = .ok () w := by unfold eqGuard; rfl
  rw [Sem.run_bind, hg]
  have h2 := h hp
  have h3 : ¬ (((p.size + q.size : Nat) : Int) > IntKind.i64.max) := by show ¬ (((p.size + q.size : Nat) : Int) > 9223372036854775807); omega
  simp only [Result.andThen, binOp, Op.stringOp]
  rw [if_neg h3]
  rfl
theorem op_slst {T : TypeId} {x : Operand} {lo hi : Option Operand} {p : ByteArray} {l h : Int} {i j : Nat} (ho : o.op = .slice T x lo hi none) (hT : P.underlying T = some .string) (hx : Ev pc F x (.val (.string p))) (hlo : Bd pc F lo 0 l) (hhi : Bd pc F hi p.size h)
    (hl : pc = true → l = (i : Int)) (hh : pc = true → h = (j : Int)) (hb : pc = true → i ≤ j ∧ j ≤ p.size) : DOp P pc o F M [] (.val (.string (p.extract i j))) [] := by
  intro hp a s hok hops _
  obtain ⟨b1, b2⟩ := hb hp
  have hr := ev_at hp hx (by simp [ho, Op.operands]) hops
  have hlo' := bd_at hp hlo (fun u e => by subst e; simp [ho, Op.operands]) hops
  have hhi' := bd_at hp hhi (fun u e => by subst e; simp [ho, Op.operands]) hops
  rw [hl hp] at hlo'
  rw [hh hp] at hhi'
  refine dg_val hok ?_ (.val _)
  unfold execOp
  simp only [ho, hr.val_eq]
  refine run_v ?_
  have sb : ∀ (k : IntKind) (z : Nat) (m : Nat) (cd : BoundsCode), z ≤ m → (Instr.sliceBound (.int k z) m cd).run P s.w = .ok z s.w := fun k z m cd b => by
    simp [Instr.sliceBound, asIntOf, b]
  have hbs : (Instr.sliceBounds false p.size p.size (lo.map a.eval) (hi.map a.eval) none).run P s.w = .ok (i, j, p.size) s.w := by
    rcases hlo' with ⟨q1, q3⟩ | ⟨kl, q1⟩ <;> rcases hhi' with ⟨q2, q4⟩ | ⟨kh, q2⟩ <;> rw [q1, q2]
    · have g1 : i = 0 := by omega
      have g2 : j = p.size := by omega
      simp [Instr.sliceBounds, g1, g2]
    · have g1 : i = 0 := by omega
      simp [Instr.sliceBounds, g1, sb kh j p.size _ b2]
    · have g2 : j = p.size := by omega
      simp [Instr.sliceBounds, g2, sb kl i p.size _ (by omega)]
    · simp [Instr.sliceBounds, sb kh j p.size _ b2, sb kl i j _ b1]
  simp [Instr.sliceAt, Instr.slice, run_underlying hT, Sem.run_bind, hbs]
theorem op_lenst {T : TypeId} {x : Operand} {p : ByteArray} (ho : o.op = .call { callee := .builtin .len, args := #[x], argTypes := #[T] }) (hT : P.underlying T = some .string) (hx : Ev pc F x (.val (.string p))) : DOp P pc o F M [] (.val (.int .i64 p.size)) [] := by
  refine op_val1 hx (by simp [ho, Op.operands, Call.operands]) fun _ a w e1 => run_builtin ho (fun cs => rfl) ?_
  simp [Builtin.len_, e1, run_underlying hT, goInt]
/-- a string that is ranged over -/
theorem op_rgs {T : TypeId} {x : Operand} {p : ByteArray} (j : Nat) (ho : o.op = .range T x) (hT : P.underlying T = some .string) (hx : Ev pc F x (.val (.string p))) (hj : M[j]? = some .hole) : DOp P pc o F M [j] (.loc j 0) [(j, .obj (.stringIter p 0))] := by
  intro hp a s hok hops hfp
  have hj' : s.M[j]? = some .hole := by rw [hfp j (by simp)]; exact hj
  have hjl : j < s.β.length := by rw [hok.len]; exact (List.getElem?_eq_some_iff.1 hj').1
  have hr := ev_at hp hx (by simp [ho, Op.operands]) hops
  have ht : Tr s ⟨s.β.set j (.pointer (some ⟨s.w.heap.size, 0, none⟩)), s.I, s.M.set j (.obj (.stringIter p 0)), s.w.alloc (.stringIter p 0)⟩ := by
    refine tr_new hok hj' _ _ _ (by simp) (fun b hb => by simpa [hb] using (Option.some.inj hb).symm) (fun b h => Below.heap_alloc _ _ _ h) (fun b hb => ?_) (by simp) rfl rfl rfl ⟨_, rfl, by simpa using heap_alloc_new s.w _, trivial⟩
    cases hb; simp
  refine dg_step (v := .pointer (some ⟨s.w.heap.size, 0, none⟩)) ?_ ht rfl (rep_new hjl rfl)
  unfold execOp
  simp only [ho, hr.val_eq]
  refine run_v ?_
  simp [Instr.range, run_underlying hT]
theorem obj_at {s : St} (hok : Ok s) {i b q : Nat} {ob : Obj} (hM : s.M[i]? = some (.obj ob)) (hβ : s.β[i]? = some (.pointer (some ⟨b, q, none⟩))) : s.w.heap[b]? = some ob := by
  obtain ⟨b', e1, e2, _⟩ := hok.blk i _ _ hM hβ
  cases e1
  exact e2
theorem tr_obj {s : St} (ho : Ok s) {i b : Nat} {ob ob' : Obj} (hM : s.M[i]? = some (.obj ob)) (hβ : s.β[i]? = some (.pointer (some ⟨b, 0, none⟩))) (hmh : mapH ob' (.pointer (some ⟨b, 0, none⟩))) : Tr s ⟨s.β, s.I, s.M.set i (.obj ob'), s.w.putObj b ob'⟩ := by
  have hil : i < s.M.length := (List.getElem?_eq_some_iff.1 hM).1
  have hlv : Live s b := live_of hM rfl hβ rfl
  have hbl := (ho.lt b hlv).1
  have := step_set ho i s.M (.pointer (some ⟨b, 0, none⟩)) (.obj ob') (s.w.putObj b ob') rfl (fun _ _ h => .inl h) hil (.inr (.inl hβ)) (by simp)
    ⟨b, rfl, World.putObj_heap_same hbl, hmh⟩
    (fun c hc j k h hne h1 h2 h3 h4 => by
      cases hc
      exact hne (ho.inj j i k _ h _ b h1 h2 h3 h4 hM rfl hβ rfl))
    (fun c hc => by cases hc; exact .inr hlv) (fun c hc => by cases hc; simpa using hbl) (fun _ => False) (fun _ h => h.elim)
    (fun c hc hne _ => World.putObj_heap_other (fun e => hne (by rw [e]; rfl))) rfl rfl rfl (by simp)
  have hil' : i < s.β.length := (List.getElem?_eq_some_iff.1 hβ).1
  have e : s.β.set i (.pointer (some ⟨b, 0, none⟩)) = s.β := by
    have : s.β[i] = .pointer (some ⟨b, 0, none⟩) := (List.getElem?_eq_some_iff.1 hβ).2
    rw [← this, List.set_getElem_self]
  rwa [e] at this
/-- the next letter of it -/
theorem op_nxs {x : Operand} {i q : Nat} {p : ByteArray} {c wd' : Nat} (ho : o.op = .next x true) (hx : Ev pc F x (.loc i 0)) (hM : M[i]? = some (.obj (.stringIter p q))) (hq : pc = true → q < p.size) (hd : Utf8.decode p q = (c, wd')) :
    DOp P pc o F M [i] (.tup [.val (.bool true), .val (.int .i64 q), .val (.int .i32 c)]) [(i, .obj (.stringIter p (q + wd')))] := by
  intro hp a s hok hops hfp
  have hM' : s.M[i]? = some (.obj (.stringIter p q)) := by rw [hfp i (by simp)]; exact hM
  have hr := ev_at hp hx (by simp [ho, Op.operands]) hops
  generalize hv : a.eval x = vx at hr
  cases hr with
  | @loc _ _ b hβ =>
    have hob := obj_at hok hM' hβ
    have ht := tr_obj (ob' := .stringIter p (q + wd')) hok hM' hβ trivial
    refine dg_step (v := .tuple #[.bool true, .int .i64 q, .int .i32 c]) ?_ ht rfl ?_
    · unfold execOp
      simp only [ho, hv]
      refine run_v ?_
      simp [Instr.next, getObj, setObj, Sem.run_bind, Sem.run, hob, Result.andThen, hq hp, hd, goInt, World.putObj]
    · exact Rep.tup (vs := [.bool true, .int .i64 q, .int .i32 c]) rfl fun j d v hj hv => by
        match j with
        | 0 => simp at hj hv; subst hj hv; exact .val _
        | 1 => simp at hj hv; subst hj hv; exact .val _
        | 2 => simp at hj hv; subst hj hv; exact .val _
        | j + 3 => simp at hj
theorem op_nxe {x : Operand} {i q : Nat} {p : ByteArray} (ho : o.op = .next x true) (hx : Ev pc F x (.loc i 0)) (hM : M[i]? = some (.obj (.stringIter p q))) (hq : pc = true → ¬ q < p.size) :
    DOp P pc o F M [i] (.tup [.val (.bool false)]) [] := by
  intro hp a s hok hops hfp
  have hM' : s.M[i]? = some (.obj (.stringIter p q)) := by rw [hfp i (by simp)]; exact hM
  have hr := ev_at hp hx (by simp [ho, Op.operands]) hops
  generalize hv : a.eval x = vx at hr
  cases hr with
  | @loc _ _ b hβ =>
    have hob := obj_at hok hM' hβ
    refine dg_val (v := .tuple #[.bool false]) hok ?_ (Rep.tup (vs := [.bool false]) rfl fun j d v hj hv => by
      match j with
      | 0 => simp at hj hv; subst hj hv; exact .val _
      | j + 1 => simp at hj)
    unfold execOp
    simp only [ho, hv]
    refine run_v ?_
    simp [Instr.next, getObj, Sem.run_bind, Sem.run, hob, Result.andThen, hq hp]
end
section
variable {P : Program} {pc : Bool} {o : Oper} {F : Fr} {M : List Blk}
theorem op_staf {T T' : TypeId} {x y : Operand} {i j c k sz n : Nat} {rw' : Bool} {α : Type} {en : α → List Value} {l : List α} {v : Value} {C : List Value} (a0 q : α) (ho : o.op = .store T x y) (hT : tyB P T = some (rw', k)) (hx : Ev pc F x (.aloc i (j * sz + c))) (hy : Ev pc F y (.val v)) (hM : M[i]? = some (.arr T' sz n (l.flatMap en))) (hC : v.cells.toList = C) (hk : C.length = k) (h1 : C.all (·.oneCell') = true) (hen : ∀ a, (en a).length = sz) (hj : pc = true → j < l.length) (hc : c + C.length ≤ sz)
    (hq : setL (en (l.getD j a0)) c C = en q) : DOp P pc o F M [i] .junk [(i, .arr T' sz n ((l.set j q).flatMap en))] := fun hp =>
  op_sta ho hT hx hy hM hC hk h1 (by rw [flat_len hen]; have := hj hp; calc j * sz + c + C.length ≤ j * sz + sz := by omega
    _ = (j + 1) * sz := by rw [Nat.succ_mul]
    _ ≤ l.length * sz := Nat.mul_le_mul_right _ this) (flat_set_part hen (hj hp) hc (by rw [← getD_at (a0 := a0) (hj hp)]; exact hq)) hp
end
/-- what it hands back, as memory that stays -/
theorem freeze {P : Program} {f : FuncId} {args : List D} {d d' : D} {Mout : List Blk} (h : DFun P f args [] d Mout) (hv : vw [] allv Mout d = some d') : DFun P f args [] d' [] := by
  refine ⟨h.1, fun s vs hok hM hr => (h.2 s vs hok hM hr).mono ?_⟩
  rintro e w' ⟨s', rfl, ht, hor⟩
  rcases hor with ⟨d0, v, rfl, hrep, rfl, hMo⟩ | ⟨d0, v, _, _, hf⟩
  · refine ⟨vst s' [] allv [], rfl, tr_vst hok ht (mfits [] [] trivial) (m := 0) (by rw [hM]; exact Nat.le_refl _) rfl, .inl ⟨d', v, rfl, vw_rep ht.ok hrep d' (by rw [hMo]; exact hv), rfl, rfl⟩⟩
  · exact hf.elim
end Go.Proofs.YtaekkjhpdendoaaDoor

namespace Go.Proofs.YtaekkjhpdendoaaDoor
set_option linter.unusedVariables false
set_option linter.unusedSimpArgs false
open Go.ChangeShapes Go.WideShapes Go.ChangeAt Go.RowKit Go.Joins Go.Deep
set_option maxRecDepth 100000
/-- the state in which a law is called -/
def st0 (W : World) : St := ⟨[], fun b => b < W.heap.size, [], W⟩
theorem reps_cons {s : St} {d : D} {v : Value} {ds : List D} {vs : List Value} (h : Rep s d v) (h' : Reps s ds vs) : Reps s (d :: ds) (v :: vs) := by
  refine ⟨by simp [h'.1], fun j e u hj hu => ?_⟩
  cases j with
  | zero => simp at hj hu; subst hj hu; exact h
  | succ j => exact h'.2 j e u (by simpa using hj) (by simpa using hu)
theorem reps_nil {s : St} : Reps s [] [] := ⟨rfl, fun j e u hj => by simp at hj⟩
section
variable {H : Type} {enc : TypeId × Value → H} {w : World} {base b0 : Nat} {r : Reach} {spare : Nat → Bool} {held : Bool} {v : Value} {d : DataW H} {p : List MemPlace}
theorem open_struct {α : Type} {t : TypeId} {fs : Array Field} {ps : List Prim} (f : Nat) (en : α → List Value) (ok : α → Prop) (hP : ∀ cs, fitsP ps cs → ∃ a, ok a ∧ cs = en a) (hu : Tryd.prog.underlying t = some (.struct fs)) (hf : flatT Tryd.prog f t = some ps)
    (hv : Value.okWide Tryd.prog w r b0 t v) (h : DataW.Trod enc Tryd.prog w base spare held t v d p) : ∃ a, ok a ∧ v = .agg (en a).toArray := by
  obtain ⟨cs, rfl, hsz⟩ := okWide_struct hu hv
  obtain ⟨fuel, hfu⟩ := h
  obtain ⟨a, hr, e⟩ := hP _ (flat_trod f _ _ _ _ _ hf hfu)
  refine ⟨a, hr, ?_⟩
  have e2 : cs.toList = en a := e
  rw [← e2]
theorem open_prim {α : Type} {t : TypeId} {q : Prim} (mk : α → Value) (ok : α → Prop) (hP : ∀ v, q.is v → ∃ a, ok a ∧ v = mk a) (hf : flatT Tryd.prog 1 t = some [q]) (hv : ∃ u : Value, v = u ∧ u.cells = #[u]) (h : DataW.Trod enc Tryd.prog w base spare held t v d p) : ∃ a, ok a ∧ v = mk a := by
  obtain ⟨u, rfl, hc⟩ := hv
  obtain ⟨fuel, hfu⟩ := h
  have hfit := flat_trod 1 _ _ _ _ _ hf hfu
  rw [hc] at hfit
  exact hP v hfit.1
theorem rep_row {α : Type} {W : World} {a : Option Addr} {n cap sz : Nat} {en : α → List Value} {l : List α} (hx : rowV W a n sz en l) (hc : n ≤ cap) (hm : cap ≤ maxLen) (hnil : a = none → cap = 0) (hen : ∀ a, (en a).length = sz) : Rep (st0 W) (.slf sz l.length (l.flatMap en)) (.slice a n cap) := by
  obtain ⟨rfl, hx⟩ := hx
  refine .slf (flat_len hen l) hc hm hnil ?_
  rcases hx with rfl | ⟨b, off, rfl, hlt, hcell⟩
  · exact .inl rfl
  · refine .inr ⟨b, off, rfl, hlt, fun j u hj => ?_⟩
    show W.cell? ⟨b, off + j, none⟩ = some u
    have hjl : j < l.length * sz := by rw [← flat_len hen l]; exact (List.getElem?_eq_some_iff.1 hj).1
    have hsz : 0 < sz := by
      rcases Nat.eq_zero_or_pos sz with e | e
      · rw [e] at hjl; omega
      · exact e
    have hq : j / sz < l.length := (Nat.div_lt_iff_lt_mul hsz).2 hjl
    have hr := Nat.mod_lt j hsz
    have e : j = j / sz * sz + j % sz := by rw [Nat.mul_comm]; exact (Nat.div_add_mod j sz).symm
    rw [e, flat_cell hen hq hr] at hj
    have := hcell (j / sz) hq (j % sz) hr
    rw [hj] at this
    rw [e, ← Nat.add_assoc]
    exact this
end
end Go.Proofs.YtaekkjhpdendoaaDoor

namespace Go.Proofs.YtaekkjhpdendoaaDoor
set_option linter.unusedVariables false
set_option linter.unusedSimpArgs false
open Go.RowKit
section
variable {P : Program} {pc : Bool} {o : Oper} {F : Fr} {M : List Blk}
/-- a place of a variable that stays -/
theorem op_ixg {T : TypeId} {x y : Operand} {n sz g i : Nat} {k : IntKind} {z : Int} {L : List Value} (ho : o.op = .indexAddr T x y) (hT : arE P T = some (n, sz)) (hx : Ev pc F x (.val (.pointer (some ⟨g, 0, none⟩)))) (hy : Ev pc F y (.val (.int k z))) (hM : M[i]? = some (.glob g L)) (h : pc = true → 0 ≤ z ∧ z < n) : DOp P pc o F M [i] (.dpf (L.drop (z.toNat * sz))) [] := by
  intro hp a s hok hops hfp
  have hr := (ev_at hp hx (by simp [ho, Op.operands]) hops).val_eq
  have h2 := (ev_at hp hy (by simp [ho, Op.operands]) hops).val_eq
  obtain ⟨h0, h1⟩ := h hp
  have hM' : s.M[i]? = some (.glob g L) := by rw [hfp i (by simp)]; exact hM
  have hil : i < s.β.length := by rw [hok.len]; exact (List.getElem?_eq_some_iff.1 hM').1
  obtain ⟨_, hI, hc⟩ := hok.blk i _ _ hM' (List.getElem?_eq_getElem hil)
  have hrun := run_index_arr (P := P) (w := s.w) ho hT hr h2 h0 h1
  refine dg_val hok hrun (.dpf hI fun j v hj => ?_)
  rw [List.getElem?_drop] at hj
  have := hc _ v hj
  rw [← Nat.add_assoc] at this
  exact this
end
end Go.Proofs.YtaekkjhpdendoaaDoor

namespace Go.Proofs.YtaekkjhpdendoaaDoor
set_option linter.unusedVariables false
set_option linter.unusedSimpArgs false
set_option maxRecDepth 100000
open Go.ChangeShapes Go.WideShapes Go.ChangeAt Go.RowKit Go.Joins Go.Deep
/-- a variable's cells -/
def globMet (W : World) (g : Nat) (L : List Value) : Prop := g < W.heap.size ∧ cellsAt W g 0 L
def st0G (W : World) (g : Nat) (L : List Value) : St := ⟨[.bool true], fun b => b < W.heap.size, [.glob g L], W⟩
theorem ok_st0G {W : World} {g : Nat} {L : List Value} (hG : globMet W g L) : Ok (st0G W g L) := by
  have one : ∀ (i : Nat) (k : Blk) (h : Value), (st0G W g L).M[i]? = some k → (st0G W g L).β[i]? = some h → i = 0 ∧ k = .glob g L ∧ h = .bool true := fun i k h h1 h2 => by
    match i with
    | 0 => cases h1; cases h2; exact ⟨rfl, rfl, rfl⟩
    | i + 1 => simp [st0G] at h1
  have none : ∀ b, ¬ Live (st0G W g L) b := by
    rintro b ⟨i, k, h, h1, _, h3, h4⟩
    obtain ⟨rfl, rfl, rfl⟩ := one i k h h1 h3
    cases h4
  refine ⟨rfl, fun i k h hk hh => ?_, fun b hb => absurd hb (none b), fun i j k k' h h' b h1 h2 h3 h4 => absurd (live_of h1 h2 h3 h4) (none b), fun b hb => hb⟩
  obtain ⟨rfl, rfl, rfl⟩ := one i k h hk hh
  exact ⟨rfl, hG.1, hG.2⟩
def WalkedG (g : Nat) (L : List Value) (f : FuncId) (ts : List TypeId) : Prop := ∀ (H : Type) (enc : TypeId × Value → H) (W : World) (base : Nat) (args : Array Value) (ds : List (DataW H)) (p : List MemPlace),
  globMet W g L → DataW.TrodAll enc Tryd.prog W 0 (fun _ => true) true ts args.toList ds p → (∀ (j : Nat) t v, ts[j]? = some t → args[j]? = some v → Value.okWide Tryd.prog W .any base t v) →
  Calls Tryd.prog f args W fun e W' => e = .returned (.bool true) ∧ Below W.heap.size W W'
theorem walked_ofG {g : Nat} {L : List Value} {f : FuncId} {ts : List TypeId} (h : ∀ (H : Type) (enc : TypeId × Value → H) (W : World) (base : Nat) (args : Array Value) (ds : List (DataW H)) (p : List MemPlace),
    DataW.TrodAll enc Tryd.prog W 0 (fun _ => true) true ts args.toList ds p → (∀ (j : Nat) t v, ts[j]? = some t → args[j]? = some v → Value.okWide Tryd.prog W .any base t v) →
    ∃ Ds : List D, Reps (st0 W) Ds args.toList ∧ DFun Tryd.prog f Ds [.glob g L] (.val (.bool true)) [.glob g L]) : WalkedG g L f ts := by
  intro H enc W base args ds p hG hA hval
  obtain ⟨Ds, hr, hf⟩ := h H enc W base args ds p hA hval
  have hr' : Reps (st0G W g L) Ds args.toList := ⟨hr.1, fun j e u hj hu => (hr.2 j e u hj hu).monoK (s := st0 W) (s' := st0G W g L) ⟨fun i h hi => by simp [st0] at hi, fun i hs hi => by simp [st0] at hi⟩ (fun _ h => h) (fun _ _ => rfl)⟩
  have := hf.2 (st0G W g L) args.toList (ok_st0G hG) rfl hr'
  rw [Array.toArray_toList] at this
  refine this.mono ?_
  rintro e w' ⟨s', rfl, ht, hor⟩
  rcases hor with ⟨d, v, rfl, hrep, rfl, _⟩ | ⟨_, _, _, _, hf⟩
  · refine ⟨by rw [hrep.val_eq], ht.os, ht.tape, ht.output, ht.size, fun k hk => ht.keep k hk fun hl => ?_⟩
    obtain ⟨i, kk, h, h1, _, h3, h4⟩ := hl
    match i with
    | 0 => cases h1; cases h3; cases h4
    | i + 1 => simp [st0G] at h1
  · exact hf.elim
/-- what a listed variable reads as -/
theorem laid_reads {P : Program} {w : World} : ∀ {l : List (String × DataW Unit)} {ps : List MemPlace}, DataW.LaidVars P w l ps → ∀ n d, (n, d) ∈ l →
    ∃ g t cs fuel p, P.globalNamed n = some g ∧ (P.globals[g]?).map (·.type) = some t ∧ w.var? P n = some cs ∧ DataW.trod (fun _ => ()) P w 0 (fun _ => true) false fuel t cs.toList = some (d, p)
  | [], _, _, _, _, hm => by cases hm
  | (n', d') :: r, ps, h, n, d, hm => by
    obtain ⟨g, t, cs, fuel, p, q, h1, h2, h3, h4, h5, _⟩ := h
    rcases List.mem_cons.1 hm with e | e
    · cases e
      exact ⟨g, t, cs, fuel, p, h1, h2, h3, h4⟩
    · exact laid_reads h5 n d e
theorem glob_of_laid {P : Program} {W : World} {laid : List (String × DataW Unit)} {name : String} {g : Nat} {t e : TypeId} {n : Nat} {k : IntKind} {zs : List Int} (hf : (laid.filter fun x => x.2.handleName?.isSome) = []) (hm : (name, Go.Lib.tabData k zs) ∈ laid)
    (hg : P.globalNamed name = some g) (hty : (P.globals[g]?).map (·.type) = some t) (ht : P.underlying t = some (.array n e)) (he : P.underlying e = some (.int k)) (hce : P.cellsOf e = 1) (hct : P.cellsOf t = n)
    (h : laidMetH P laid W) : globMet W g (zs.map fun z => Value.int k z) := by
  unfold laidMetH at h
  rw [hf] at h
  obtain ⟨ps, hv, _⟩ := h
  obtain ⟨g', t', cs, fuel, p, h1, h2, h3, h4⟩ := laid_reads hv name _ hm
  obtain rfl := Option.some.inj (hg.symm.trans h1)
  obtain rfl := Option.some.inj (hty.symm.trans h2)
  have hcs := Go.Lib.cells_of_tab ht he hce hct h4
  unfold World.var? at h3
  rw [hg] at h3
  simp only [Option.bind_some] at h3
  split at h3
  · rename_i cs' T fz hb
    obtain rfl := Option.some.inj h3
    have hlt := (Array.getElem?_eq_some_iff.1 hb).1
    refine ⟨hlt, ?_⟩
    have := cellsAt_block hb 0
    rw [List.drop_zero, hcs] at this
    exact this
  · cases h3
theorem lift_laidG {g : Nat} {L : List Value} {s : ChangeSpec} {f : FuncId} {fn : Func} {laid : List (String × DataW Unit)} (hG : ∀ W, laidMetH Tryd.prog laid W → globMet W g L) {conds : List PathCond} {os : Os} (started : os.Started) {H : Type} {enc : TypeId × Value → H} (noInit : Tryd.checked.prog.inits.idxOf? f = none) (hfn : Tryd.checked.prog.funcs[f]? = some fn)
    (witness : ∃ (w : World) (tape : Tape) (i : Input), w.os = os ∧ (w.forCall tape i).Shaped Tryd.checked.prog ∧ i.vars = [] ∧ Input.okWide Tryd.checked.prog (w.forCall tape i) .any w.heap.size f i ∧
      ((s.pre enc Tryd.checked.prog fn conds false (w.forCall tape i).memory i.args ∧ laidMetH Tryd.prog laid (w.forCall tape i).memory) ∧ sizedMet enc Tryd.checked.prog fn (OpenSpec.ofChange s) false (w.forCall tape i).memory i.args) ∧ ({} : Assume).holds Tryd.checked.prog (lone (Frame.enter Tryd.checked.prog f i.args .normal) [] (w.forCall tape i)))
    (ts : List TypeId) (tb : TypeId) (hts : fn.params.toList = ts) (hr : fn.resultTypes.toList = [tb]) (hb : Tryd.prog.underlying tb = some .bool) (hrow : ts.all (fun t => Tryd.prog.readableRec t && decide (t < Tryd.prog.types.size)) = true)
    (hvars : s.vars = []) (hs : ∀ ds : List (DataW H), ds.length = ts.length → s.fn H ds = { results := [.lit (.bool true)], args := ds }) (hw : WalkedG g L f ts) :
    ReturnsInHanded {} Tryd.checked os f .any (fun w args => (s.pre enc Tryd.prog fn conds false w args ∧ laidMetH Tryd.prog laid w) ∧ sizedMet enc Tryd.prog fn (OpenSpec.ofChange s) false w args) (s.post enc Tryd.prog fn false true false false) := by
  refine returnsInHanded_of_change_and (C := Tryd.checked) (X := fun w _ => laidMetH Tryd.prog laid w) (fun _ _ _ hh h => h.of_heap hh) ownKnobN started noInit hfn witness ?_
  intro W base args ds gs before hval0 hW _ _ hXW _
  have hval : ∀ (j : Nat) t v, fn.params[j]? = some t → args[j]? = some v → Value.okWide Tryd.prog W .any base t v := hval0
  have hW' := hW
  obtain ⟨p, q, hA0, hV, rfl, hnf, hap⟩ := hW
  have hA : DataW.TrodAll enc Tryd.prog W 0 (fun _ => true) true ts args.toList ds p := by rw [← hts]; exact hA0
  rw [hvars] at hV
  obtain ⟨rfl, rfl⟩ := trodVars_none hV
  simp only [List.append_nil] at hW'
  have hlt : ∀ x ∈ p, x.block < W.heap.size := fun x hx => by simpa using hW'.lt x hx
  have hlen := trodAll_len _ _ _ _ hA
  have hsz : fn.resultTypes.size = 1 := by rw [← Array.length_toList, hr]; rfl
  refine (hw H enc W base args ds p (hG W hXW) hA (fun j t v h1 h2 => hval j t v (by rw [← Array.getElem?_toList, hts]; exact h1) h2)).mono fun e W' ⟨he, hB⟩ => ?_
  subst he
  refine ⟨_, rfl, ds, [], p, [], p, [], ?_, ?_, ?_, ?_, hB.frame _, fun h => by cases h⟩
  · exact hW'
  · rw [List.append_nil, hs ds hlen, hr, hsz]
    exact trodAll_mk1 (shut_bool hb true)
  · rw [List.append_nil, hs ds hlen, hts]
    exact trodAll_stays laidOutN ts args.toList ds p hrow hA hB hlt
  · rw [List.append_nil, hs ds hlen, hvars]
    rfl
end Go.Proofs.YtaekkjhpdendoaaDoor

namespace Go.Proofs.YtaekkjhpdendoaaDoor
set_option linter.unusedVariables false
set_option linter.unusedSimpArgs false
open Go.RowKit
section
variable {P : Program} {s0 : St} {n : Cx}
end
section
variable {P : Program} {pc : Bool} {o : Oper} {F : Fr} {M : List Blk} {T T' : TypeId} {x y : Operand} {i n sz : Nat} {k : IntKind} {z : Int} {α : Type} {en : α → List Value} {l : List α} {j : Nat}
/-- an element of an array of one's own -/
theorem op_ixfr (ho : o.op = .indexAddr T x y) (hT : arE P T = some (n, sz)) (hx : Ev pc F x (.loc i 0)) (hy : Ev pc F y (.val (.int k z))) (hz : pc = true → z = (j : Int)) (hj : pc = true → j < n) : DOp P pc o F M [] (.loc i (j * sz)) [] := fun hp => by
  have h := op_ixl (M := M) ho hT hx hy (fun hp => by have := hz hp; have := hj hp; omega) hp
  rwa [Nat.zero_add, show z.toNat = j by have := hz hp; omega] at h
theorem op_ldf1 {v : Value} {q : Nat} (a0 : α) (ho : o.op = .load T x) (hT : tyB P T = some (false, q)) (hx : Ev pc F x (.loc i (j * sz))) (hM : M[i]? = some (.flat T' (l.flatMap en))) (hen : ∀ a, (en a).length = sz) (hsz : 0 < sz) (hj : pc = true → j < l.length) (hv : (en (l.getD j a0))[0]? = some v) : DOp P pc o F M [i] (.val v) [] := fun hp =>
  op_ldo ho hT hx hM (by have := flat_cell (c := 0) hen (hj hp) hsz; rw [Nat.add_zero] at this; rw [this, ← getD_at (a0 := a0) (hj hp)]; exact hv) hp
theorem op_stfr {rw' : Bool} {q : α} {v : Value} (ho : o.op = .store T x y) (hT : tyB P T = some (rw', sz)) (hx : Ev pc F x (.loc i (j * sz))) (hy : Ev pc F y (.val v)) (hM : M[i]? = some (.flat T' (l.flatMap en))) (hv : v.cells.toList = en q) (h1 : (en q).all (·.oneCell') = true) (hen : ∀ a, (en a).length = sz) (hj : pc = true → j < l.length) : DOp P pc o F M [i] .junk [(i, .flat T' ((l.set j q).flatMap en))] := fun hp =>
  op_st ho hT hx hy hM hv (hen q) h1 (by
    rw [flat_len hen, hen]
    calc j * sz + sz = (j + 1) * sz := by rw [Nat.succ_mul]
      _ ≤ l.length * sz := Nat.mul_le_mul_right _ (hj hp)) (flat_set hen (hj hp) q) hp
end
section
variable {P : Program} {pc : Bool} {o : Oper} {F : Fr} {M : List Blk}
end
section
variable {P : Program} {s0 : St} {n : Cx}
end
end Go.Proofs.YtaekkjhpdendoaaDoor

namespace Go.Proofs.YtaekkjhpdendoaaDoor
set_option linter.unusedVariables false
set_option linter.unusedSimpArgs false
open Go.RowKit
section
variable {P : Program} {ops : Array Oper} {si sj k : Nat} {fpi : List Nat} {M' : List Blk} {o : Oper} {rest : List Oper} {fp wi : List Nat} {fps : List (List Nat × List Nat)} {F : Fr} {M M1 : List Blk} {Q : Fr → List Blk → Prop} {d : D} {wr : List (Nat × Blk)} {t : Nat}
end
section
variable {P : Program} {pc : Bool} {o : Oper} {F : Fr} {M : List Blk}
end
theorem op_neg' {P : Program} {pc : Bool} {o : Oper} {F : Fr} {M : List Blk} {T : TypeId} {x : Operand} {k : IntKind} {p : Int} (ho : o.op = .unOp .neg T x) (hx : Ev pc F x (.val (.int k p))) (h : pc = true → k.wrap (-p) = -p) : DOp P pc o F M [] (.val (.int k (-p))) [] := fun hp => by
  have := op_neg (P := P) (M := M) ho hx hp
  rwa [Int.zero_sub, h hp] at this
section
variable {P : Program} {pc : Bool} {o : Oper} {F : Fr} {M : List Blk}
end
end Go.Proofs.YtaekkjhpdendoaaDoor

namespace Go.Proofs.YtaekkjhpdendoaaDoor
set_option linter.unusedVariables false
set_option linter.unusedSimpArgs false
open Go.RowKit
theorem mixed : Tryd.prog.follows .mixedOrders = true := by kernel_rfl
theorem ar91 : arE Tryd.prog 91 = some (3, 1) := by kernel_rfl
theorem eq27 {a0 : Int} {a1 : Int} {a2 : Int} {b0 : Int} {b1 : Int} {b2 : Int} : eqT Tryd.prog 9 27 [.int .u64 a0, .int .i64 a1, .int .u64 a2] [.int .u64 b0, .int .i64 b1, .int .u64 b2] = some ((a0 == b0) && ((a1 == b1) && ((a2 == b2) && true))) := by kernel_rfl
theorem fl27 : fdL Tryd.prog 27 = some [(0, 1), (1, 1), (2, 1)] := by kernel_rfl
theorem fl40 : fdL Tryd.prog 40 = some [(0, 1), (1, 1), (2, 1)] := by kernel_rfl
theorem fl81 : fdL Tryd.prog 81 = some [(0, 3)] := by kernel_rfl
theorem fo27_0 : fdO Tryd.prog 27 0 = some 0 := by kernel_rfl
theorem fo27_1 : fdO Tryd.prog 27 1 = some 1 := by kernel_rfl
theorem fo27_2 : fdO Tryd.prog 27 2 = some 2 := by kernel_rfl
theorem fo40_0 : fdO Tryd.prog 40 0 = some 0 := by kernel_rfl
theorem fo40_1 : fdO Tryd.prog 40 1 = some 1 := by kernel_rfl
theorem fo40_2 : fdO Tryd.prog 40 2 = some 2 := by kernel_rfl
theorem fo81_0 : fdO Tryd.prog 81 0 = some 0 := by kernel_rfl
theorem gd27 : Tryd.prog.eqGuardType Tryd.prog.depth 27 = false := by kernel_rfl
theorem kn25 : knd Tryd.prog 25 = some .u64 := by kernel_rfl
theorem kn3 : knd Tryd.prog 3 = some .i64 := by kernel_rfl
theorem ni89 : niF Tryd.prog 89 = true := by kernel_rfl
theorem sl22 : slE Tryd.prog 22 = some (27, 3, 24) := by kernel_rfl
theorem sl37 : slE Tryd.prog 37 = some (25, 1, 8) := by kernel_rfl
theorem sl96 : slE Tryd.prog 96 = some (3, 1, 8) := by kernel_rfl
theorem tb25 : tyB Tryd.prog 25 = some (false, 1) := by kernel_rfl
theorem tb27 : tyB Tryd.prog 27 = some (true, 3) := by kernel_rfl
theorem tb28 : tyB Tryd.prog 28 = some (false, 1) := by kernel_rfl
theorem tb3 : tyB Tryd.prog 3 = some (false, 1) := by kernel_rfl
theorem tb31 : tyB Tryd.prog 31 = some (false, 1) := by kernel_rfl
theorem tb40 : tyB Tryd.prog 40 = some (true, 3) := by kernel_rfl
theorem tb81 : tyB Tryd.prog 81 = some (true, 3) := by kernel_rfl
theorem tb89 : tyB Tryd.prog 89 = some (true, 0) := by kernel_rfl
theorem tb91 : tyB Tryd.prog 91 = some (true, 3) := by kernel_rfl
theorem ty21 : (tyB Tryd.prog 21).isSome = true := by kernel_rfl
theorem ty25 : (tyB Tryd.prog 25).isSome = true := by kernel_rfl
theorem ty3 : (tyB Tryd.prog 3).isSome = true := by kernel_rfl
theorem un4 : Tryd.prog.underlying 4 = some .bool := by kernel_rfl
theorem un9 : Tryd.prog.underlying 9 = some .string := by kernel_rfl
theorem zr25 : zrC Tryd.prog 25 = some [.int .u64 0] := by kernel_rfl
theorem zr27 : zrC Tryd.prog 27 = some [.int .u64 0, .int .i64 0, .int .u64 0] := by kernel_rfl
theorem zr28 : zrC Tryd.prog 28 = some [.int .i64 0] := by kernel_rfl
theorem zr3 : zrC Tryd.prog 3 = some [.int .i64 0] := by kernel_rfl
theorem zr40 : zrC Tryd.prog 40 = some [.int .i64 0, .int .u64 0, .int .u64 0] := by kernel_rfl
theorem zr81 : zrC Tryd.prog 81 = some [.int .i64 0, .int .u64 0, .int .u64 0] := by kernel_rfl
theorem zr89 : zrC Tryd.prog 89 = some [] := by kernel_rfl
theorem zr91 : zrC Tryd.prog 91 = some [.int .u64 0, .int .u64 0, .int .u64 0] := by kernel_rfl
theorem zv89 : zrV Tryd.prog 89 = some (.agg #[]) := by kernel_rfl
structure I3 where
  t : Int
  s : Int
  q : Int
deriving DecidableEq
def idc (i : I3) : List Value := [.int .u64 i.t, .int .i64 i.s, .int .u64 i.q]
abbrev idD (i : I3) : D := .val (.agg #[.int .u64 i.t, .int .i64 i.s, .int .u64 i.q])
def ic (n : Int) : List Value := [.int .i64 n]
def uc (n : Int) : List Value := [.int .u64 n]
abbrev rowI (l : List Int) : D := .slf 1 l.length (l.flatMap ic)
abbrev rowU (l : List Int) : D := .slf 1 l.length (l.flatMap uc)
abbrev rowD (l : List I3) : D := .slf 3 l.length (l.flatMap idc)
def isNum (n : Int) : Bool := decide (1 ≤ n) && decide (n ≤ 4611686018427387904)
def isSt (n : Int) : Bool := decide (1 ≤ n) && decide (n ≤ 8)
def mayR (i : I3) : Bool := isNum i.t && (isSt i.s && isNum i.q)
def errOr (b : Bool) (n : Int) : Int := match b with | true => 0 | false => n
def lessR (a b : I3) : Bool := if a.t ≠ b.t then decide (a.t < b.t) else if a.s ≠ b.s then decide (a.s < b.s) else decide (a.q < b.q)
def cmpI (x y : Int) : Int := if x < y then -1 else if y < x then 1 else 0
def orL : List Int → Int
  | [] => 0
  | a :: l => if a ≠ 0 then a else orL l
theorem orL_drop {l : List Int} {k : Nat} (h : k < l.length) : orL (l.drop k) = if l[k] ≠ 0 then l[k] else orL (l.drop (k + 1)) := by
  rw [List.drop_eq_getElem_cons h, orL]
def eqI (a b : I3) : Bool := (a.t == b.t) && ((a.s == b.s) && ((a.q == b.q) && true))
theorem eqI_iff {a b : I3} : eqI a b = true ↔ a = b := by
  obtain ⟨t, s, q⟩ := a
  obtain ⟨t', s', q'⟩ := b
  simp [eqI]
theorem eqI_no {a b : I3} : eqI a b = false ↔ a ≠ b := by
  rw [← Bool.not_eq_true, eqI_iff]
def cmpR (a b : I3) : Int := if eqI a b then 0 else orL [cmpI a.t b.t, cmpI a.s b.s, cmpI a.q b.q]
def lessC (a b : I3) : Bool := decide (cmpR a b < 0)
def sgnC (a b : I3) : Int := if lessC a b then -1 else if lessC b a then 1 else 0
def sink (j : Nat) (l : List I3) : List I3 :=
  if h : 0 < j ∧ j < l.length then
    if sgnC l[j] l[j - 1] < 0 then sink (j - 1) ((l.set j l[j - 1]).set (j - 1) l[j]) else l
  else l
termination_by j
decreasing_by omega
theorem sink_go {j : Nat} {l : List I3} (h : 0 < j) (h2 : j < l.length) (h3 : sgnC l[j] l[j - 1] < 0) : sink j l = sink (j - 1) ((l.set j l[j - 1]).set (j - 1) l[j]) := by
  conv => lhs; rw [sink]
  rw [dif_pos ⟨h, h2⟩, if_pos h3]
theorem sink_stop {j : Nat} {l : List I3} (h : ¬ (0 < j) ∨ ∃ (h2 : j < l.length), ¬ sgnC l[j] l[j - 1] < 0) : sink j l = l := by
  rw [sink]
  split
  · rename_i h'
    rcases h with h | ⟨_, h⟩
    · exact absurd h'.1 h
    · rw [if_neg h]
  · rfl
theorem sink_len : ∀ (j : Nat) (l : List I3), (sink j l).length = l.length := by
  intro j
  induction j with
  | zero => intro l; rw [sink_stop (.inl (by omega))]
  | succ j ih =>
    intro l
    by_cases h : j + 1 < l.length
    · by_cases h3 : sgnC l[j + 1] l[j + 1 - 1] < 0
      · rw [sink_go (by omega) h h3]; exact (ih _).trans (by simp)
      · rw [sink_stop (.inr ⟨h, h3⟩)]
    · rw [sink, dif_neg (fun q => h q.2)]
def srt : Nat → Nat → List I3 → List I3
  | 0, _, l => l
  | f + 1, i, l => srt f (i + 1) (sink i l)
theorem srt_len : ∀ (f i : Nat) (l : List I3), (srt f i l).length = l.length
  | 0, _, _ => rfl
  | f + 1, i, l => by rw [srt, srt_len f, sink_len]
def isortC (l : List I3) : List I3 := srt (l.length - 1) 1 l
theorem isortC_len (l : List I3) : (isortC l).length = l.length := srt_len _ _ _
theorem bn_t {b : Bool} (h : (!b) = true) : b = false := by cases b <;> simp_all
theorem bn_f {b : Bool} (h : (!b) = false) : b = true := by cases b <;> simp_all
theorem lessR_self (a : I3) : lessR a a = false := by simp [lessR]
theorem cmpR_eq (a b : I3) : cmpR a b = if lessR a b then -1 else if lessR b a then 1 else 0 := by
  obtain ⟨t, s, q⟩ := a
  obtain ⟨t', s', q'⟩ := b
  by_cases e : (⟨t, s, q⟩ : I3) = ⟨t', s', q'⟩
  · cases e
    simp [cmpR, eqI, lessR_self]
  · have h : eqI ⟨t, s, q⟩ ⟨t', s', q'⟩ = false := eqI_no.2 e
    simp only [cmpR, h, orL, cmpI, lessR]
    by_cases h1 : t = t'
    · subst h1
      by_cases h2 : s = s'
      · subst h2
        have h3 : q ≠ q' := fun x => e (by rw [x])
        rcases Int.lt_or_gt_of_ne h3 with g | g
        · simp [g, h3]
        · simp [g, h3.symm, h3, Int.not_lt.2 (Int.le_of_lt g)]
      · rcases Int.lt_or_gt_of_ne h2 with g | g
        · simp [g, h2]
        · simp [g, h2, Ne.symm h2, Int.not_lt.2 (Int.le_of_lt g)]
    · rcases Int.lt_or_gt_of_ne h1 with g | g
      · simp [g, h1]
      · simp [g, h1, Ne.symm h1, Int.not_lt.2 (Int.le_of_lt g)]
theorem lessC_eq (a b : I3) : lessC a b = lessR a b := by
  unfold lessC
  rw [cmpR_eq]
  cases h : lessR a b <;> cases h2 : lessR b a <;> simp
structure C3 where
  s : Int
  t : Int
  q : Int
deriving DecidableEq
def ckc (c : C3) : List Value := [.int .i64 c.s, .int .u64 c.t, .int .u64 c.q]
abbrev ckD (c : C3) : D := .val (.agg #[.int .i64 c.s, .int .u64 c.t, .int .u64 c.q])
def zC : C3 := ⟨0, 0, 0⟩
def zI : I3 := ⟨0, 0, 0⟩
def clkR (c : C3) : Bool := isSt c.s && (decide (c.t ≤ 4611686018427387904) && decide (c.q ≤ 4611686018427387904))
def C3.rng (c : C3) : Prop := 0 ≤ c.t ∧ 0 ≤ c.q
def stepC (c : C3) : C3 := ⟨c.s, c.t + 1, c.q + 1⟩
def stepI (c : C3) : I3 := ⟨c.t + 1, c.s, c.q + 1⟩
def lateC (c : C3) : Bool := (c.t == 4611686018427387904) || (c.q == 4611686018427387904)
def nextC (c : C3) : C3 × I3 × Int := if clkR c then (if lateC c then (zC, zI, 212) else (stepC c, stepI c, 0)) else (zC, zI, 211)
def over (t : Int) : Bool := decide (4611686018427387904 < t)
def ixU : List Int → Nat → Int
  | [], _ => -1
  | a :: l, k => if over a then (k : Int) else ixU l (k + 1)
theorem ixU_drop {l : List Int} {k : Nat} (h : k < l.length) : ixU (l.drop k) k = if over l[k] then (k : Int) else ixU (l.drop (k + 1)) (k + 1) := by
  rw [List.drop_eq_getElem_cons h, ixU]
theorem ixU_any : ∀ (l : List Int) (k : Nat), decide (0 ≤ ixU l k) = l.any over
  | [], _ => by simp [ixU]
  | a :: l, k => by
    rw [ixU, List.any_cons]
    cases h : over a
    · simpa using ixU_any l (k + 1)
    · simp
def maxT (t : Int) (l : List Int) : Int := l.foldl max t
theorem maxT_take {t : Int} {l : List Int} {k : Nat} (h : k < l.length) : maxT t (l.take (k + 1)) = max (maxT t (l.take k)) l[k] := by
  rw [List.take_succ_eq_append_getElem h, maxT, List.foldl_append]; rfl
def seeC (c : C3) (l : List Int) : C3 × Int := if clkR c then (if l.any over then (zC, 2) else (⟨c.s, maxT c.t l, c.q⟩, 0)) else (zC, 211)
theorem okE {b : Bool} {n : Int} (hn : n ≠ 0) (h : errOr b n = 0) : b = true := by cases b <;> simp_all [errOr]
theorem badE {b : Bool} {n : Int} (h : ¬ errOr b n = 0) : b = false := by cases b <;> simp_all [errOr]
theorem give_ok {c : C3} (hr : c.rng) (h : clkR c = true) (h2 : ¬ c.t = 4611686018427387904 ∧ ¬ c.q = 4611686018427387904) : (0 ≤ c.t ∧ c.t < 4611686018427387904) ∧ (0 ≤ c.q ∧ c.q < 4611686018427387904) := by
  obtain ⟨h3, h4⟩ := hr
  simp only [clkR, Bool.and_eq_true, decide_eq_true_eq] at h
  omega
theorem lessR_iff (a b : I3) : lessR a b = true ↔ a.t < b.t ∨ (a.t = b.t ∧ (a.s < b.s ∨ (a.s = b.s ∧ a.q < b.q))) := by
  unfold lessR
  by_cases h1 : a.t = b.t
  · rw [if_neg (by simpa using h1)]
    by_cases h2 : a.s = b.s
    · rw [if_neg (by simpa using h2)]
      simp only [decide_eq_true_eq]
      omega
    · rw [if_pos h2]
      simp only [decide_eq_true_eq]
      omega
  · rw [if_pos h1]
    simp only [decide_eq_true_eq]
    omega
theorem lt_le {x a b : I3} (h : lessR x a = true) (hab : lessR b a = false) : lessR x b = true := by
  rw [lessR_iff] at *
  have : ¬ (b.t < a.t ∨ (b.t = a.t ∧ (b.s < a.s ∨ (b.s = a.s ∧ b.q < a.q)))) := fun h' => by rw [(lessR_iff b a).2 h'] at hab; cases hab
  omega
theorem lt_asymm' {x a : I3} (h : lessR x a = true) : lessR a x = false := by
  rw [← Bool.not_eq_true]
  intro h'
  rw [lessR_iff] at *
  omega
theorem sgnC_neg (a b : I3) : sgnC a b < 0 ↔ lessR a b = true := by
  unfold sgnC
  rw [lessC_eq, lessC_eq]
  cases lessR a b <;> cases lessR b a <;> simp
/-- inserted from the right -/
def insR : List I3 → I3 → List I3
  | P, x => ((P.reverse.dropWhile fun y => lessR x y).reverse) ++ x :: (P.reverse.takeWhile fun y => lessR x y).reverse
theorem insR_go (P : List I3) (y x : I3) (h : lessR x y = true) : insR (P ++ [y]) x = insR P x ++ [y] := by
  unfold insR; simp [h]
theorem insR_stop (P : List I3) (y x : I3) (h : lessR x y = false) : insR (P ++ [y]) x = P ++ [y] ++ [x] := by
  unfold insR; simp [h]
theorem insR_len (P : List I3) (x : I3) : (insR P x).length = P.length + 1 := by
  unfold insR
  simp only [List.length_append, List.length_cons, List.length_reverse]
  have := congrArg List.length (List.takeWhile_append_dropWhile (p := fun y => lessR x y) (l := P.reverse))
  simp only [List.length_append, List.length_reverse] at this
  omega
theorem sink_ins : ∀ (n : Nat) (P : List I3) (x : I3) (R : List I3), P.length = n → sink n (P ++ x :: R) = insR P x ++ R := by
  intro n
  induction n with
  | zero =>
    intro P x R h
    obtain rfl := List.eq_nil_of_length_eq_zero h
    rw [sink_stop (.inl (by omega))]
    rfl
  | succ n ih =>
    intro P x R h
    rcases List.eq_nil_or_concat P with e | ⟨Q, y, e⟩
    · subst e; simp at h
    · rw [List.concat_eq_append] at e
      subst e
      have hQ : Q.length = n := by simpa using h
      subst hQ
      have g1 : (Q ++ [y] ++ x :: R)[Q.length + 1]'(by simp <;> omega) = x := by
        rw [List.getElem_append_right (by simp)]; simp
      have g2 : (Q ++ [y] ++ x :: R)[Q.length + 1 - 1]'(by simp <;> omega) = y := by
        rw [List.getElem_append_left (by simp)]; simp
      cases hl : lessR x y with
      | true =>
        rw [sink_go (by omega) (by simp <;> omega) (by rw [g1, g2]; exact (sgnC_neg _ _).2 hl), insR_go _ _ _ hl, g1, g2]
        have e2 : ((Q ++ [y] ++ x :: R).set (Q.length + 1) y).set (Q.length + 1 - 1) x = Q ++ x :: y :: R := by
          rw [List.append_assoc, List.set_append_right _ _ (by omega), show Q.length + 1 - Q.length = 1 by omega, show Q.length + 1 - 1 = Q.length by omega, List.set_append_right _ _ (by omega)]
          simp
        rw [e2, show Q.length + 1 - 1 = Q.length by omega, ih Q x (y :: R) rfl]
        simp
      | false =>
        rw [sink_stop (.inr ⟨by simp <;> omega, by rw [g1, g2, sgnC_neg, hl]; simp⟩), insR_stop _ _ _ hl]
        simp
theorem srt_ins : ∀ (R P : List I3), srt R.length P.length (P ++ R) = R.foldl insR P
  | [], P => by simp [srt]
  | x :: R, P => by
    rw [List.length_cons, srt, sink_ins P.length P x R rfl, List.foldl_cons, ← srt_ins R (insR P x), insR_len]
def sortR (l : List I3) : List I3 := l.foldl insR []
theorem isortC_eq (l : List I3) : isortC l = sortR l := by
  unfold isortC sortR
  cases l with
  | nil => rfl
  | cons a r => exact srt_ins r [a]
/-- inserted from the left -/
def placeL (P : List I3) (x : I3) : Nat := (P.takeWhile fun y => !lessR x y).length
def insL (P : List I3) (x : I3) : List I3 := P.take (placeL P x) ++ x :: P.drop (placeL P x)
def upI' (P : List I3) : Prop := P.Pairwise fun a b => lessR b a = false
theorem insL_eq (P : List I3) (x : I3) : insL P x = (P.takeWhile fun y => !lessR x y) ++ x :: (P.dropWhile fun y => !lessR x y) := by
  have e : P = (P.takeWhile fun y => !lessR x y) ++ (P.dropWhile fun y => !lessR x y) := (List.takeWhile_append_dropWhile ..).symm
  have h : ∀ A B : List I3, P = A ++ B → P.take A.length = A ∧ P.drop A.length = B := by
    intro A B h; subst h; simp
  obtain ⟨h1, h2⟩ := h _ _ e
  unfold insL placeL
  rw [h1, h2]
theorem all_behind {P : List I3} (h : upI' P) (x : I3) : ∀ y ∈ P.dropWhile (fun y => !lessR x y), lessR x y = true := by
  induction P with
  | nil => intro y hy; cases hy
  | cons a P ih =>
    intro y hy
    obtain ⟨h1, h2⟩ := List.pairwise_cons.1 h
    rw [List.dropWhile_cons] at hy
    split at hy
    · exact ih h2 y hy
    · rename_i hn
      have ha : lessR x a = true := by simpa using hn
      rcases List.mem_cons.1 hy with rfl | hy
      · exact ha
      · exact lt_le ha (h1 y hy)
theorem insL_insR {P : List I3} (h : upI' P) (x : I3) : insL P x = insR P x := by
  rw [insL_eq]
  have hb := all_behind h x
  have ha : ∀ y ∈ P.takeWhile (fun y => !lessR x y), lessR x y = false := fun y hy => by
    have := List.all_eq_true.1 (List.all_takeWhile (p := fun y => !lessR x y) (l := P)) y hy
    simpa using this
  have e : P = (P.takeWhile fun y => !lessR x y) ++ (P.dropWhile fun y => !lessR x y) := (List.takeWhile_append_dropWhile ..).symm
  generalize P.takeWhile (fun y => !lessR x y) = A at *
  generalize P.dropWhile (fun y => !lessR x y) = B at *
  subst e
  have r1 : ∀ (n : Nat) (B : List I3), B.length = n → (∀ y ∈ B, lessR x y = true) → insR (A ++ B) x = A ++ x :: B := by
    intro n
    induction n with
    | zero =>
      intro B hn _
      obtain rfl := List.eq_nil_of_length_eq_zero hn
      rw [List.append_nil]
      rcases List.eq_nil_or_concat A with e | ⟨A', y, e⟩
      · subst e; rfl
      · subst e
        rw [List.concat_eq_append] at ha ⊢
        rw [insR_stop _ _ _ (ha y (by simp))]
    | succ n ih =>
      intro B hn hB
      rcases List.eq_nil_or_concat B with e | ⟨B', y, e⟩
      · subst e; simp at hn
      · subst e
        rw [List.concat_eq_append] at hn hB ⊢
        rw [← List.append_assoc, insR_go _ _ _ (hB y (by simp)), ih B' (by simpa using hn) (fun z hz => hB z (by simp [hz]))]
        simp
  exact (r1 _ B rfl hb).symm
theorem insL_up {P : List I3} (h : upI' P) (x : I3) : upI' (insL P x) := by
  have hb := all_behind h x
  rw [insL_eq]
  have ha : ∀ y ∈ P.takeWhile (fun y => !lessR x y), lessR x y = false := fun y hy => by
    have := List.all_eq_true.1 (List.all_takeWhile (p := fun y => !lessR x y) (l := P)) y hy
    simpa using this
  have e : P = (P.takeWhile fun y => !lessR x y) ++ (P.dropWhile fun y => !lessR x y) := (List.takeWhile_append_dropWhile ..).symm
  generalize P.takeWhile (fun y => !lessR x y) = A at *
  generalize P.dropWhile (fun y => !lessR x y) = B at *
  subst e
  unfold upI' at *
  rw [List.pairwise_append] at *
  obtain ⟨h1, h2, h3⟩ := h
  refine ⟨h1, List.pairwise_cons.2 ⟨fun b hb' => lt_asymm' (hb b hb'), h2⟩, fun a ha' b hb' => ?_⟩
  rcases List.mem_cons.1 hb' with rfl | hb'
  · exact ha a ha'
  · exact h3 a ha' b hb'
def sortD (l : List I3) : List I3 := l.foldl insL []
theorem sortD_up (l : List I3) : upI' (sortD l) ∧ sortD l = sortR l := by
  have : ∀ (l P : List I3), upI' P → upI' (l.foldl insL P) ∧ l.foldl insL P = l.foldl insR P := by
    intro l
    induction l with
    | nil => intro P h; exact ⟨h, rfl⟩
    | cons x l ih => intro P h; rw [List.foldl_cons, List.foldl_cons, ← insL_insR h]; exact ih _ (insL_up h x)
  exact this l [] List.Pairwise.nil
theorem sorted_eq (l : List I3) : isortC l = sortD l := (isortC_eq l).trans (sortD_up l).2.symm
end Go.Proofs.YtaekkjhpdendoaaDoor

namespace Go.Proofs.YtaekkjhpdendoaaDoor
set_option linter.unusedVariables false
set_option linter.unusedSimpArgs false
open Go.RowKit
section
variable {P : Program} {pc : Bool} {o : Oper} {F : Fr} {M : List Blk} {T e : TypeId} {by' : Nat} {x y : Operand}
end
section
variable {P : Program} {pc : Bool} {o : Oper} {F : Fr} {M : List Blk} {T T' : TypeId} {x y : Operand} {k k' : IntKind} {p q : Int}
theorem fdiv_pow (p : Int) (j : Nat) : p.fdiv (2 ^ j) = p / 2 ^ j := Int.fdiv_eq_ediv_of_nonneg _ (Int.le_of_lt (Int.pow_pos (by decide)))
theorem op_shr (j : Nat) (ho : o.op = .binOp .shr T x y T') (hx : Ev pc F x (.val (.int k p))) (hy : Ev pc F y (.val (.int k' q))) (hq : pc = true → q = (j : Int) ∧ j ≤ k.bits) : DOp P pc o F M [] (.val (.int k (p / 2 ^ j))) [] := by
  refine op_val2 hx hy (by simp [ho, Op.operands]) fun hp a w e1 e2 => ?_
  obtain ⟨h1, h2⟩ := hq hp
  subst h1
  unfold execOp
  simp only [ho, e1, e2]
  refine run_v ?_
  have hg : (eqGuard .shr T x y (.int k p) (.int k' (j : Int))).run P w = .ok () w := by unfold eqGuard; rfl
  rw [Sem.run_bind, hg]
  simp only [Result.andThen, binOp, Op.shift]
  rw [if_neg (by omega), Int.toNat_natCast, Nat.min_eq_left h2]
  simp [fdiv_pow]
end
section
variable {P : Program} {pc : Bool} {o : Oper} {F : Fr} {M : List Blk} {T : TypeId} {x lo hi mx : Operand} {n sz : Nat} {α : Type} {en : α → List Value} {l : List α} {k k1 k2 : IntKind} {lz hz mz : Int}
end
section
variable {P : Program} {pc : Bool} {o : Oper} {F : Fr} {M : List Blk} {T e : TypeId} {by' n : Nat} {ds : List D} {Z : List Value}
end
section
variable {P : Program} {pc : Bool} {o : Oper} {F : Fr} {M : List Blk}
end
section
variable {P : Program} {pc : Bool} {o : Oper} {F : Fr} {M : List Blk}
end
section
variable {P : Program} {pc : Bool} {o : Oper} {F : Fr} {M : List Blk}
end
end Go.Proofs.YtaekkjhpdendoaaDoor

namespace Go.Proofs.YtaekkjhpdendoaaDoor
set_option linter.unusedVariables false
set_option linter.unusedSimpArgs false
open Go.RowKit
section
variable {P : Program} {pc : Bool} {o : Oper} {F : Fr} {M : List Blk}
/-- a part's length -/
theorem op_leno {T : TypeId} {x : Operand} {q : TypeId × Nat × Nat} {i sz p n : Nat} (ho : o.op = .call { callee := .builtin .len, args := #[x], argTypes := #[T] }) (hT : slE P T = some q) (hx : Ev pc F x (.own i sz p n)) : DOp P pc o F M [] (.val (.int .i64 n)) [] := by
  intro hp a s hok hops hfp
  obtain ⟨e1, _⟩ := slE_spec hT
  have hr := ev_at hp hx (by simp [ho, Op.operands, Call.operands]) hops
  generalize hv : a.eval x = vx at hr
  cases hr with
  | own h ha hN hz hn hc => exact dg_val hok (run_builtin ho (fun cs => rfl) (by simp [Builtin.len_, hv, run_underlying e1, goInt])) (.val _)
  | ownnil h => exact dg_val hok (run_builtin ho (fun cs => rfl) (by simp [Builtin.len_, hv, run_underlying e1, goInt])) (.val _)
/-- .. of a part of a row -/
theorem op_ixo {T e : TypeId} {x y : Operand} {i sz by' p n : Nat} {k : IntKind} {z : Int} (j : Nat) (ho : o.op = .indexAddr T x y) (hT : slE P T = some (e, sz, by')) (hx : Ev pc F x (.own i sz p n)) (hy : Ev pc F y (.val (.int k z))) (hz : pc = true → z = (j : Int)) (hj : pc = true → j < n) : DOp P pc o F M [] (.aloc i ((p + j) * sz)) [] := by
  intro hp a s hok hops hfp
  have hr := ev_at hp hx (by simp [ho, Op.operands]) hops
  have h2 := (ev_at hp hy (by simp [ho, Op.operands]) hops).val_eq
  have hz := hz hp
  have hj := hj hp
  subst hz
  generalize hv : a.eval x = vx at hr
  cases hr with
  | @own _ _ _ _ N cap c b ad h ha hN hzz hn hc =>
    rcases ha with e | e
    · omega
    · subst e
      refine dg_val hok (run_index_sl ho hT hv h2 (by omega) (by omega)) ?_
      rw [Addr.add_mid, Int.toNat_natCast, ← Nat.add_mul]
      exact .aloc h
  | ownnil h => omega
end
end Go.Proofs.YtaekkjhpdendoaaDoor

namespace Go.Proofs.YtaekkjhpdendoaaDoor
set_option linter.unusedVariables false
set_option linter.unusedSimpArgs false
open Go.RowKit
section
variable {P : Program} {pc : Bool} {o : Oper} {F : Fr} {M : List Blk} {T e : TypeId} {by' : Nat} {x y : Operand}
theorem DOp.cast {d d' : D} {fp : List Nat} {wr : List (Nat × Blk)} (h : DOp P pc o F M fp d wr) (e : d = d') : DOp P pc o F M fp d' wr := e ▸ h
end
end Go.Proofs.YtaekkjhpdendoaaDoor

namespace Go.Proofs.YtaekkjhpdendoaaDoor
set_option linter.unusedVariables false
set_option linter.unusedSimpArgs false
open Go.RowKit
/-- the cells of data -/
def D.cs : D → List D
  | .agg l => l
  | .val v => v.cells.toList.map .val
  | d => [d]
/-- what has cells of its own -/
def D.c1 : D → Bool
  | .opt _ _ => false
  | .tup _ => false
  | .junk => false
  | .hnd _ => false
  | _ => true
section
variable {P : Program} {pc : Bool} {o : Oper} {F : Fr} {M : List Blk}
end
section
variable {P : Program} {s0 : St} {n : Cx}
end
section
variable {P : Program} {pc : Bool} {o : Oper} {F : Fr} {M : List Blk} {T : TypeId} {x y : Operand} {n : Nat} {k : IntKind} {z : Int} {j : Nat}
end
end Go.Proofs.YtaekkjhpdendoaaDoor

namespace Go.Proofs.YtaekkjhpdendoaaDoor
set_option linter.unusedVariables false
set_option linter.unusedSimpArgs false
open Go.RowKit
def Mem.blk : Mem → Blk
  | .gone => .gone
  | .flat T L => .flat T L
  | .arr T sz n L => .arr T sz n L
section
variable {P : Program} {s0 : St} {n : Cx}
end
end Go.Proofs.YtaekkjhpdendoaaDoor

namespace Go.Proofs.YtaekkjhpdendoaaDoor
set_option linter.unusedVariables false
set_option linter.unusedSimpArgs false
open Go.RowKit
section
variable {P : Program} {pc : Bool} {o : Oper} {F : Fr} {M : List Blk}
end
theorem DGives.map {P : Program} {s : St} {post post' : St → Value → Prop} {r : Result Next} (h : DGives P s post r) (f : ∀ s' v, Ok s' → post s' v → ∃ s'', s''.w = s'.w ∧ Tr s' s'' ∧ post' s'' v) : DGives P s post' r := by
  have key : ∀ {w' : World} {v : Value}, (∃ s', s'.w = w' ∧ Tr s s' ∧ post s' v) → ∃ s', s'.w = w' ∧ Tr s s' ∧ post' s' v := by
    rintro w' v ⟨s', rfl, a2, a3⟩
    obtain ⟨s'', b1, b2, b3⟩ := f s' v a2.ok a3
    exact ⟨s'', b1, a2.trans b2, b3⟩
  cases r with
  | halt x w' => exact h
  | ok nx w' =>
    cases nx with
    | value v => exact key h
    | skip => exact key h
    | enter g args =>
      refine ⟨h.1, h.2.mono ?_⟩
      rintro e w'' ⟨s', v, b1, b2, b3, b4⟩
      obtain ⟨s'', c1, c2, c3⟩ := key ⟨s', b2, b3, b4⟩
      exact ⟨s'', v, b1, c1, c2, c3⟩
    | round l f tmps asg body =>
      refine ⟨h.1, h.2.mono ?_⟩
      rintro e w'' ⟨s', v, b1, b2, b3, b4⟩
      obtain ⟨s'', c1, c2, c3⟩ := key ⟨s', b2, b3, b4⟩
      exact ⟨s'', v, b1, c1, c2, c3⟩
    | _ => exact h
section
variable {P : Program} {s0 : St} {n : Cx}
end
section
variable {P : Program} {s0 : St} {n : Cx}
end
end Go.Proofs.YtaekkjhpdendoaaDoor

namespace Go.Proofs.YtaekkjhpdendoaaDoor
set_option linter.unusedVariables false
set_option linter.unusedSimpArgs false
open Go.RowKit
/-- an array's block, as a row -/
theorem tr_slar {s : St} (ho : Ok s) {i b : Nat} {T : TypeId} {L : List Value} (hM : s.M[i]? = some (.flat T L)) (hβ : s.β[i]? = some (.pointer (some ⟨b, 0, none⟩))) (hL : L.length ≤ maxLen) :
    Tr s ⟨s.β ++ [.slice (some ⟨b, 0, none⟩) L.length L.length], s.I, s.M.set i .gone ++ [.arr T 1 L.length L], s.w⟩ := by
  have t1 := step_hole ho
  have hlen := ho.len
  have hil := (List.getElem?_eq_some_iff.1 hM).1
  have hlv : Live s b := live_of hM rfl hβ rfl
  have hcell : s.w.heap[b]? = some (.cells L.toArray T (0, 0)) := by
    obtain ⟨b', e1, e2⟩ := ho.blk i _ _ hM hβ
    cases e1
    exact e2
  have hlv1 : Live ⟨s.β ++ [Value.nilFunc], s.I, s.M ++ [Blk.hole], s.w⟩ b := live_of (i := i) (k := .flat T L) (h := .pointer (some ⟨b, 0, none⟩)) (by show (s.M ++ [Blk.hole])[i]? = _; rw [List.getElem?_append_left hil]; exact hM) rfl (by show (s.β ++ [Value.nilFunc])[i]? = _; rw [List.getElem?_append_left (by omega)]; exact hβ) rfl
  have t2 := step_set (s := ⟨s.β ++ [Value.nilFunc], s.I, s.M ++ [Blk.hole], s.w⟩) t1.ok s.M.length ((s.M ++ [Blk.hole]).set i .gone) (.slice (some ⟨b, 0, none⟩) L.length L.length) (.arr T 1 L.length L) s.w (by simp) (fun j k hk => by
      by_cases e : i = j
      · subst e
        rw [List.getElem?_set_self (by simp; omega)] at hk
        exact .inr (Option.some.inj hk).symm
      · rw [List.getElem?_set_ne e] at hk; exact .inl hk) (by simp) (.inl (by rw [← hlen]; simp)) (by simp)
    ⟨by simp, .inr ⟨b, L.length, L.toArray, rfl, Nat.zero_le _, hcell, Nat.le_refl _, hL, by simp, by simp⟩⟩
    (fun c hc j k h hne q1 q2 q3 q4 => by
      cases hc
      by_cases e : i = j
      · subst e
        rw [List.getElem?_set_self (by simp; omega)] at q1
        cases q1; cases q2
      · rw [List.getElem?_set_ne e] at q1
        exact e (t1.ok.inj i j (.flat T L) k (.pointer (some ⟨b, 0, none⟩)) h b (by show (s.M ++ [Blk.hole])[i]? = _; rw [List.getElem?_append_left hil]; exact hM) rfl (by show (s.β ++ [Value.nilFunc])[i]? = _; rw [List.getElem?_append_left (by omega)]; exact hβ) rfl q1 q2 q3 q4))
    (fun c hc => by cases hc; exact .inr hlv1) (fun c hc => by cases hc; exact (ho.lt b hlv).1) (fun _ => False) (fun _ h => h.elim) (fun _ _ _ _ => rfl) rfl rfl rfl (Nat.le_refl _)
  have tt := t1.trans t2
  have e1 : (s.β ++ [Value.nilFunc]).set s.M.length (.slice (some ⟨b, 0, none⟩) L.length L.length) = s.β ++ [.slice (some ⟨b, 0, none⟩) L.length L.length] := by
    rw [← hlen, List.set_append_right _ _ (Nat.le_refl _), Nat.sub_self]; rfl
  have e2 : ((s.M ++ [Blk.hole]).set i .gone).set s.M.length (.arr T 1 L.length L) = s.M.set i .gone ++ [.arr T 1 L.length L] := by
    rw [List.set_append_left _ _ hil, List.set_append_right _ _ (by simp), List.length_set, Nat.sub_self]; rfl
  rw [e1, e2] at tt
  exact tt
section
variable {P : Program} {s0 : St} {n : Cx}
theorem dwp_slar {c : Code} {F : Fr} {M M' : List Blk} {K : Cont} (t : Nat) {i N m : Nat} {T : TypeId} {L : List Value} (ht : lk F t = some (.loc i 0)) (hi : M[i]? = some (.flat T L)) (hN : L.length = N) (hb : N ≤ maxLen) (hm : M.length = m) (hM : M.set i .gone ++ [.arr T 1 N L] = M') (h : dwp P s0 n c ((t, .aloc m 0) :: F) M' K) : dwp P s0 n c F M K := by
  subst hN hm hM
  refine fun a w hin => h a w ?_
  obtain ⟨h0, s, rfl, rfl, h3, h4, h5, h6⟩ := hin
  have hr := h4 t _ ht
  generalize hv : slot a t = v at hr
  cases hr with
  | @loc _ _ b hβ =>
    have tt := tr_slar h3.ok hi hβ hb
    refine ⟨h0, ⟨s.β ++ [.slice (some ⟨b, 0, none⟩) L.length L.length], s.I, s.M.set i .gone ++ [.arr T 1 L.length L], s.w⟩, rfl, rfl, h3.trans tt, fun x d hd => ?_, h5, h6.mono h3.ok tt⟩
    rw [lk_cons] at hd
    split at hd
    · rename_i e'
      subst e'
      obtain rfl := Option.some.inj hd
      rw [hv]
      exact .aloc (n := L.length) (c := L.length) (by show (s.β ++ [_])[s.M.length]? = _; rw [← h3.ok.len]; simp)
    · exact (h4 x d hd).mono h3.ok tt
end
section
variable {P : Program} {pc : Bool} {o : Oper} {F : Fr} {M : List Blk}
/-- a part of an array that is a row of one's own -/
theorem op_slal {T T' : TypeId} {n sz k : Nat} {x : Operand} {lo hi : Option Operand} {L : List Value} {l h : Int} (ho : o.op = .slice T x lo hi none) (hT : arE P T = some (n, sz)) (hx : Ev pc F x (.aloc k 0)) (hM : M[k]? = some (.arr T' sz n L)) (hlo : Bd pc F lo 0 l) (hhi : Bd pc F hi n h)
    (hb : pc = true → 0 ≤ l ∧ l ≤ h ∧ h ≤ n) : DOp P pc o F M [k] (.own k sz l.toNat (h.toNat - l.toNat)) [] := by
  intro hp a s hok hops hfp
  obtain ⟨b1, b2, b3⟩ := hb hp
  have hr := ev_at hp hx (by simp [ho, Op.operands]) hops
  have hlo' := bd_at hp hlo (fun u e => by subst e; simp [ho, Op.operands]) hops
  have hhi' := bd_at hp hhi (fun u e => by subst e; simp [ho, Op.operands]) hops
  obtain ⟨p, rfl⟩ := Int.eq_ofNat_of_zero_le b1
  obtain ⟨q, rfl⟩ := Int.eq_ofNat_of_zero_le (Int.le_trans b1 b2)
  have b2 : p ≤ q := by omega
  have b3 : q ≤ n := by omega
  obtain ⟨e, i, e1, e2, e3⟩ := arE_spec hT
  have hM' : s.M[k]? = some (.arr T' sz n L) := by rw [hfp k (by simp)]; exact hM
  generalize hv : a.eval x = vx at hr
  cases hr with
  | @aloc _ _ N c b hβ =>
    have hk : s.w.ownsRow 0 T' sz _ n L := hok.blk k _ _ hM' hβ
    rcases hk.2 with ⟨e0, _⟩ | ⟨g, cap, cur, e0, _, e4, e5, e6, e7⟩
    · cases e0
    cases e0
    have sb : ∀ (k : IntKind) (z : Nat) (m : Nat) (cd : BoundsCode), z ≤ m → (Instr.sliceBound (.int k z) m cd).run P s.w = .ok z s.w := fun k z m cd b => by
      simp [Instr.sliceBound, asIntOf, b]
    have hbs : (Instr.sliceBounds false n n (lo.map a.eval) (hi.map a.eval) none).run P s.w = .ok (p, q, n) s.w := by
      rcases hlo' with ⟨q1, q3⟩ | ⟨kl, q1⟩ <;> rcases hhi' with ⟨q2, q4⟩ | ⟨kh, q2⟩ <;> rw [q1, q2]
      · have g1 : p = 0 := by omega
        have g2 : q = n := by omega
        simp [Instr.sliceBounds, g1, g2]
      · have g1 : p = 0 := by omega
        simp [Instr.sliceBounds, g1, sb kh q n _ b3]
      · have g2 : q = n := by omega
        simp [Instr.sliceBounds, g2, sb kl p n _ (by omega)]
      · simp [Instr.sliceBounds, sb kh q n _ b3, sb kl p q _ b2]
    have hrun : (execOp a.eval o).run P s.w = .ok (.value (.slice (some (if n = p then ⟨b, 0, none⟩ else (⟨b, 0, none⟩ : Addr).add (p * sz))) (q - p) (n - p))) s.w := by
      unfold execOp
      simp only [ho, hv]
      refine run_v ?_
      simp [Instr.sliceAt, Instr.sureAddr, run_underlying e1, Sem.run_bind, hbs, sizeOf, typeInfo, e2, e3]
    refine dg_val hok hrun ?_
    simp only [Int.toNat_natCast]
    refine .own hβ ?_ (by omega) (fun e => by cases e) (by omega) (by omega)
    by_cases hz : n = p
    · left; omega
    · right; rw [if_neg hz, addr_lit, Nat.zero_add]
/-- a byte -/
def b8 (x : Nat) : List Value := [.int .u8 (x : Int)]
theorem b8_map (l : List Nat) : l.flatMap b8 = (l.map fun x : Nat => (x : Int)).map (Value.int .u8) := by
  induction l with
  | nil => rfl
  | cons a l ih => rw [List.flatMap_cons, ih]; rfl
/-- the string of bytes -/
def strN (l : List Nat) : ByteArray := strOfNums (l.map fun x : Nat => (x : Int))
/-- a part of a row of bytes, as a string -/
theorem op_cbo {T T' T'' e : TypeId} {x : Operand} {i q m n : Nat} {L : List Value} {l : List Nat} (ho : o.op = .convert T T' x) (hT : P.underlying T = some (.slice e)) (he : P.underlying e = some (.int .u8)) (hd : P.underlying T' = some .string) (hx : Ev pc F x (.own i 1 q m)) (hM : M[i]? = some (.arr T'' 1 n L)) (hl : pc = true → (L.drop q).take m = l.flatMap b8) (hm : pc = true → l.length = m) : DOp P pc o F M [i] (.val (.string (strN l))) [] := by
  intro hp a s hok hops hfp
  have hr := ev_at hp hx (by simp [ho, Op.operands]) hops
  have hl := hl hp
  have hm := hm hp
  have hM' : s.M[i]? = some (.arr T'' 1 n L) := by rw [hfp i (by simp)]; exact hM
  have hex : (execOp a.eval o).run P s.w = ((convert T T' (a.eval x)).run P s.w).andThen fun v w => .ok (.value v) w := by
    unfold execOp
    simp only [ho, Sem.run_bind]
    rfl
  generalize hv : a.eval x = vx at hr hex
  have hin : ∀ {v : Value}, (convert T T' vx).run P s.w = .ok v s.w → (execOp a.eval o).run P s.w = .ok (.value v) s.w := fun h => by rw [hex, h]; rfl
  have hnil : l = [] → strN l = ByteArray.empty := fun h => by subst h; rfl
  have h0 : ∀ (ad : Option Addr) (cap : Nat), m = 0 → (convert T T' (.slice ad m cap)).run P s.w = .ok (.string (strN l)) s.w := fun ad cap hm0 => by
    have hl0 : l = [] := List.eq_nil_of_length_eq_zero (by omega)
    subst hm0
    rw [hnil hl0]
    cases ad with
    | none => exact run_convert_bytes_nil s.w T e hT he 0 cap T' hd
    | some ad =>
      rw [run_convert_bytes_string s.w T T' e _ 0 cap hT he hd]
      exact run_bytesToString s.w ad 0 cap [] (by simp [loadCells, loadCellsFrom])
  cases hr with
  | @own _ _ _ _ N cap c b ad hβ ha hN hz hn hc =>
    by_cases hm0 : m = 0
    · exact dg_val hok (hin (h0 _ _ hm0)) (.val _)
    · rcases ha with ha | ha
      · exact absurd ha hm0
      subst ha
      have hk : s.w.ownsRow 0 T'' 1 _ n L := hok.blk i _ _ hM' hβ
      rcases hk.2 with ⟨e0, _⟩ | ⟨g, cap', cur, e0, _, e4, e5, e6, e7, e8⟩
      · cases e0
      cases e0
      have hc0 : cellsAt s.w b 0 L := by
        have := cellsAt_block e4 0
        intro j v hj
        refine this j v ?_
        rw [← e8, List.getElem?_take] at hj
        split at hj
        · simpa using hj
        · cases hj
      refine dg_val hok (hin (run_convert_bytes_arg s.w T e hT he b (q * 1) m c (l.map fun x : Nat => (x : Int)) (by simpa using hm) (fun j hj => ?_) T' hd)) (.val _)
      have h1 := hc0 (q + j) (.int .u8 (((l.map fun x : Nat => (x : Int))).getD j 0)) (by
        have : ((L.drop q).take m)[j]? = some (.int .u8 (((l.map fun x : Nat => (x : Int))).getD j 0)) := by
          rw [hl, b8_map, List.getElem?_map, List.getElem?_map, List.getElem?_eq_getElem (by omega)]
          simp [List.getD, List.getElem?_eq_getElem (show j < l.length by omega)]
        rw [List.getElem?_take_of_lt hj, List.getElem?_drop] at this
        exact this)
      rw [Nat.zero_add] at h1
      rw [Nat.mul_one]
      exact h1
  | @ownnil _ _ hβ =>
    exact dg_val hok (hin (h0 _ _ rfl)) (.val _)
/-- a row that stays, as a string -/
theorem op_cbs {T T' e : TypeId} {x : Operand} {n : Nat} {L : List Value} {l : List Nat} (ho : o.op = .convert T T' x) (hT : P.underlying T = some (.slice e)) (he : P.underlying e = some (.int .u8)) (hd : P.underlying T' = some .string) (hx : Ev pc F x (.slf 1 n L)) (hL : pc = true → L = l.flatMap b8) : DOp P pc o F M [] (.val (.string (strN l))) [] := by
  intro hp a s hok hops _
  have hL := hL hp
  subst hL
  have hr := ev_at hp hx (by simp [ho, Op.operands]) hops
  have hex : (execOp a.eval o).run P s.w = ((convert T T' (a.eval x)).run P s.w).andThen fun v w => .ok (.value v) w := by
    unfold execOp
    simp only [ho, Sem.run_bind]
    rfl
  generalize hv : a.eval x = vx at hr hex
  have hin : ∀ {v : Value}, (convert T T' vx).run P s.w = .ok v s.w → (execOp a.eval o).run P s.w = .ok (.value v) s.w := fun h => by rw [hex, h]; rfl
  cases hr with
  | @slf _ _ cap ad L hl hn hc ha h =>
    have hlen : l.length = n := by
      have := congrArg List.length (b8_map l)
      rw [hl] at this
      simpa using this.symm
    rcases h with h | ⟨b, q, rfl, hI, hcl⟩
    · have hl0 : l = [] := by
        rw [b8_map] at h
        simpa using h
      subst hl0
      have hn0 : n = 0 := by simpa using hlen.symm
      subst hn0
      cases ad with
      | none => exact dg_val hok (hin (run_convert_bytes_nil s.w T e hT he 0 cap T' hd)) (.val _)
      | some ad =>
        refine dg_val hok (hin ?_) (.val _)
        rw [run_convert_bytes_string s.w T T' e _ 0 cap hT he hd]
        exact run_bytesToString s.w ad 0 cap [] (by simp [loadCells, loadCellsFrom])
    · refine dg_val hok (hin (run_convert_bytes_arg s.w T e hT he b q n cap (l.map fun x : Nat => (x : Int)) (by simpa using hlen) (fun i hi => ?_) T' hd)) (.val _)
      refine hcl i _ ?_
      rw [b8_map, List.getElem?_map, List.getElem?_map, List.getElem?_eq_getElem (by omega)]
      simp [List.getD, List.getElem?_eq_getElem (show i < l.length by omega)]
end
end Go.Proofs.YtaekkjhpdendoaaDoor

namespace Go.Proofs.YtaekkjhpdendoaaDoor
set_option linter.unusedVariables false
set_option linter.unusedSimpArgs false
open Go.RowKit
def isB (l : List Nat) : Prop := ∀ x ∈ l, x < 256
theorem strN_data (l : List Nat) : (strN l).data.toList = l.map fun x => UInt8.ofNat x := by
  simp [strN, strOfNums_data]
theorem strN_size (l : List Nat) : (strN l).size = l.length := by simp [strN, strOfNums_size]
theorem strN_ext {p q : ByteArray} (h : p.data.toList = q.data.toList) : p = q := by
  cases p with | mk a => cases q with | mk b => cases a; cases b; simp_all
theorem strN_app (a b : List Nat) : strN a ++ strN b = strN (a ++ b) := by
  apply strN_ext
  rw [strN_data, List.map_append]
  simp [ByteArray.data_append, strN_data]
theorem strN_sub (l : List Nat) {i j : Nat} (h : j ≤ l.length) : (strN l).extract i j = strN ((l.drop i).take (j - i)) := by
  apply strN_ext
  rw [strN_data, ByteArray.data_extract, Array.toList_extract, strN_data, List.extract_eq_take_drop, List.map_take, List.map_drop]
theorem strN_inj {l r : List Nat} (hl : isB l) (hr : isB r) (h : strN l = strN r) : l = r := by
  have h1 : l.map (fun x => UInt8.ofNat x) = r.map fun x => UInt8.ofNat x := by rw [← strN_data, ← strN_data, h]
  have inj : ∀ {a b : List Nat}, isB a → isB b → a.map (fun x => UInt8.ofNat x) = b.map (fun x => UInt8.ofNat x) → a = b := by
    intro a
    induction a with
    | nil => intro b _ _ h; cases b with | nil => rfl | cons y b => simp at h
    | cons x a ih =>
      intro b ha hb h
      cases b with
      | nil => simp at h
      | cons y b =>
        simp only [List.map_cons, List.cons.injEq] at h
        obtain ⟨h1, h2⟩ := h
        have hx := ha x (List.mem_cons_self ..)
        have hy := hb y (List.mem_cons_self ..)
        have h3 := congrArg UInt8.toNat h1
        simp at h3
        rw [Nat.mod_eq_of_lt hx, Nat.mod_eq_of_lt hy] at h3
        rw [h3, ih (fun z hz => ha z (List.mem_cons_of_mem _ hz)) (fun z hz => hb z (List.mem_cons_of_mem _ hz)) h2]
  exact inj hl hr h1
theorem strN_eq {l r : List Nat} (hl : isB l) (hr : isB r) : ((strN l).toList == (strN r).toList) = decide (l = r) := by
  have hd : ∀ {a b : ByteArray}, a.toList = b.toList → a.data.toList = b.data.toList := fun {a b} h => by
    rw [ByteArray.toList_eq, ByteArray.toList_eq] at h
    exact h
  by_cases e : l = r
  · subst e; simp
  · rw [decide_eq_false e]
    exact beq_eq_false_iff_ne.2 fun h => e (strN_inj hl hr (strN_ext (hd h)))
/-- a string's bytes -/
def bytesOf' (p : ByteArray) : List Nat := p.data.toList.map UInt8.toNat
theorem bytes_isB (p : ByteArray) : isB (bytesOf' p) := fun x hx => by
  obtain ⟨b, _, rfl⟩ := List.mem_map.1 hx
  exact UInt8.toNat_lt b
theorem bytes_str (p : ByteArray) : strN (bytesOf' p) = p := by
  apply strN_ext
  rw [strN_data, bytesOf', List.map_map]
  have : ((fun x => UInt8.ofNat x) ∘ UInt8.toNat) = id := by funext b; simp
  rw [this, List.map_id]
theorem strN_at {l : List Nat} (hl : isB l) {j : Nat} (hj : j < l.length) : ((strN l).get! j).toNat = l.getD j 0 := by
  have h1 : (strN l).get! j = UInt8.ofNat (l.getD j 0) := by
    have h2 := congrArg (fun m => m[j]?) (strN_data l)
    simp only [List.getElem?_map, List.getElem?_eq_getElem hj, Option.map_some, Array.getElem?_toList] at h2
    show (strN l).data[j]! = _
    rw [getElem!_def, h2, List.getD_eq_getElem?_getD, List.getElem?_eq_getElem hj]
    rfl
  rw [h1]
  have := hl l[j] (List.getElem_mem hj)
  rw [List.getD_eq_getElem?_getD, List.getElem?_eq_getElem hj]
  simp
  omega
theorem dec_lo {l : List Nat} (hl : isB l) {j : Nat} (hj : j < l.length) (h : l.getD j 0 < 128) : Utf8.decode (strN l) j = (l.getD j 0, 1) := by
  unfold Utf8.decode
  simp only [Nat.add_zero, strN_at hl hj]
  rw [if_pos h]
theorem dec_hi {l : List Nat} (hl : isB l) {j : Nat} (hj : j < l.length) (h : ¬ l.getD j 0 < 128) : ∃ c w, Utf8.decode (strN l) j = (c, w) ∧ 128 ≤ c ∧ 1 ≤ w := by
  have key : 128 ≤ (Utf8.decode (strN l) j).1 ∧ 1 ≤ (Utf8.decode (strN l) j).2 := by
    unfold Utf8.decode
    simp only [Nat.add_zero, strN_at hl hj]
    rw [if_neg h]
    have hre : 128 ≤ Utf8.runeError := by decide
    have fin : ∀ {b : Bool} {c n k : Nat}, (b = true → k ≤ c) → 128 ≤ k → 1 ≤ n → 128 ≤ (if b = true then (c, n) else (Utf8.runeError, 1)).1 ∧ 1 ≤ (if b = true then (c, n) else (Utf8.runeError, 1)).2 := fun {b c n k} h1 h2 h3 => by
      split
      · rename_i g; exact ⟨Nat.le_trans h2 (h1 g), h3⟩
      · exact ⟨hre, Nat.le_refl _⟩
    split
    · split
      · rename_i g; exact ⟨g, Nat.le_succ 1⟩
      · exact ⟨hre, Nat.le_refl _⟩
    · split
      · exact fin (k := 2048) (fun g => by simp only [Bool.and_eq_true, decide_eq_true_eq] at g; exact g.1) (by decide) (by decide)
      · split
        · exact fin (k := 65536) (fun g => by simp only [Bool.and_eq_true, decide_eq_true_eq] at g; exact g.1) (by decide) (by decide)
        · exact ⟨hre, Nat.le_refl _⟩
  exact ⟨_, _, rfl, key.1, key.2⟩
section
variable {P : Program} {pc : Bool} {o : Oper} {F : Fr} {M : List Blk}
theorem op_catn {T T' : TypeId} {x y : Operand} {p q : List Nat} (ho : o.op = .binOp .add T x y T') (hx : Ev pc F x (.val (.string (strN p)))) (hy : Ev pc F y (.val (.string (strN q)))) (h : pc = true → p.length + q.length ≤ 9223372036854775807) : DOp P pc o F M [] (.val (.string (strN (p ++ q)))) [] := by
  rw [← strN_app]
  exact op_cat ho hx hy (fun hp => by rw [strN_size, strN_size]; exact h hp)
theorem op_lenn {T : TypeId} {x : Operand} {l : List Nat} (ho : o.op = .call { callee := .builtin .len, args := #[x], argTypes := #[T] }) (hT : P.underlying T = some .string) (hx : Ev pc F x (.val (.string (strN l)))) : DOp P pc o F M [] (.val (.int .i64 (l.length : Int))) [] := by
  have := op_lenst (M := M) ho hT hx
  rwa [strN_size] at this
theorem op_slnn {T : TypeId} {x : Operand} {lo hi : Option Operand} {p : List Nat} {l h : Int} {i j : Nat} (ho : o.op = .slice T x lo hi none) (hT : P.underlying T = some .string) (hx : Ev pc F x (.val (.string (strN p)))) (hlo : Bd pc F lo 0 l) (hhi : Bd pc F hi p.length h)
    (hl : pc = true → l = (i : Int)) (hh : pc = true → h = (j : Int)) (hb : pc = true → i ≤ j ∧ j ≤ p.length) : DOp P pc o F M [] (.val (.string (strN ((p.drop i).take (j - i))))) [] := by
  intro hp
  have hb' := hb hp
  have := op_slst (M := M) ho hT hx hlo (by rw [strN_size]; exact hhi) hl hh (fun _ => by rw [strN_size]; exact hb')
  rw [strN_sub p hb'.2] at this
  exact this hp
theorem op_eqn {T T' : TypeId} {x y : Operand} {p q : List Nat} (hp : isB p) (hq : isB q) (ho : o.op = .binOp .eql T x y T') (hx : Ev pc F x (.val (.string (strN p)))) (hy : Ev pc F y (.val (.string (strN q)))) : DOp P pc o F M [] (.val (.bool (decide (p = q)))) [] := by
  rw [← strN_eq hp hq]; exact op_eqs ho hx hy
theorem op_nen {T T' : TypeId} {x y : Operand} {p q : List Nat} (hp : isB p) (hq : isB q) (ho : o.op = .binOp .neq T x y T') (hx : Ev pc F x (.val (.string (strN p)))) (hy : Ev pc F y (.val (.string (strN q)))) : DOp P pc o F M [] (.val (.bool (!decide (p = q)))) [] := by
  rw [← strN_eq hp hq]; exact op_nes ho hx hy
/-- a byte of a string -/
theorem op_ixn {T : TypeId} {x y : Operand} {k : IntKind} {z : Int} {l : List Nat} (j : Nat) (hl : isB l) (ho : o.op = .index T x y) (hT : P.underlying T = some .string) (hx : Ev pc F x (.val (.string (strN l)))) (hy : Ev pc F y (.val (.int k z))) (hz : pc = true → z = (j : Int)) (hj : pc = true → j < l.length) : DOp P pc o F M [] (.val (.int .u8 ((l.getD j 0 : Nat) : Int))) [] := by
  refine op_val2 hx hy (by simp [ho, Op.operands]) fun hp a w e1 e2 => ?_
  have hz' := hz hp
  have hj' := hj hp
  subst hz'
  unfold execOp
  simp only [ho, e1, e2]
  refine run_v ?_
  unfold Instr.index
  have hget : (strN l)[(j : Int).toNat]? = some (UInt8.ofNat (l.getD j 0)) := by
    have h2 := congrArg (fun m => m[j]?) (strN_data l)
    simp only [List.getElem?_map, List.getElem?_eq_getElem hj', Option.map_some, Array.getElem?_toList] at h2
    rw [Int.toNat_natCast, List.getD_eq_getElem?_getD, List.getElem?_eq_getElem hj']
    have hs : j < (strN l).size := by rw [strN_size]; exact hj'
    rw [getElem?_pos (strN l) j hs]
    show _ = some (UInt8.ofNat l[j])
    rw [← h2]
    exact (getElem?_pos (strN l).data j hs).symm
  have hb : (0 : Int) ≤ (j : Int) := by omega
  simp only [Sem.run_bind, asIntOf, Sem.run_pure, Result.andThen_ok, run_underlying hT, if_pos hb, hget]
  have := hl _ (List.getElem_mem hj')
  have e : (UInt8.ofNat (l.getD j 0)).toNat = l.getD j 0 := by
    rw [List.getD_eq_getElem?_getD, List.getElem?_eq_getElem hj']
    simp
    omega
  rw [e]
theorem op_nxlo {x : Operand} {i q : Nat} {l : List Nat} (hl : isB l) (hq : q < l.length) (h : l.getD q 0 < 128) (ho : o.op = .next x true) (hx : Ev pc F x (.loc i 0)) (hM : M[i]? = some (.obj (.stringIter (strN l) q))) :
    DOp P pc o F M [i] (.tup [.val (.bool true), .val (.int .i64 q), .val (.int .i32 ((l.getD q 0 : Nat) : Int))]) [(i, .obj (.stringIter (strN l) (q + 1)))] :=
  op_nxs ho hx hM (fun _ => by rw [strN_size]; exact hq) (dec_lo hl hq h)
theorem op_nxn {x : Operand} {i q : Nat} {l : List Nat} (ho : o.op = .next x true) (hx : Ev pc F x (.loc i 0)) (hM : M[i]? = some (.obj (.stringIter (strN l) q))) (hq : pc = true → ¬ q < l.length) :
    DOp P pc o F M [i] (.tup [.val (.bool false)]) [] := op_nxe ho hx hM (fun hp => by rw [strN_size]; exact hq hp)
end
end Go.Proofs.YtaekkjhpdendoaaDoor

namespace Go.Proofs.YtaekkjhpdendoaaDoor
set_option linter.unusedVariables false
set_option linter.unusedSimpArgs false
open Go.RowKit
theorem ar113 : arE Tryd.prog 113 = some (20, 1) := by kernel_rfl
theorem kn114 : knd Tryd.prog 114 = some .u32 := by kernel_rfl
theorem kn5 : knd Tryd.prog 5 = some .u8 := by kernel_rfl
theorem sl100 : slE Tryd.prog 100 = some (5, 1, 1) := by kernel_rfl
theorem tb5 : tyB Tryd.prog 5 = some (false, 1) := by kernel_rfl
theorem ty114 : (tyB Tryd.prog 114).isSome = true := by kernel_rfl
theorem ty5 : (tyB Tryd.prog 5).isSome = true := by kernel_rfl
end Go.Proofs.YtaekkjhpdendoaaDoor

namespace Go.Proofs.YtaekkjhpdendoaaDoor
set_option linter.unusedVariables false
set_option linter.unusedSimpArgs false
open Go.RowKit
/-- a number's digits -/
def dg (n : Nat) : List Nat := if h : n < 10 then [48 + n] else dg (n / 10) ++ [48 + n % 10]
termination_by n
decreasing_by omega
theorem dg_lo {n : Nat} (h : n < 10) : dg n = [48 + n] := by rw [dg, dif_pos h]
theorem dg_hi {n : Nat} (h : ¬ n < 10) : dg n = dg (n / 10) ++ [48 + n % 10] := by rw [dg, dif_neg h]
theorem dg_B : ∀ n, isB (dg n) := by
  intro n
  induction n using Nat.strongRecOn with
  | _ n ih =>
    by_cases h : n < 10
    · rw [dg_lo h]; intro x hx; simp at hx; omega
    · rw [dg_hi h]
      intro x hx
      rcases List.mem_append.1 hx with h1 | h1
      · exact ih (n / 10) (by omega) x h1
      · simp at h1; omega
/-- so many of them, the last ones -/
def dgN : Nat → Nat → List Nat
  | 0, _ => []
  | k + 1, u => dgN k (u / 10) ++ [48 + u % 10]
theorem dgN_len : ∀ k u, (dgN k u).length = k
  | 0, _ => rfl
  | k + 1, u => by rw [dgN, List.length_append, dgN_len k]; rfl
theorem dgN_add (a : Nat) : ∀ b u, dgN (a + b) u = dgN a (u / 10 ^ b) ++ dgN b u
  | 0, u => by simp [dgN]
  | b + 1, u => by
    show dgN (a + b) (u / 10) ++ _ = _
    rw [dgN_add a b, dgN, ← List.append_assoc, Nat.div_div_eq_div_mul, Nat.pow_succ, Nat.mul_comm 10]
theorem dg_len : ∀ k n, 10 ^ k ≤ n ∨ k = 0 → n < 10 ^ (k + 1) → (dg n).length = k + 1
  | 0, n, _, h => by rw [dg_lo (by omega)]; rfl
  | k + 1, n, h1, h2 => by
    have h3 : 10 ^ (k + 1) ≤ n := by omega
    have h4 : 10 ≤ 10 ^ (k + 1) := by
      rw [Nat.pow_succ]
      have : 0 < 10 ^ k := Nat.pos_of_ne_zero (fun h => by simp at h)
      omega
    rw [dg_hi (by omega), List.length_append, dg_len k (n / 10) (.inl ?_) ?_]
    · rfl
    · rw [Nat.le_div_iff_mul_le (by decide), ← Nat.pow_succ]; exact h3
    · rw [Nat.div_lt_iff_lt_mul (by decide), ← Nat.pow_succ]; exact h2
theorem dg_dgN : ∀ n, dg n = dgN (dg n).length n := by
  intro n
  induction n using Nat.strongRecOn with
  | _ n ih =>
    by_cases h : n < 10
    · rw [dg_lo h]
      show _ = dgN 1 n
      rw [dgN, dgN, Nat.mod_eq_of_lt h]; rfl
    · rw [dg_hi h, List.length_append]
      show _ = dgN ((dg (n / 10)).length + 1) n
      rw [dgN, ← ih (n / 10) (by omega)]
theorem dg_lt : ∀ n, n < 10 ^ (dg n).length := by
  intro n
  induction n using Nat.strongRecOn with
  | _ n ih =>
    by_cases h : n < 10
    · rw [dg_lo h]; exact h
    · rw [dg_hi h, List.length_append]
      show _ < 10 ^ ((dg (n / 10)).length + 1)
      have := ih (n / 10) (by omega)
      rw [Nat.pow_succ]
      omega
theorem dg_20 {n : Nat} (h : n < 2 ^ 64) : (dg n).length ≤ 20 := by
  rcases Nat.lt_or_ge 20 (dg n).length with h1 | h1
  · exfalso
    have key : ∀ k n, (dg n).length = k + 2 → 10 ^ (k + 1) ≤ n := by
      intro k
      induction k with
      | zero =>
        intro n hn
        rcases Nat.lt_or_ge n 10 with h | h
        · rw [dg_lo h] at hn; cases hn
        · omega
      | succ k ih =>
        intro n hn
        rcases Nat.lt_or_ge n 10 with h | h
        · rw [dg_lo h] at hn; simp at hn
        · rw [dg_hi (by omega), List.length_append] at hn
          have := ih (n / 10) (by simpa using hn)
          rw [Nat.pow_succ]
          rw [Nat.le_div_iff_mul_le (by decide)] at this
          exact this
    obtain ⟨k, hk⟩ : ∃ k, (dg n).length = k + 2 := ⟨(dg n).length - 2, by omega⟩
    have h2 := key k n hk
    have h3 : 10 ^ 20 ≤ 10 ^ (k + 1) := Nat.pow_le_pow_right (by decide) (by omega)
    omega
  · exact h1
theorem dg_pos (n : Nat) : 1 ≤ (dg n).length := by
  by_cases h : n < 10
  · rw [dg_lo h]; exact Nat.le_refl _
  · rw [dg_hi h, List.length_append]; simp
/-- two digits, from the table -/
def smallsB : ByteArray := ⟨#[48, 48, 48, 49, 48, 50, 48, 51, 48, 52, 48, 53, 48, 54, 48, 55, 48, 56, 48, 57, 49, 48, 49, 49, 49, 50, 49, 51, 49, 52, 49, 53, 49, 54, 49, 55, 49, 56, 49, 57, 50, 48, 50, 49, 50, 50, 50, 51, 50, 52, 50, 53, 50, 54, 50, 55, 50, 56, 50, 57, 51, 48, 51, 49, 51, 50, 51, 51, 51, 52, 51, 53, 51, 54, 51, 55, 51, 56, 51, 57, 52, 48, 52, 49, 52, 50, 52, 51, 52, 52, 52, 53, 52, 54, 52, 55, 52, 56, 52, 57, 53, 48, 53, 49, 53, 50, 53, 51, 53, 52, 53, 53, 53, 54, 53, 55, 53, 56, 53, 57, 54, 48, 54, 49, 54, 50, 54, 51, 54, 52, 54, 53, 54, 54, 54, 55, 54, 56, 54, 57, 55, 48, 55, 49, 55, 50, 55, 51, 55, 52, 55, 53, 55, 54, 55, 55, 55, 56, 55, 57, 56, 48, 56, 49, 56, 50, 56, 51, 56, 52, 56, 53, 56, 54, 56, 55, 56, 56, 56, 57, 57, 48, 57, 49, 57, 50, 57, 51, 57, 52, 57, 53, 57, 54, 57, 55, 57, 56, 57, 57]⟩
def smallsL : List Nat := (List.range 100).flatMap fun k => [48 + k / 10, 48 + k % 10]
theorem smalls_str : strN smallsL = smallsB := by decide +kernel
theorem smalls_B : isB smallsL := by
  have : smallsL.all (fun x => decide (x < 256)) = true := by decide +kernel
  exact fun x hx => of_decide_eq_true (List.all_eq_true.1 this x hx)
theorem smalls_len : smallsL.length = 200 := by decide +kernel
theorem smalls_hi {k : Nat} (h : k < 100) : smallsL.getD (k * 2) 0 = 48 + k / 10 := by
  have : ∀ k, k < 100 → smallsL.getD (k * 2) 0 = 48 + k / 10 := by decide +kernel
  exact this k h
theorem smalls_lo {k : Nat} (h : k < 100) : smallsL.getD (k * 2 + 1) 0 = 48 + k % 10 := by
  have : ∀ k, k < 100 → smallsL.getD (k * 2 + 1) 0 = 48 + k % 10 := by decide +kernel
  exact this k h
section
variable {P : Program} {pc : Bool} {o : Oper} {F : Fr} {M : List Blk}
theorem op_smhi {T : TypeId} {x y : Operand} {k : IntKind} {z : Int} (j : Nat) (ho : o.op = .index T x y) (hT : P.underlying T = some .string) (hx : Ev pc F x (.val (.string smallsB))) (hy : Ev pc F y (.val (.int k z))) (hz : pc = true → z = ((j * 2 : Nat) : Int)) (hj : pc = true → j < 100) : DOp P pc o F M [] (.val (.int .u8 ((48 + j / 10 : Nat) : Int))) [] := fun hp => by
  have := op_ixn (M := M) (j * 2) smalls_B ho hT (by rw [smalls_str]; exact hx) hy hz (fun hp => by have := hj hp; rw [smalls_len]; omega)
  rw [smalls_hi (hj hp)] at this
  exact this hp
theorem op_smlo {T : TypeId} {x y : Operand} {k : IntKind} {z : Int} (j : Nat) (ho : o.op = .index T x y) (hT : P.underlying T = some .string) (hx : Ev pc F x (.val (.string smallsB))) (hy : Ev pc F y (.val (.int k z))) (hz : pc = true → z = ((j * 2 + 1 : Nat) : Int)) (hj : pc = true → j < 100) : DOp P pc o F M [] (.val (.int .u8 ((48 + j % 10 : Nat) : Int))) [] := fun hp => by
  have := op_ixn (M := M) (j * 2 + 1) smalls_B ho hT (by rw [smalls_str]; exact hx) hy hz (fun hp => by have := hj hp; rw [smalls_len]; omega)
  rw [smalls_lo (hj hp)] at this
  exact this hp
end
/-- a row whose digits from o on, k of nd, are laid -/
def memD (l : List Nat) (o nd n k : Nat) : List Nat := l.take (o + (nd - k)) ++ (dgN k n ++ l.drop (o + nd))
theorem memD_len {l : List Nat} {o nd n k : Nat} (h : o + nd ≤ l.length) (hk : k ≤ nd) : (memD l o nd n k).length = l.length := by
  unfold memD
  rw [List.length_append, List.length_append, dgN_len, List.length_take, List.length_drop]
  omega
theorem memD_0 {l : List Nat} {o nd n : Nat} : memD l o nd n 0 = l := by
  unfold memD; simp [dgN]
/-- two digits more -/
theorem memD_2 {l : List Nat} {o nd n k a b : Nat} (h : o + nd ≤ l.length) (hk : k + 2 ≤ nd) (ha : a = 48 + n / 10 ^ k % 10) (hb : b = 48 + n / 10 ^ k / 10 % 10) : ((memD l o nd n k).set (o + (nd - k - 1)) a).set (o + (nd - k - 2)) b = memD l o nd n (k + 2) := by
  subst ha hb
  unfold memD
  have hd : dgN (k + 2) n = (48 + n / 10 ^ k / 10 % 10) :: (48 + n / 10 ^ k % 10) :: dgN k n := by
    rw [Nat.add_comm, dgN_add]; rfl
  have ht : l.take (o + (nd - k)) = l.take (o + (nd - (k + 2))) ++ [l[o + (nd - k - 2)]'(by omega), l[o + (nd - k - 1)]'(by omega)] := by
    rw [show o + (nd - k) = o + (nd - k - 2) + 1 + 1 by omega, List.take_succ_eq_append_getElem (by omega), List.take_succ_eq_append_getElem (by omega), List.append_assoc]
    simp only [List.singleton_append, show o + (nd - k - 2) + 1 = o + (nd - k - 1) by omega, show nd - (k + 2) = nd - k - 2 by omega]
  rw [ht, hd, List.append_assoc]
  have hl : (l.take (o + (nd - (k + 2)))).length = o + (nd - k - 2) := by rw [List.length_take]; omega
  rw [List.set_append_right _ _ (by omega), hl, show o + (nd - k - 1) - (o + (nd - k - 2)) = 1 by omega, List.set_append_right _ _ (by omega), hl, Nat.sub_self]
  rfl
theorem pow_2 (n k : Nat) : n / 10 ^ (k + 2) = n / 10 ^ k / 100 := by rw [Nat.div_div_eq_div_mul, Nat.pow_add]
theorem pow_4 (n k : Nat) : n / 10 ^ (k + 4) = n / 10 ^ k / 10000 := by rw [Nat.div_div_eq_div_mul, Nat.pow_add]
theorem pow_8 (n k : Nat) : n / 10 ^ (k + 8) = n / 10 ^ k / 100000000 := by rw [Nat.div_div_eq_div_mul, Nat.pow_add]
theorem pow_lt {n nd k : Nat} (hn : n < 10 ^ nd) (hk : k ≤ nd) : n / 10 ^ k < 10 ^ (nd - k) := by
  rw [Nat.div_lt_iff_lt_mul (Nat.pos_of_ne_zero (fun h => by simp at h)), ← Nat.pow_add, show nd - k + k = nd by omega]
  exact hn
theorem memD_1 {l : List Nat} {o nd n k a : Nat} (h : o + nd ≤ l.length) (hk : k + 1 = nd) (ha : a = 48 + n / 10 ^ k % 10) : (memD l o nd n k).set (o + 0) a = memD l o nd n (k + 1) := by
  subst ha
  unfold memD
  have hd : dgN (k + 1) n = (48 + n / 10 ^ k % 10) :: dgN k n := by
    rw [Nat.add_comm, dgN_add]; rfl
  have ht : l.take (o + (nd - k)) = l.take (o + (nd - (k + 1))) ++ [l[o]'(by omega)] := by
    rw [show o + (nd - k) = o + 1 by omega, show o + (nd - (k + 1)) = o by omega, List.take_succ_eq_append_getElem (by omega)]
  have hl : (l.take (o + (nd - (k + 1)))).length = o := by rw [List.length_take]; omega
  rw [ht, hd, List.append_assoc, List.set_append_right _ _ (by omega), hl, show o + 0 - o = 0 by omega]
  rfl
/-- all of them -/
theorem memD_all {l : List Nat} {o nd n : Nat} : memD l o nd n nd = l.take o ++ (dgN nd n ++ l.drop (o + nd)) := by
  unfold memD; rw [Nat.sub_self]; rfl
end Go.Proofs.YtaekkjhpdendoaaDoor
