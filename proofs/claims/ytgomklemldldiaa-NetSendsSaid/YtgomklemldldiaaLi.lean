/- Operations: numbers, bools, structs, memory that is read and written. Conditions: what a type is, by the kernel. -/
import Derived.Test.YtgomklemldldiaaLh
import Derived.Deep.MidRow
import Derived.Laws.MakeOwn
import Derived.IntWalk
namespace Go.Proofs.Ytgomklemldldiaa
set_option linter.unusedVariables false
set_option linter.unusedSimpArgs false
open Go.RowKit

/-! ### what a type is -/
/-- a struct or an array? how many cells? -/
def tyB (P : Program) (T : TypeId) : Option (Bool × Nat) := match P.underlying T, P.info? T with
  | some d, some i => some (d.isRow, i.size)
  | _, _ => none
/-- a slice's element: its type, cells, bytes -/
def slE (P : Program) (T : TypeId) : Option (TypeId × Nat × Nat) := match P.underlying T with
  | some (.slice e) => (P.info? e).map fun i => (e, i.size, i.bytes)
  | _ => none
/-- an array's length, and its element's cells -/
def arE (P : Program) (T : TypeId) : Option (Nat × Nat) := match P.underlying T with
  | some (.array n e) => (P.info? e).map fun i => (n, i.size)
  | _ => none
/-- where a field that has cells stands -/
def fdO (P : Program) (T : TypeId) (f : Nat) : Option Nat := match P.underlying T with
  | some (.struct fs) => (fs[f]?).bind fun d => (P.info? d.type).bind fun i => if i.size = 0 then none else some d.offset
  | _ => none
def zrC (P : Program) (T : TypeId) : Option (List Value) := (P.info? T).bind fun i => i.zero.map fun z => z.cells.toList
def knd (P : Program) (T : TypeId) : Option IntKind := match P.underlying T with
  | some (.int k) => some k
  | _ => none

theorem tyB_spec {P : Program} {T : TypeId} {b : Bool} {k : Nat} (h : tyB P T = some (b, k)) : ∃ d i, P.underlying T = some d ∧ P.info? T = some i ∧ d.isRow = b ∧ i.size = k := by
  unfold tyB at h
  split at h
  · rename_i d i h1 h2
    simp only [Option.some.injEq, Prod.mk.injEq] at h
    exact ⟨d, i, h1, h2, h.1, h.2⟩
  · cases h
theorem slE_spec {P : Program} {T e : TypeId} {sz by' : Nat} (h : slE P T = some (e, sz, by')) : P.underlying T = some (.slice e) ∧ ∃ i, P.info? e = some i ∧ i.size = sz ∧ i.bytes = by' := by
  unfold slE at h
  split at h
  · rename_i e' h1
    simp only [Option.map_eq_some_iff, Prod.mk.injEq] at h
    obtain ⟨i, h2, rfl, h3, h4⟩ := h
    exact ⟨h1, i, h2, h3, h4⟩
  · cases h
theorem arE_spec {P : Program} {T : TypeId} {n sz : Nat} (h : arE P T = some (n, sz)) : ∃ e i, P.underlying T = some (.array n e) ∧ P.info? e = some i ∧ i.size = sz := by
  unfold arE at h
  split at h
  · rename_i m e' h1
    simp only [Option.map_eq_some_iff, Prod.mk.injEq] at h
    obtain ⟨i, h2, rfl, h3⟩ := h
    exact ⟨e', i, h1, h2, h3⟩
  · cases h

section
variable {P : Program} {pc : Bool} {o : Oper} {F : Fr} {M : List Blk}

theorem run_v {s : Sem Value} {w w' : World} {v : Value} (h : s.run P w = .ok v w') : (do pure (Next.value (← s)) : Sem Next).run P w = .ok (.value v) w' := by
  simp only [Sem.run_bind, h, Result.andThen_ok, Sem.run_pure]
theorem run_u {s : Sem Unit} {w w' : World} (h : s.run P w = .ok () w') : (do s; pure Next.skip : Sem Next).run P w = .ok .skip w' := by
  simp only [Sem.run_bind, h, Result.andThen_ok, Sem.run_pure]

/-- an operand's value, where an operation stands -/
theorem ev_at {x : Operand} {d : D} {a : Act} {s : St} (hp : pc = true) (hx : Ev pc F x d) (hm : x ∈ o.op.operands) (hops : ∀ x ∈ o.op.operands, ∀ d, ev F x = some d → Rep s d (a.eval x)) : Rep s d (a.eval x) := by
  obtain ⟨d', e1, e2⟩ := hx
  exact e2 s _ hp (hops x hm d' e1)

theorem dg_val {a : Act} {s : St} {d : D} {v : Value} (ho : Ok s) (h : (execOp a.eval o).run P s.w = .ok (.value v) s.w) (hr : Rep s d v) : DGives P s (fun s' v => s'.M = upd s.M [] ∧ Rep s' d v) ((execOp a.eval o).run P s.w) := by
  rw [h]; exact ⟨s, rfl, Tr.refl ho, rfl, hr⟩

/-- it takes a value over -/
theorem op_move {x : Operand} {d : D} (ho : o.op = .move x ∨ o.op = .assign x) (hx : Ev pc F x d) : DOp P pc o F M [] d [] := by
  intro hp a s hok hops _
  have hm : x ∈ o.op.operands := by rcases ho with h | h <;> simp [h, Op.operands]
  refine dg_val hok ?_ (ev_at hp hx hm hops)
  unfold execOp
  rcases ho with h | h <;> simp only [h] <;> rfl

theorem op_and {c x : Operand} {y p : Bool} (ho : o.op = .pick c x (.const (.bool false))) (hc : Ev pc F c (.val (.bool y))) (hx : Ev (pc && y) F x (.val (.bool p))) : DOp P pc o F M [] (.val (.bool (y && p))) [] := by
  intro hp a s hok hops _
  have h1 := (ev_at hp hc (by simp [ho, Op.operands]) hops).val_eq
  refine dg_val (v := .bool (y && p)) hok ?_ (.val _)
  cases y with
  | false => unfold execOp; simp only [ho, h1, asBool]; rfl
  | true =>
    have h2 := (ev_at (by simp [hp]) hx (by simp [ho, Op.operands]) hops).val_eq
    unfold execOp
    simp only [ho, h1, h2, asBool]
    rfl
theorem op_or {c x : Operand} {y p : Bool} (ho : o.op = .pick c (.const (.bool true)) x) (hc : Ev pc F c (.val (.bool y))) (hx : Ev (pc && !y) F x (.val (.bool p))) : DOp P pc o F M [] (.val (.bool (y || p))) [] := by
  intro hp a s hok hops _
  have h1 := (ev_at hp hc (by simp [ho, Op.operands]) hops).val_eq
  refine dg_val (v := .bool (y || p)) hok ?_ (.val _)
  cases y with
  | true => unfold execOp; simp only [ho, h1, asBool]; rfl
  | false =>
    have h2 := (ev_at (by simp [hp]) hx (by simp [ho, Op.operands]) hops).val_eq
    unfold execOp
    simp only [ho, h1, h2, asBool]
    rfl

/-! ### numbers -/
theorem int_bin {op : BinOp} {T T' : TypeId} {x y : Operand} {k : IntKind} {p q : Int} {r : Value} (ho : o.op = .binOp op T x y T') (hx : Ev pc F x (.val (.int k p))) (hy : Ev pc F y (.val (.int k q)))
    (hr : ∀ w, (eqGuard op T x y (.int k p) (.int k q)).run P w = .ok () w ∧ (binOp op T (.int k p) (.int k q)).run P w = .ok r w) : DOp P pc o F M [] (.val r) [] := by
  intro hp a s hok hops _
  have h1 := (ev_at hp hx (by simp [ho, Op.operands]) hops).val_eq
  have h2 := (ev_at hp hy (by simp [ho, Op.operands]) hops).val_eq
  refine dg_val (v := r) hok ?_ (.val _)
  unfold execOp
  simp only [ho, h1, h2]
  refine run_v ?_
  rw [Sem.run_bind, (hr s.w).1, Result.andThen_ok]
  exact (hr s.w).2
theorem guard_int (op : BinOp) (T : TypeId) (x y : Operand) (k : IntKind) (p q : Int) (w : World) : (eqGuard op T x y (.int k p) (.int k q)).run P w = .ok () w := by
  unfold eqGuard; cases op <;> rfl
section
variable {T T' : TypeId} {x y : Operand} {k : IntKind} {p q : Int}
theorem op_add (ho : o.op = .binOp .add T x y T') (hx : Ev pc F x (.val (.int k p))) (hy : Ev pc F y (.val (.int k q))) : DOp P pc o F M [] (.val (.int k (k.wrap (p + q)))) [] := int_bin ho hx hy fun w => ⟨guard_int .., by simp [binOp, Op.intArith]⟩
theorem op_sub (ho : o.op = .binOp .sub T x y T') (hx : Ev pc F x (.val (.int k p))) (hy : Ev pc F y (.val (.int k q))) : DOp P pc o F M [] (.val (.int k (k.wrap (p - q)))) [] := int_bin ho hx hy fun w => ⟨guard_int .., by simp [binOp, Op.intArith]⟩
theorem op_mul (ho : o.op = .binOp .mul T x y T') (hx : Ev pc F x (.val (.int k p))) (hy : Ev pc F y (.val (.int k q))) : DOp P pc o F M [] (.val (.int k (k.wrap (p * q)))) [] := int_bin ho hx hy fun w => ⟨guard_int .., by simp [binOp, Op.intArith]⟩
/-- .. with no wrap -/
theorem op_add' (ho : o.op = .binOp .add T x y T') (hx : Ev pc F x (.val (.int k p))) (hy : Ev pc F y (.val (.int k q))) (h : pc = true → k.wrap (p + q) = p + q) : DOp P pc o F M [] (.val (.int k (p + q))) [] := fun hp => by
  have := op_add (P := P) (M := M) ho hx hy hp; rwa [h hp] at this
theorem op_sub' (ho : o.op = .binOp .sub T x y T') (hx : Ev pc F x (.val (.int k p))) (hy : Ev pc F y (.val (.int k q))) (h : pc = true → k.wrap (p - q) = p - q) : DOp P pc o F M [] (.val (.int k (p - q))) [] := fun hp => by
  have := op_sub (P := P) (M := M) ho hx hy hp; rwa [h hp] at this
theorem op_mul' (ho : o.op = .binOp .mul T x y T') (hx : Ev pc F x (.val (.int k p))) (hy : Ev pc F y (.val (.int k q))) (h : pc = true → k.wrap (p * q) = p * q) : DOp P pc o F M [] (.val (.int k (p * q))) [] := fun hp => by
  have := op_mul (P := P) (M := M) ho hx hy hp; rwa [h hp] at this
theorem op_lss (ho : o.op = .binOp .lss T x y T') (hx : Ev pc F x (.val (.int k p))) (hy : Ev pc F y (.val (.int k q))) : DOp P pc o F M [] (.val (.bool (decide (p < q)))) [] := int_bin ho hx hy fun w => ⟨guard_int .., by simp [binOp, Op.intCmp]⟩
theorem op_leq (ho : o.op = .binOp .leq T x y T') (hx : Ev pc F x (.val (.int k p))) (hy : Ev pc F y (.val (.int k q))) : DOp P pc o F M [] (.val (.bool (decide (p ≤ q)))) [] := int_bin ho hx hy fun w => ⟨guard_int .., by simp [binOp, Op.intCmp]⟩
theorem op_gtr (ho : o.op = .binOp .gtr T x y T') (hx : Ev pc F x (.val (.int k p))) (hy : Ev pc F y (.val (.int k q))) : DOp P pc o F M [] (.val (.bool (decide (q < p)))) [] := int_bin ho hx hy fun w => ⟨guard_int .., by simp [binOp, Op.intCmp]⟩
theorem op_geq (ho : o.op = .binOp .geq T x y T') (hx : Ev pc F x (.val (.int k p))) (hy : Ev pc F y (.val (.int k q))) : DOp P pc o F M [] (.val (.bool (decide (q ≤ p)))) [] := int_bin ho hx hy fun w => ⟨guard_int .., by simp [binOp, Op.intCmp]⟩
theorem op_eql (ho : o.op = .binOp .eql T x y T') (hx : Ev pc F x (.val (.int k p))) (hy : Ev pc F y (.val (.int k q))) : DOp P pc o F M [] (.val (.bool (p == q))) [] := int_bin ho hx hy fun w => ⟨guard_int .., by simp [binOp, Op.intCmp]⟩
theorem op_neq (ho : o.op = .binOp .neq T x y T') (hx : Ev pc F x (.val (.int k p))) (hy : Ev pc F y (.val (.int k q))) : DOp P pc o F M [] (.val (.bool (p != q))) [] := int_bin ho hx hy fun w => ⟨guard_int .., by simp [binOp, Op.intCmp]⟩
theorem op_quo (ho : o.op = .binOp .quo T x y T') (hx : Ev pc F x (.val (.int k p))) (hy : Ev pc F y (.val (.int k q))) (h0 : pc = true → q ≠ 0) : DOp P pc o F M [] (.val (.int k (k.wrap (p.tdiv q)))) [] :=
  fun hp => int_bin ho hx hy (fun w => ⟨guard_int .., by have := h0 hp; simp [binOp, Op.intDiv, this]⟩) hp
theorem op_rem (ho : o.op = .binOp .rem T x y T') (hx : Ev pc F x (.val (.int k p))) (hy : Ev pc F y (.val (.int k q))) (h0 : pc = true → q ≠ 0) : DOp P pc o F M [] (.val (.int k (p.tmod q))) [] :=
  fun hp => int_bin ho hx hy (fun w => ⟨guard_int .., by have := h0 hp; simp [binOp, Op.intDiv, this]⟩) hp
theorem op_quo' (ho : o.op = .binOp .quo T x y T') (hx : Ev pc F x (.val (.int k p))) (hy : Ev pc F y (.val (.int k q))) (h0 : pc = true → 0 < q ∧ 0 ≤ p ∧ k.wrap (p / q) = p / q) : DOp P pc o F M [] (.val (.int k (p / q))) [] := fun hp => by
  obtain ⟨h1, h2, h3⟩ := h0 hp
  have := op_quo (P := P) (M := M) ho hx hy (fun _ => by omega) hp
  rwa [Int.tdiv_eq_ediv_of_nonneg h2, h3] at this
theorem op_rem' (ho : o.op = .binOp .rem T x y T') (hx : Ev pc F x (.val (.int k p))) (hy : Ev pc F y (.val (.int k q))) (h0 : pc = true → q ≠ 0 ∧ 0 ≤ p) : DOp P pc o F M [] (.val (.int k (p % q))) [] := fun hp => by
  obtain ⟨h1, h2⟩ := h0 hp
  have := op_rem (P := P) (M := M) ho hx hy (fun _ => h1) hp
  rwa [Int.tmod_eq_emod_of_nonneg h2] at this
end
theorem op_neg {T : TypeId} {x : Operand} {k : IntKind} {p : Int} (ho : o.op = .unOp .neg T x) (hx : Ev pc F x (.val (.int k p))) : DOp P pc o F M [] (.val (.int k (k.wrap (0 - p)))) [] := by
  intro hp a s hok hops _
  have h1 := (ev_at hp hx (by simp [ho, Op.operands]) hops).val_eq
  refine dg_val (v := .int k (k.wrap (0 - p))) hok ?_ (.val _)
  unfold execOp
  simp only [ho, h1]
  exact run_v (by simp [Op.unary, Op.intArith])
theorem op_not {T : TypeId} {x : Operand} {b : Bool} (ho : o.op = .unOp .not T x) (hx : Ev pc F x (.val (.bool b))) : DOp P pc o F M [] (.val (.bool (!b))) [] := by
  intro hp a s hok hops _
  have h1 := (ev_at hp hx (by simp [ho, Op.operands]) hops).val_eq
  refine dg_val (v := .bool (!b)) hok ?_ (.val _)
  unfold execOp
  simp only [ho, h1]
  exact run_v (by simp [Op.unary])
theorem op_conv {S T : TypeId} {x : Operand} {k k' : IntKind} {p : Int} (hS : (tyB P S).isSome = true) (hT : knd P T = some k) (ho : o.op = .convert S T x) (hx : Ev pc F x (.val (.int k' p))) : DOp P pc o F M [] (.val (.int k (k.wrap p))) [] := by
  intro hp a s hok hops _
  have h1 := (ev_at hp hx (by simp [ho, Op.operands]) hops).val_eq
  refine dg_val (v := .int k (k.wrap p)) hok ?_ (.val _)
  obtain ⟨⟨b, m⟩, hS⟩ := Option.isSome_iff_exists.1 hS
  obtain ⟨d, i, e1, e2, _, _⟩ := tyB_spec hS
  have e3 : P.underlying T = some (.int k) := by
    unfold knd at hT
    split at hT
    · rename_i k' h; rw [h, Option.some.inj hT]
    · cases hT
  unfold execOp
  simp only [ho, h1]
  exact run_v (by simp [convert, run_underlying e1, run_underlying e3, Conv.intToInt])
theorem op_conv' {S T : TypeId} {x : Operand} {k k' : IntKind} {p : Int} (hS : (tyB P S).isSome = true) (hT : knd P T = some k) (ho : o.op = .convert S T x) (hx : Ev pc F x (.val (.int k' p))) (h : pc = true → k.wrap p = p) : DOp P pc o F M [] (.val (.int k p)) [] := fun hp => by
  have := op_conv (P := P) (M := M) hS hT ho hx hp; rwa [h hp] at this

/-- an operation on plain values, by its run -/
theorem op_val1 {x : Operand} {v r : Value} (hx : Ev pc F x (.val v)) (hm : x ∈ o.op.operands) (h : pc = true → ∀ (a : Act) (w : World), a.eval x = v → (execOp a.eval o).run P w = .ok (.value r) w) : DOp P pc o F M [] (.val r) [] := by
  intro hp a s hok hops _
  have h1 := (ev_at hp hx hm hops).val_eq
  exact dg_val (v := r) hok (h hp a s.w h1) (.val _)
theorem op_val2 {x y : Operand} {v u r : Value} (hx : Ev pc F x (.val v)) (hy : Ev pc F y (.val u)) (hm : x ∈ o.op.operands ∧ y ∈ o.op.operands) (h : pc = true → ∀ (a : Act) (w : World), a.eval x = v → a.eval y = u → (execOp a.eval o).run P w = .ok (.value r) w) : DOp P pc o F M [] (.val r) [] := by
  intro hp a s hok hops _
  have h1 := (ev_at hp hx hm.1 hops).val_eq
  have h2 := (ev_at hp hy hm.2 hops).val_eq
  exact dg_val (v := r) hok (h hp a s.w h1 h2) (.val _)
/-- two values of one type compared, by a law on their equality -/
theorem op_eqv {T T' : TypeId} {x y : Operand} {v u : Value} {b : Bool} (ho : o.op = .binOp .eql T x y T') (hx : Ev pc F x (.val v)) (hy : Ev pc F y (.val u)) (hg : ∀ w, (eqGuard .eql T x y v u).run P w = .ok () w) (h : ∀ w, (binOp .eql T v u).run P w = .ok (.bool b) w) : DOp P pc o F M [] (.val (.bool b)) [] :=
  op_val2 hx hy (by simp [ho, Op.operands]) fun _ a w e1 e2 => by
    unfold execOp
    simp only [ho, e1, e2]
    exact run_v (by rw [Sem.run_bind, hg, Result.andThen_ok, h])
theorem op_nev {T T' : TypeId} {x y : Operand} {v u : Value} {b : Bool} (ho : o.op = .binOp .neq T x y T') (hx : Ev pc F x (.val v)) (hy : Ev pc F y (.val u)) (hg : ∀ w, (eqGuard .neq T x y v u).run P w = .ok () w) (h : ∀ w, (binOp .neq T v u).run P w = .ok (.bool b) w) : DOp P pc o F M [] (.val (.bool b)) [] :=
  op_val2 hx hy (by simp [ho, Op.operands]) fun _ a w e1 e2 => by
    unfold execOp
    simp only [ho, e1, e2]
    exact run_v (by rw [Sem.run_bind, hg, Result.andThen_ok, h])

/-! ### memory that is read -/
theorem cellsAt_range {w : World} {b p : Nat} {L R : List Value} (h : cellsAt w b p L) (o k : Nat) (hR : (L.drop o).take k = R) : w.rangeAt b (p + o) R := by
  subst hR
  intro j v hj
  exact cellsAt_sub h o k j v hj

theorem run_load_row {T : TypeId} {x : Operand} {a : Act} {w : World} {b p k : Nat} {R : List Value} (ho : o.op = .load T x) (hT : tyB P T = some (true, k)) (hx : a.eval x = .pointer (some ⟨b, p, none⟩)) (hR : w.rangeAt b p R) (hl : R.length = k) :
    (execOp a.eval o).run P w = .ok (.value (.agg R.toArray)) w := by
  obtain ⟨d, i, e1, e2, e3, e4⟩ := tyB_spec hT
  unfold execOp
  simp only [ho, hx]
  exact run_v (run_loadAt_mid w b p T R d hR e1 e3 (by rw [e2]; simp [e4, hl]))
theorem run_load_one {T : TypeId} {x : Operand} {a : Act} {w : World} {b p k : Nat} {v : Value} (ho : o.op = .load T x) (hT : tyB P T = some (false, k)) (hx : a.eval x = .pointer (some ⟨b, p, none⟩)) (hv : w.cell? ⟨b, p, none⟩ = some v) :
    (execOp a.eval o).run P w = .ok (.value v) w := by
  obtain ⟨d, i, e1, e2, e3, e4⟩ := tyB_spec hT
  unfold execOp
  simp only [ho, hx]
  have hagg : (isAgg T).run P w = .ok false w := by
    unfold isAgg
    rw [Sem.run_bind, run_underlying e1 w]
    cases d <;> simp_all
  exact run_v (by simp [Instr.loadAt, Instr.sureAddr, loadVar, Sem.run_bind, hagg, load, Sem.run, hv])

section
variable {T : TypeId} {x : Operand} {i p k : Nat} {L R : List Value} {v : Value}
theorem flat_cells {s : St} (hok : Ok s) {T' : TypeId} {h : Value} {b : Nat} (h1 : s.M[i]? = some (.flat T' L)) (h2 : s.β[i]? = some h) (h3 : h = .pointer (some ⟨b, 0, none⟩)) : s.w.heap[b]? = some (.cells L.toArray T' (0, 0)) := by
  obtain ⟨b', e1, e2⟩ := hok.blk i _ h h1 h2
  rw [h3] at e1
  cases e1
  exact e2
theorem op_ldr {T' : TypeId} (ho : o.op = .load T x) (hT : tyB P T = some (true, k)) (hx : Ev pc F x (.loc i p)) (hM : M[i]? = some (.flat T' L)) (hR : (L.drop p).take k = R) (hl : R.length = k) : DOp P pc o F M [i] (.val (.agg R.toArray)) [] := by
  intro hp a s hok hops hfp
  have hr := ev_at hp hx (by simp [ho, Op.operands]) hops
  generalize hv : a.eval x = vx at hr
  cases hr with
  | @loc _ _ b h =>
    have hc := flat_cells hok (by rw [hfp i (by simp)]; exact hM) h rfl
    have := cellsAt_range (by simpa using cellsAt_block hc 0) p k hR
    rw [Nat.zero_add] at this
    exact dg_val hok (run_load_row ho hT hv this hl) (.val _)
theorem op_ldw {T' : TypeId} (ho : o.op = .load T x) (hT : tyB P T = some (true, k)) (hx : Ev pc F x (.loc i 0)) (hM : M[i]? = some (.flat T' L)) (hl : L.length = k) : DOp P pc o F M [i] (.val (.agg L.toArray)) [] :=
  op_ldr ho hT hx hM (by subst hl; simp) hl
theorem op_ldo {T' : TypeId} (ho : o.op = .load T x) (hT : tyB P T = some (false, k)) (hx : Ev pc F x (.loc i p)) (hM : M[i]? = some (.flat T' L)) (hR : L[p]? = some v) : DOp P pc o F M [i] (.val v) [] := by
  intro hp a s hok hops hfp
  have hr := ev_at hp hx (by simp [ho, Op.operands]) hops
  generalize hv : a.eval x = vx at hr
  cases hr with
  | @loc _ _ b h =>
    have hc := flat_cells hok (by rw [hfp i (by simp)]; exact hM) h rfl
    have h2 := cellsAt_block hc 0 p v (by simpa using hR)
    exact dg_val hok (run_load_one ho hT hv (by simpa using h2)) (.val _)
theorem op_ldm {T' : TypeId} {l : List D} {d : D} (ho : o.op = .load T x) (hT : tyB P T = some (false, k)) (hx : Ev pc F x (.loc i p)) (hM : M[i]? = some (.mix T' l)) (hR : l[p]? = some d) : DOp P pc o F M [i] d [] := by
  intro hp a s hok hops hfp
  have hr := ev_at hp hx (by simp [ho, Op.operands]) hops
  generalize hv : a.eval x = vx at hr
  cases hr with
  | @loc _ _ b h =>
    obtain ⟨b', vs, e1, e2, e3, e4⟩ := hok.blk i _ _ (by rw [hfp i (by simp)]; exact hM) h
    cases e1
    have hp' : p < vs.length := by rw [e3]; exact (List.getElem?_eq_some_iff.1 hR).1
    have h2 := cellsAt_block e2 0 p vs[p] (by simp [hp'])
    exact dg_val hok (run_load_one ho hT hv (by simpa using h2)) (e4 p d _ hR (List.getElem?_eq_getElem hp'))
theorem op_ldrd (ho : o.op = .load T x) (hT : tyB P T = some (true, k)) (hx : Ev pc F x (.dpf L)) (hR : L.take k = R) (hl : R.length = k) : DOp P pc o F M [] (.val (.agg R.toArray)) [] := by
  intro hp a s hok hops hfp
  have hr := ev_at hp hx (by simp [ho, Op.operands]) hops
  generalize hv : a.eval x = vx at hr
  cases hr with
  | @dpf b q _ hI h =>
    have := cellsAt_range h 0 k (by simpa using hR)
    exact dg_val hok (run_load_row ho hT hv (by simpa using this) hl) (.val _)
theorem op_ldwd (ho : o.op = .load T x) (hT : tyB P T = some (true, k)) (hx : Ev pc F x (.dpf L)) (hl : L.length = k) : DOp P pc o F M [] (.val (.agg L.toArray)) [] := op_ldrd ho hT hx (by subst hl; simp) hl
theorem op_ldod (ho : o.op = .load T x) (hT : tyB P T = some (false, k)) (hx : Ev pc F x (.dpf L)) (hR : L[0]? = some v) : DOp P pc o F M [] (.val v) [] := by
  intro hp a s hok hops hfp
  have hr := ev_at hp hx (by simp [ho, Op.operands]) hops
  generalize hv : a.eval x = vx at hr
  cases hr with
  | @dpf b q _ hI h => exact dg_val hok (run_load_one ho hT hv (by simpa using h 0 v hR)) (.val _)
theorem arr_cells {s : St} (hok : Ok s) {T' : TypeId} {sz n n' c b : Nat} (h1 : s.M[i]? = some (.arr T' sz n L)) (h2 : s.β[i]? = some (.slice (some ⟨b, 0, none⟩) n' c)) : n' = n ∧ L.length = n * sz ∧ n ≤ c ∧ c ≤ maxLen ∧ cellsAt s.w b 0 L ∧ ∃ cur, s.w.heap[b]? = some (.cells cur T' (0, 0)) ∧ L.length ≤ cur.size ∧ cur.toList.take L.length = L := by
  have hk : s.w.ownsRow 0 T' sz _ n L := hok.blk i _ _ h1 h2
  rcases hk.2 with ⟨e1, e2⟩ | ⟨g, cap, cur, e1, e2, e3, e4, e5, e6, e7⟩
  · cases e1
  · cases e1
    have hc0 := cellsAt_sub (cellsAt_block e3 0) 0 (n * sz)
    have hle := Nat.mul_le_mul_right sz e4
    exact ⟨rfl, hk.1, e4, e5, by simpa [e7] using hc0, cur, e3, by rw [hk.1, e6]; exact hle, by rw [hk.1]; exact e7⟩
theorem op_ldra {T' : TypeId} {sz n : Nat} (ho : o.op = .load T x) (hT : tyB P T = some (true, k)) (hx : Ev pc F x (.aloc i p)) (hM : M[i]? = some (.arr T' sz n L)) (hR : (L.drop p).take k = R) (hl : R.length = k) : DOp P pc o F M [i] (.val (.agg R.toArray)) [] := by
  intro hp a s hok hops hfp
  have hr := ev_at hp hx (by simp [ho, Op.operands]) hops
  generalize hv : a.eval x = vx at hr
  cases hr with
  | @aloc _ _ n' c b h =>
    obtain ⟨_, _, _, _, hc, _⟩ := arr_cells hok (by rw [hfp i (by simp)]; exact hM) h
    have := cellsAt_range hc p k hR
    rw [Nat.zero_add] at this
    exact dg_val hok (run_load_row ho hT hv this hl) (.val _)
theorem op_ldoa {T' : TypeId} {sz n : Nat} (ho : o.op = .load T x) (hT : tyB P T = some (false, k)) (hx : Ev pc F x (.aloc i p)) (hM : M[i]? = some (.arr T' sz n L)) (hR : L[p]? = some v) : DOp P pc o F M [i] (.val v) [] := by
  intro hp a s hok hops hfp
  have hr := ev_at hp hx (by simp [ho, Op.operands]) hops
  generalize hv : a.eval x = vx at hr
  cases hr with
  | @aloc _ _ n' c b h =>
    obtain ⟨_, _, _, _, hc, _⟩ := arr_cells hok (by rw [hfp i (by simp)]; exact hM) h
    exact dg_val hok (run_load_one ho hT hv (by simpa using hc p v hR)) (.val _)

/-! ### addresses -/
theorem run_fieldAddr {T : TypeId} {f q : Nat} {a : Act} {w : World} {b p : Nat} (ho : o.op = .fieldAddr T x f) (hT : fdO P T f = some q) (hx : a.eval x = .pointer (some ⟨b, p, none⟩)) : (execOp a.eval o).run P w = .ok (.value (.pointer (some ⟨b, p + q, none⟩))) w := by
  unfold fdO at hT
  split at hT
  · rename_i fs hu
    simp only [Option.bind_eq_some_iff] at hT
    obtain ⟨d, hd, i, hi, hq⟩ := hT
    by_cases hz : i.size = 0
    · rw [if_pos hz] at hq; cases hq
    · rw [if_neg hz] at hq
      obtain rfl := Option.some.inj hq
      unfold execOp
      simp only [ho, hx]
      refine run_v ?_
      unfold Instr.fieldAt
      simp [run_underlying hu, hd, Instr.sureAddr, fieldPlace, sizeOf, typeInfo, hi, hz, Addr.add_mid]
  · cases hT
theorem op_fa {f q : Nat} (ho : o.op = .fieldAddr T x f) (hT : fdO P T f = some q) (hx : Ev pc F x (.loc i p)) : DOp P pc o F M [] (.loc i (p + q)) [] := by
  intro hp a s hok hops hfp
  have hr := ev_at hp hx (by simp [ho, Op.operands]) hops
  generalize hv : a.eval x = vx at hr
  cases hr with
  | @loc _ _ b h => exact dg_val hok (run_fieldAddr ho hT hv) (.loc h)
theorem op_faa {f q : Nat} (ho : o.op = .fieldAddr T x f) (hT : fdO P T f = some q) (hx : Ev pc F x (.aloc i p)) : DOp P pc o F M [] (.aloc i (p + q)) [] := by
  intro hp a s hok hops hfp
  have hr := ev_at hp hx (by simp [ho, Op.operands]) hops
  generalize hv : a.eval x = vx at hr
  cases hr with
  | @aloc _ _ n' c b h => exact dg_val hok (run_fieldAddr ho hT hv) (.aloc h)
theorem op_fad {f q : Nat} (ho : o.op = .fieldAddr T x f) (hT : fdO P T f = some q) (hx : Ev pc F x (.dpf L)) : DOp P pc o F M [] (.dpf (L.drop q)) [] := by
  intro hp a s hok hops hfp
  have hr := ev_at hp hx (by simp [ho, Op.operands]) hops
  generalize hv : a.eval x = vx at hr
  cases hr with
  | @dpf b c _ hI h =>
    refine dg_val hok (run_fieldAddr ho hT hv) (.dpf hI fun j v hj => ?_)
    rw [List.getElem?_drop] at hj
    rw [Nat.add_assoc]
    exact h _ v hj
end

theorem run_index_arr {T : TypeId} {x y : Operand} {a : Act} {w : World} {n sz b p : Nat} {k : IntKind} {z : Int} (ho : o.op = .indexAddr T x y) (hT : arE P T = some (n, sz)) (hx : a.eval x = .pointer (some ⟨b, p, none⟩)) (hy : a.eval y = .int k z) (h0 : 0 ≤ z) (h1 : z < n) :
    (execOp a.eval o).run P w = .ok (.value (.pointer (some ⟨b, p + z.toNat * sz, none⟩))) w := by
  obtain ⟨e, i, e1, e2, e3⟩ := arE_spec hT
  unfold execOp
  simp only [ho, hx, hy]
  refine run_v ?_
  unfold Instr.indexAt
  simp [run_underlying e1, asIntOf, Instr.sureAddr, h0, h1, sizeOf, typeInfo, e2, e3, Addr.add_mid]
theorem run_index_sl {T e : TypeId} {x y : Operand} {a : Act} {w : World} {n c sz by' : Nat} {ad : Addr} {k : IntKind} {z : Int} (ho : o.op = .indexAddr T x y) (hT : slE P T = some (e, sz, by')) (hx : a.eval x = .slice (some ad) n c) (hy : a.eval y = .int k z) (h0 : 0 ≤ z) (h1 : z < n) :
    (execOp a.eval o).run P w = .ok (.value (.pointer (some (ad.add (z.toNat * sz))))) w := by
  obtain ⟨e1, i, e2, e3, _⟩ := slE_spec hT
  unfold execOp
  simp only [ho, hx, hy]
  refine run_v ?_
  unfold Instr.indexAt
  simp [run_underlying e1, asIntOf, h0, h1, sizeOf, typeInfo, e2, e3]
section
variable {T : TypeId} {x y : Operand} {i p n sz : Nat} {k : IntKind} {z : Int} {L : List Value}
theorem op_ixl (ho : o.op = .indexAddr T x y) (hT : arE P T = some (n, sz)) (hx : Ev pc F x (.loc i p)) (hy : Ev pc F y (.val (.int k z))) (h : pc = true → 0 ≤ z ∧ z < n) : DOp P pc o F M [] (.loc i (p + z.toNat * sz)) [] := by
  intro hp a s hok hops hfp
  have hr := ev_at hp hx (by simp [ho, Op.operands]) hops
  have h2 := (ev_at hp hy (by simp [ho, Op.operands]) hops).val_eq
  generalize hv : a.eval x = vx at hr
  cases hr with
  | @loc _ _ b hb => exact dg_val hok (run_index_arr ho hT hv h2 (h hp).1 (h hp).2) (.loc hb)
theorem op_ixal (ho : o.op = .indexAddr T x y) (hT : arE P T = some (n, sz)) (hx : Ev pc F x (.aloc i p)) (hy : Ev pc F y (.val (.int k z))) (h : pc = true → 0 ≤ z ∧ z < n) : DOp P pc o F M [] (.aloc i (p + z.toNat * sz)) [] := by
  intro hp a s hok hops hfp
  have hr := ev_at hp hx (by simp [ho, Op.operands]) hops
  have h2 := (ev_at hp hy (by simp [ho, Op.operands]) hops).val_eq
  generalize hv : a.eval x = vx at hr
  cases hr with
  | @aloc _ _ n' c b hb => exact dg_val hok (run_index_arr ho hT hv h2 (h hp).1 (h hp).2) (.aloc hb)
theorem op_ixd (ho : o.op = .indexAddr T x y) (hT : arE P T = some (n, sz)) (hx : Ev pc F x (.dpf L)) (hy : Ev pc F y (.val (.int k z))) (h : pc = true → 0 ≤ z ∧ z < n) : DOp P pc o F M [] (.dpf (L.drop (z.toNat * sz))) [] := by
  intro hp a s hok hops hfp
  have hr := ev_at hp hx (by simp [ho, Op.operands]) hops
  have h2 := (ev_at hp hy (by simp [ho, Op.operands]) hops).val_eq
  generalize hv : a.eval x = vx at hr
  cases hr with
  | @dpf b c _ hI hc =>
    refine dg_val hok (run_index_arr ho hT hv h2 (h hp).1 (h hp).2) (.dpf hI fun j v hj => ?_)
    rw [List.getElem?_drop] at hj
    rw [Nat.add_assoc]
    exact hc _ v hj
variable {e : TypeId} {by' m : Nat}
/-- an element of a slice that stays -/
theorem op_ixs (ho : o.op = .indexAddr T x y) (hT : slE P T = some (e, sz, by')) (hx : Ev pc F x (.slf sz m L)) (hy : Ev pc F y (.val (.int k z))) (h : pc = true → 0 ≤ z ∧ z < m) (hsz : 0 < sz) : DOp P pc o F M [] (.dpf (L.drop (z.toNat * sz))) [] := by
  intro hp a s hok hops hfp
  have hr := ev_at hp hx (by simp [ho, Op.operands]) hops
  have h2 := (ev_at hp hy (by simp [ho, Op.operands]) hops).val_eq
  obtain ⟨h3, h4⟩ := h hp
  generalize hv : a.eval x = vx at hr
  cases hr with
  | @slf _ _ cap ad _ hl hn hc ha hL =>
    rcases hL with rfl | ⟨b, q, rfl, hI, hcl⟩
    · exfalso
      have : m * sz = 0 := by simpa using hl.symm
      rcases Nat.mul_eq_zero.1 this with h | h <;> omega
    · refine dg_val hok (run_index_sl ho hT hv h2 h3 h4) ?_
      rw [Addr.add_mid]
      refine .dpf hI fun j v hj => ?_
      rw [List.getElem?_drop] at hj
      rw [Nat.add_assoc]
      exact hcl _ v hj
theorem op_ixsr {α : Type} {en : α → List Value} {l : List α} {j : Nat} (ho : o.op = .indexAddr T x y) (hT : slE P T = some (e, sz, by')) (hx : Ev pc F x (.slf sz l.length (l.flatMap en))) (hy : Ev pc F y (.val (.int k z))) (hen : ∀ a, (en a).length = sz) (hsz : 0 < sz) (hz : z = (j : Int)) (hj : j < l.length) : DOp P pc o F M [] (.dpf (en l[j])) [] := by
  intro hp a s hok hops hfp
  have h1 := op_ixs (P := P) (M := M) ho hT hx hy (fun _ => by omega) hsz hp a s hok hops hfp
  revert h1
  generalize (execOp a.eval o).run P s.w = r
  have key : ∀ (s' : St) v, Rep s' (.dpf ((l.flatMap en).drop (z.toNat * sz))) v → Rep s' (.dpf (en l[j])) v := by
    intro s' v hr
    cases hr with
    | dpf hI hc =>
      refine .dpf hI fun i v hi => hc i v ?_
      rw [List.getElem?_drop, show z.toNat = j by omega]
      have : ∀ (l : List α) (j : Nat) (hj : j < l.length), (l.flatMap en)[j * sz + i]? = (en l[j])[i]? := by
        intro l
        induction l with
        | nil => intro j hj; simp at hj
        | cons b l ih =>
          intro j hj
          have hil : i < sz := by rw [← hen]; exact (List.getElem?_eq_some_iff.1 hi).1
          cases j with
          | zero => rw [List.flatMap_cons, Nat.zero_mul, Nat.zero_add, List.getElem?_append_left (by rw [hen]; exact hil)]; rfl
          | succ j =>
            rw [List.flatMap_cons, List.getElem?_append_right (by rw [hen, Nat.succ_mul]; omega), hen, show (j + 1) * sz + i - sz = j * sz + i by rw [Nat.succ_mul]; omega]
            exact ih j (by simpa using hj)
      rw [this l j hj]
      exact hi
  intro h1
  cases r with
  | halt x w' => exact h1
  | ok nx w' =>
    cases nx with
    | value v => obtain ⟨s', a1, a2, a3, a4⟩ := h1; exact ⟨s', a1, a2, a3, key s' v a4⟩
    | skip => obtain ⟨s', a1, a2, a3, a4⟩ := h1; exact ⟨s', a1, a2, a3, key s' _ a4⟩
    | enter f args => exact ⟨h1.1, h1.2.mono fun e w'' ⟨s', v, b1, b2, b3, b4, b5⟩ => ⟨s', v, b1, b2, b3, b4, key s' v b5⟩⟩
    | round l f tmps asg body => exact ⟨h1.1, h1.2.mono fun e w'' ⟨s', v, b1, b2, b3, b4, b5⟩ => ⟨s', v, b1, b2, b3, b4, key s' v b5⟩⟩
    | _ => exact h1
/-- an element of an array of its own -/
theorem op_ixa {T' : TypeId} (ho : o.op = .indexAddr T x y) (hT : slE P T = some (e, sz, by')) (hx : Ev pc F x (.arr i)) (hy : Ev pc F y (.val (.int k z))) (hM : M[i]? = some (.arr T' sz m L)) (h : pc = true → 0 ≤ z ∧ z < m) : DOp P pc o F M [i] (.aloc i (z.toNat * sz)) [] := by
  intro hp a s hok hops hfp
  have hr := ev_at hp hx (by simp [ho, Op.operands]) hops
  have h2 := (ev_at hp hy (by simp [ho, Op.operands]) hops).val_eq
  obtain ⟨h3, h4⟩ := h hp
  generalize hv : a.eval x = vx at hr
  cases hr with
  | @arr _ ad n' c hb =>
    have hM' : s.M[i]? = some (.arr T' sz m L) := by rw [hfp i (by simp)]; exact hM
    have hk : s.w.ownsRow 0 T' sz _ m L := hok.blk i _ _ hM' hb
    rcases hk.2 with ⟨e1, e2⟩ | ⟨g, cap, cur, e1, e2, e3, e4, e5, e6, e7⟩
    · exfalso; omega
    · cases e1
      refine dg_val hok (run_index_sl ho hT hv h2 h3 h4) ?_
      rw [Addr.add_mid, Nat.zero_add]
      exact .aloc hb
end
end
end Go.Proofs.Ytgomklemldldiaa
