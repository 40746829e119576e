/- Operations: numbers, bools, structs, memory that is read and written. Conditions: what a type is, by the kernel; Operations that make memory, and write it. Conditions: what a type is, by the kernel; Operations on slices: made, cut, grown; tuples; function values; structs. Conditions: what a type is, by the kernel; Moves and extracts of a region, carried out at once; Values that came in and hold no address (numbers, bools, strings, and structs and arrays of these): their cells, opened; slices of such.  but the kernel's look at the type; From a walk to the statement: a law whose call returns true, and leaves all that was there as it was, reads its arguments afterwards as they read before.  but the kernel's look at the program; Ends of calls; structs built; bools and strings compared; least and greatest; slices taken over, and given up. Conditions: what a type is, by the kernel; Functions t. No condition. -/
import Derived.Test.YtofklkbfkoliiaaGreatV1
import Derived.Deep.MidRow
import Derived.Laws.MakeOwn
import Derived.IntWalk
import Derived.Laws.OwnMore
import Derived.Test.YtofklkbfkoliiaaGreatProg
import Derived.OpenShut
import Derived.ChangeArms
import Derived.DataReads
import Derived.Deep.Slices
import Derived.JoinedOf
import Derived.JoinedAt
import Derived.Lib.SmallJoins
import Derived.Test.YtofklkbfkoliiaaGreatRows
import Derived.Carry
import Derived.ProofKit
import Derived.RowKit3
import Derived.OwnWalk
import Derived.Recover
import Derived.RangeFuncIn
import Derived.Laws.Pointers
import Derived.Laws.StructEq
import Derived.LaidMore
import Derived.Handed
import Derived.LaidHandle
import Derived.Stop.Joined
set_option maxRecDepth 100000
open List renaming getElem?_eq_some_iff → qbq, getElem?_eq_getElem → qbr, length_append → qbz, getElem?_set_ne → qbC, cons_append → qbD, nil_append → qbF, getElem?_set_self → qbG, replicate → qbH, getElem?_append_left → qbI, flatMap_cons → qbJ, getElem?_append_right → qbO, take_succ_eq_append_getElem → qbP, length_take → qbS, take_of_length_le → qbT, eq_nil_of_length_eq_zero → qbU, getD_eq_getElem?_getD → qbV, length_cons → qbW, all_eq_true → qbX, append_assoc → qbY, length_drop → qbZ, mem_cons_self → qb1, mem_cons_of_mem → qb4, range → qb5, getElem_of_mem → qcc, getElem?_drop → qcd, length_nil → qce, length_map → qcf, append_nil → qci
open Nat renaming zero_add → qbs, le_of_ble_eq_true → qbA, le_trans → qbK, le_refl → qbM, zero_le → qb3, mul_le_mul_right → qb6, succ_mul → qcg, blt → qcj
open Bool renaming and_eq_true → qbu
open Option.some renaming inj → qbw
open Option renaming map_eq_some_iff → qbL
open Array renaming replicate → qb8
open Int renaming toNat_natCast → qcb
namespace Go.Proofs.YtofklkbfkoliiaaGreat
set_option linter.unusedVariables false
set_option linter.unusedSimpArgs false
open Go.RowKit
def tyB (P : Program) (T : TypeId) : Option (Bool × Nat) := match P.underlying T, P.info? T with
 | some d, some i => some (d.isRow, i.size)
 | _, _ => none
def slE (P : Program) (T : TypeId) : Option (TypeId × Nat × Nat) := match P.underlying T with
 | some (.slice e) => (P.info? e).map fun i => (e, i.size, i.bytes)
 | _ => none
def arE (P : Program) (T : TypeId) : Option (Nat × Nat) := match P.underlying T with
 | some (.array n e) => (P.info? e).map fun i => (n, i.size)
 | _ => none
def fdO (P : Program) (T : TypeId) (f : Nat) : Option Nat := match P.underlying T with
 | some (.struct fs) => (fs[f]?).bind fun d => (P.info? d.type).bind fun i => if i.size = 0 then none else some d.offset
 | _ => none
def zrC (P : Program) (T : TypeId) : Option (List Value) := (P.info? T).bind fun i => i.zero.map fun z => z.cells.toList
def knd (P : Program) (T : TypeId) : Option IntKind := match P.underlying T with
 | some (.int k) => some k
 | _ => none
theorem gw {P : Program} {T : TypeId} {b : Bool} {k : Nat} (h : tyB P T = some (b, k)) : ∃ d i, P.underlying T = some d ∧ P.info? T = some i ∧ d.isRow = b ∧ i.size = k := by
 unfold tyB at h
 split at h
 ·rename_i d i h1 h2
  simp only [Option.some.injEq, Prod.mk.injEq] at h
  exact ⟨d, i, h1, h2, h.1, h.2⟩
 ·cases h
theorem kS {P : Program} {T e : TypeId} {sz by' : Nat} (h : slE P T = some (e, sz, by')) : P.underlying T = some (.slice e) ∧ ∃ i, P.info? e = some i ∧ i.size = sz ∧ i.bytes = by' := by
 unfold slE at h
 split at h
 ·rename_i e' h1
  simp only [qbL, Prod.mk.injEq] at h
  obtain ⟨i, h2, rfl, h3, h4⟩ := h
  exact ⟨h1, i, h2, h3, h4⟩
 ·cases h
theorem uF {P : Program} {T : TypeId} {n sz : Nat} (h : arE P T = some (n, sz)) : ∃ e i, P.underlying T = some (.array n e) ∧ P.info? e = some i ∧ i.size = sz := by
 unfold arE at h
 split at h
 ·rename_i m e' h1
  simp only [qbL, Prod.mk.injEq] at h
  obtain ⟨i, h2, rfl, h3⟩ := h
  exact ⟨e', i, h1, h2, h3⟩
 ·cases h
section
variable {P : Program} {pc : Bool} {o : Oper} {F : Fr} {M : List Blk}
theorem k6 {s : Sem Value} {w w' : World} {v : Value} (h : s.run P w = .ok v w') : (do pure (Next.value (← s)) : Sem Next).run P w = .ok (.value v) w' := by
 simp only [Sem.run_bind, h, Result.andThen_ok, Sem.run_pure]
theorem run_u {s : Sem Unit} {w w' : World} (h : s.run P w = .ok () w') : (do s; pure Next.skip : Sem Next).run P w = .ok .skip w' := by
 simp only [Sem.run_bind, h, Result.andThen_ok, Sem.run_pure]
theorem qu {x : Operand} {d : D} {a : Act} {s : St} (hp : pc = true) (hx : Ev pc F x d) (hm : x ∈ o.op.operands) (hops : ∀ x ∈ o.op.operands, ∀ d, ev F x = some d → Rep s d (a.eval x)) : Rep s d (a.eval x) := by
 obtain ⟨d', e1, e2⟩ := hx
 exact e2 s _ hp (hops x hm d' e1)
theorem qU {a : Act} {s : St} {d : D} {v : Value} (ho : Ok s) (h : (execOp a.eval o).run P s.w = .ok (.value v) s.w) (hr : Rep s d v) : DGives P s (fun s' v => s'.M = upd s.M [] ∧ Rep s' d v) ((execOp a.eval o).run P s.w) := by
 rw [h]; exact ⟨s, rfl, Tr.refl ho, rfl, hr⟩
theorem zal {x : Operand} {d : D} (ho : o.op = .move x ∨ o.op = .assign x) (hx : Ev pc F x d) : DOp P pc o F M [] d [] := by
 intro hp a s hok hops _
 have hm : x ∈ o.op.operands := by rcases ho with h | h <;> simp [h, Op.operands]
 refine qU hok ?_ (qu hp hx hm hops)
 unfold execOp
 rcases ho with h | h <;> simp only [h] <;> rfl
theorem qC {c x : Operand} {y p : Bool} (ho : o.op = .pick c x (.const (.bool false))) (hc : Ev pc F c (.val (.bool y))) (hx : Ev (pc && y) F x (.val (.bool p))) : DOp P pc o F M [] (.val (.bool (y && p))) [] := by
 intro hp a s hok hops _
 have h1 := (qu hp hc (by simp [ho, Op.operands]) hops).val_eq
 refine qU (v := .bool (y && p)) hok ?_ (.val _)
 cases y with
 | false => unfold execOp; simp only [ho, h1, asBool]; rfl
 | true =>
  have h2 := (qu (by simp [hp]) hx (by simp [ho, Op.operands]) hops).val_eq
  unfold execOp
  simp only [ho, h1, h2, asBool]
  rfl
theorem kx {c x : Operand} {y p : Bool} (ho : o.op = .pick c (.const (.bool true)) x) (hc : Ev pc F c (.val (.bool y))) (hx : Ev (pc && !y) F x (.val (.bool p))) : DOp P pc o F M [] (.val (.bool (y || p))) [] := by
 intro hp a s hok hops _
 have h1 := (qu hp hc (by simp [ho, Op.operands]) hops).val_eq
 refine qU (v := .bool (y || p)) hok ?_ (.val _)
 cases y with
 | true => unfold execOp; simp only [ho, h1, asBool]; rfl
 | false =>
  have h2 := (qu (by simp [hp]) hx (by simp [ho, Op.operands]) hops).val_eq
  unfold execOp
  simp only [ho, h1, h2, asBool]
  rfl
theorem gJ {op : BinOp} {T T' : TypeId} {x y : Operand} {k : IntKind} {p q : Int} {r : Value} (ho : o.op = .binOp op T x y T') (hx : Ev pc F x (.val (.int k p))) (hy : Ev pc F y (.val (.int k q)))
  (hr : ∀ w, (eqGuard op T x y (.int k p) (.int k q)).run P w = .ok () w ∧ (binOp op T (.int k p) (.int k q)).run P w = .ok r w) : DOp P pc o F M [] (.val r) [] := by
 intro hp a s hok hops _
 have h1 := (qu hp hx (by simp [ho, Op.operands]) hops).val_eq
 have h2 := (qu hp hy (by simp [ho, Op.operands]) hops).val_eq
 refine qU (v := r) hok ?_ (.val _)
 unfold execOp
 simp only [ho, h1, h2]
 refine k6 ?_
 rw [Sem.run_bind, (hr s.w).1, Result.andThen_ok]
 exact (hr s.w).2
theorem j6 (op : BinOp) (T : TypeId) (x y : Operand) (k : IntKind) (p q : Int) (w : World) : (eqGuard op T x y (.int k p) (.int k q)).run P w = .ok () w := by
 unfold eqGuard; cases op <;> rfl
section
variable {T T' : TypeId} {x y : Operand} {k : IntKind} {p q : Int}
theorem WR (ho : o.op = .binOp .add T x y T') (hx : Ev pc F x (.val (.int k p))) (hy : Ev pc F y (.val (.int k q))) : DOp P pc o F M [] (.val (.int k (k.wrap (p + q)))) [] := gJ ho hx hy fun w => ⟨j6 .., by simp [binOp, Op.intArith]⟩
theorem WS (ho : o.op = .binOp .sub T x y T') (hx : Ev pc F x (.val (.int k p))) (hy : Ev pc F y (.val (.int k q))) : DOp P pc o F M [] (.val (.int k (k.wrap (p - q)))) [] := gJ ho hx hy fun w => ⟨j6 .., by simp [binOp, Op.intArith]⟩
theorem WT (ho : o.op = .binOp .mul T x y T') (hx : Ev pc F x (.val (.int k p))) (hy : Ev pc F y (.val (.int k q))) : DOp P pc o F M [] (.val (.int k (k.wrap (p * q)))) [] := gJ ho hx hy fun w => ⟨j6 .., by simp [binOp, Op.intArith]⟩
theorem ql (ho : o.op = .binOp .add T x y T') (hx : Ev pc F x (.val (.int k p))) (hy : Ev pc F y (.val (.int k q))) (h : pc = true → k.wrap (p + q) = p + q) : DOp P pc o F M [] (.val (.int k (p + q))) [] := fun hp => by
 have := WR (P := P) (M := M) ho hx hy hp; rwa [h hp] at this
theorem jV (ho : o.op = .binOp .sub T x y T') (hx : Ev pc F x (.val (.int k p))) (hy : Ev pc F y (.val (.int k q))) (h : pc = true → k.wrap (p - q) = p - q) : DOp P pc o F M [] (.val (.int k (p - q))) [] := fun hp => by
 have := WS (P := P) (M := M) ho hx hy hp; rwa [h hp] at this
theorem yz (ho : o.op = .binOp .mul T x y T') (hx : Ev pc F x (.val (.int k p))) (hy : Ev pc F y (.val (.int k q))) (h : pc = true → k.wrap (p * q) = p * q) : DOp P pc o F M [] (.val (.int k (p * q))) [] := fun hp => by
 have := WT (P := P) (M := M) ho hx hy hp; rwa [h hp] at this
theorem qv (ho : o.op = .binOp .lss T x y T') (hx : Ev pc F x (.val (.int k p))) (hy : Ev pc F y (.val (.int k q))) : DOp P pc o F M [] (.val (.bool (decide (p < q)))) [] := gJ ho hx hy fun w => ⟨j6 .., by simp [binOp, Op.intCmp]⟩
theorem y3 (ho : o.op = .binOp .leq T x y T') (hx : Ev pc F x (.val (.int k p))) (hy : Ev pc F y (.val (.int k q))) : DOp P pc o F M [] (.val (.bool (decide (p ≤ q)))) [] := gJ ho hx hy fun w => ⟨j6 .., by simp [binOp, Op.intCmp]⟩
theorem kA (ho : o.op = .binOp .gtr T x y T') (hx : Ev pc F x (.val (.int k p))) (hy : Ev pc F y (.val (.int k q))) : DOp P pc o F M [] (.val (.bool (decide (q < p)))) [] := gJ ho hx hy fun w => ⟨j6 .., by simp [binOp, Op.intCmp]⟩
theorem jh (ho : o.op = .binOp .geq T x y T') (hx : Ev pc F x (.val (.int k p))) (hy : Ev pc F y (.val (.int k q))) : DOp P pc o F M [] (.val (.bool (decide (q ≤ p)))) [] := gJ ho hx hy fun w => ⟨j6 .., by simp [binOp, Op.intCmp]⟩
theorem qm (ho : o.op = .binOp .eql T x y T') (hx : Ev pc F x (.val (.int k p))) (hy : Ev pc F y (.val (.int k q))) : DOp P pc o F M [] (.val (.bool (p == q))) [] := gJ ho hx hy fun w => ⟨j6 .., by simp [binOp, Op.intCmp]⟩
theorem qT (ho : o.op = .binOp .neq T x y T') (hx : Ev pc F x (.val (.int k p))) (hy : Ev pc F y (.val (.int k q))) : DOp P pc o F M [] (.val (.bool (p != q))) [] := gJ ho hx hy fun w => ⟨j6 .., by simp [binOp, Op.intCmp]⟩
theorem AR (ho : o.op = .binOp .quo T x y T') (hx : Ev pc F x (.val (.int k p))) (hy : Ev pc F y (.val (.int k q))) (h0 : pc = true → q ≠ 0) : DOp P pc o F M [] (.val (.int k (k.wrap (p.tdiv q)))) [] :=
 fun hp => gJ ho hx hy (fun w => ⟨j6 .., by have := h0 hp; simp [binOp, Op.intDiv, this]⟩) hp
theorem Zk (ho : o.op = .binOp .quo T x y T') (hx : Ev pc F x (.val (.int k p))) (hy : Ev pc F y (.val (.int k q))) (h0 : pc = true → 0 < q ∧ 0 ≤ p ∧ k.wrap (p / q) = p / q) : DOp P pc o F M [] (.val (.int k (p / q))) [] := fun hp => by
 obtain ⟨h1, h2, h3⟩ := h0 hp
 have := AR (P := P) (M := M) ho hx hy (fun _ => by omega) hp
 rwa [Int.tdiv_eq_ediv_of_nonneg h2, h3] at this
end
theorem kv {T : TypeId} {x : Operand} {b : Bool} (ho : o.op = .unOp .not T x) (hx : Ev pc F x (.val (.bool b))) : DOp P pc o F M [] (.val (.bool (!b))) [] := by
 intro hp a s hok hops _
 have h1 := (qu hp hx (by simp [ho, Op.operands]) hops).val_eq
 refine qU (v := .bool (!b)) hok ?_ (.val _)
 unfold execOp
 simp only [ho, h1]
 exact k6 (by simp [Op.unary])
theorem Jw {S T : TypeId} {x : Operand} {k k' : IntKind} {p : Int} (hS : (tyB P S).isSome = true) (hT : knd P T = some k) (ho : o.op = .convert S T x) (hx : Ev pc F x (.val (.int k' p))) : DOp P pc o F M [] (.val (.int k (k.wrap p))) [] := by
 intro hp a s hok hops _
 have h1 := (qu hp hx (by simp [ho, Op.operands]) hops).val_eq
 refine qU (v := .int k (k.wrap p)) hok ?_ (.val _)
 obtain ⟨⟨b, m⟩, hS⟩ := Option.isSome_iff_exists.1 hS
 obtain ⟨d, i, e1, e2, _, _⟩ := gw hS
 have e3 : P.underlying T = some (.int k) := by
  unfold knd at hT
  split at hT
  ·rename_i k' h; rw [h, qbw hT]
  ·cases hT
 unfold execOp
 simp only [ho, h1]
 exact k6 (by simp [convert, run_underlying e1, run_underlying e3, Conv.intToInt])
theorem gb {S T : TypeId} {x : Operand} {k k' : IntKind} {p : Int} (hS : (tyB P S).isSome = true) (hT : knd P T = some k) (ho : o.op = .convert S T x) (hx : Ev pc F x (.val (.int k' p))) (h : pc = true → k.wrap p = p) : DOp P pc o F M [] (.val (.int k p)) [] := fun hp => by
 have := Jw (P := P) (M := M) hS hT ho hx hp; rwa [h hp] at this
theorem wH {x y : Operand} {v u r : Value} (hx : Ev pc F x (.val v)) (hy : Ev pc F y (.val u)) (hm : x ∈ o.op.operands ∧ y ∈ o.op.operands) (h : pc = true → ∀ (a : Act) (w : World), a.eval x = v → a.eval y = u → (execOp a.eval o).run P w = .ok (.value r) w) : DOp P pc o F M [] (.val r) [] := by
 intro hp a s hok hops _
 have h1 := (qu hp hx hm.1 hops).val_eq
 have h2 := (qu hp hy hm.2 hops).val_eq
 exact qU (v := r) hok (h hp a s.w h1 h2) (.val _)
theorem AS {T T' : TypeId} {x y : Operand} {v u : Value} {b : Bool} (ho : o.op = .binOp .eql T x y T') (hx : Ev pc F x (.val v)) (hy : Ev pc F y (.val u)) (hg : ∀ w, (eqGuard .eql T x y v u).run P w = .ok () w) (h : ∀ w, (binOp .eql T v u).run P w = .ok (.bool b) w) : DOp P pc o F M [] (.val (.bool b)) [] :=
 wH hx hy (by simp [ho, Op.operands]) fun _ a w e1 e2 => by
  unfold execOp
  simp only [ho, e1, e2]
  exact k6 (by rw [Sem.run_bind, hg, Result.andThen_ok, h])
theorem WU {T T' : TypeId} {x y : Operand} {v u : Value} {b : Bool} (ho : o.op = .binOp .neq T x y T') (hx : Ev pc F x (.val v)) (hy : Ev pc F y (.val u)) (hg : ∀ w, (eqGuard .neq T x y v u).run P w = .ok () w) (h : ∀ w, (binOp .neq T v u).run P w = .ok (.bool b) w) : DOp P pc o F M [] (.val (.bool b)) [] :=
 wH hx hy (by simp [ho, Op.operands]) fun _ a w e1 e2 => by
  unfold execOp
  simp only [ho, e1, e2]
  exact k6 (by rw [Sem.run_bind, hg, Result.andThen_ok, h])
theorem jG {w : World} {b p : Nat} {L R : List Value} (h : kc w b p L) (o k : Nat) (hR : (L.drop o).take k = R) : w.rangeAt b (p + o) R := by
 subst hR
 intro j v hj
 exact qN h o k j v hj
theorem jW {T : TypeId} {x : Operand} {a : Act} {w : World} {b p k : Nat} {R : List Value} (ho : o.op = .load T x) (hT : tyB P T = some (true, k)) (hx : a.eval x = .pointer (some ⟨b, p, none⟩)) (hR : w.rangeAt b p R) (hl : R.length = k) :
  (execOp a.eval o).run P w = .ok (.value (.agg R.toArray)) w := by
 obtain ⟨d, i, e1, e2, e3, e4⟩ := gw hT
 unfold execOp
 simp only [ho, hx]
 exact k6 (run_loadAt_mid w b p T R d hR e1 e3 (by rw [e2]; simp [e4, hl]))
theorem gp {T : TypeId} {x : Operand} {a : Act} {w : World} {b p k : Nat} {v : Value} (ho : o.op = .load T x) (hT : tyB P T = some (false, k)) (hx : a.eval x = .pointer (some ⟨b, p, none⟩)) (hv : w.cell? ⟨b, p, none⟩ = some v) :
  (execOp a.eval o).run P w = .ok (.value v) w := by
 obtain ⟨d, i, e1, e2, e3, e4⟩ := gw hT
 unfold execOp
 simp only [ho, hx]
 have hagg : (isAgg T).run P w = .ok false w := by
  unfold isAgg
  rw [Sem.run_bind, run_underlying e1 w]
  cases d <;> simp_all
 exact k6 (by simp [Instr.loadAt, Instr.sureAddr, loadVar, Sem.run_bind, hagg, load, Sem.run, hv])
section
variable {T : TypeId} {x : Operand} {i p k : Nat} {L R : List Value} {v : Value}
theorem ub {s : St} (hok : Ok s) {T' : TypeId} {h : Value} {b : Nat} (h1 : s.M[i]? = some (.flat T' L)) (h2 : s.β[i]? = some h) (h3 : h = .pointer (some ⟨b, 0, none⟩)) : s.w.heap[b]? = some (.cells L.toArray T' (0, 0)) := by
 obtain ⟨b', e1, e2⟩ := hok.blk i _ h h1 h2
 rw [h3] at e1
 cases e1
 exact e2
theorem v8 {T' : TypeId} (ho : o.op = .load T x) (hT : tyB P T = some (true, k)) (hx : Ev pc F x (.loc i p)) (hM : M[i]? = some (.flat T' L)) (hR : (L.drop p).take k = R) (hl : R.length = k) : DOp P pc o F M [i] (.val (.agg R.toArray)) [] := by
 intro hp a s hok hops hfp
 have hr := qu hp hx (by simp [ho, Op.operands]) hops
 generalize hv : a.eval x = vx at hr
 cases hr with
 | @loc _ _ b h =>
  have hc := ub hok (by rw [hfp i (by simp)]; exact hM) h rfl
  have := jG (by simpa using qi hc 0) p k hR
  rw [qbs] at this
  exact qU hok (jW ho hT hv this hl) (.val _)
theorem kT {T' : TypeId} (ho : o.op = .load T x) (hT : tyB P T = some (true, k)) (hx : Ev pc F x (.loc i 0)) (hM : M[i]? = some (.flat T' L)) (hl : L.length = k) : DOp P pc o F M [i] (.val (.agg L.toArray)) [] :=
 v8 ho hT hx hM (by subst hl; simp) hl
theorem qB {T' : TypeId} (ho : o.op = .load T x) (hT : tyB P T = some (false, k)) (hx : Ev pc F x (.loc i p)) (hM : M[i]? = some (.flat T' L)) (hR : L[p]? = some v) : DOp P pc o F M [i] (.val v) [] := by
 intro hp a s hok hops hfp
 have hr := qu hp hx (by simp [ho, Op.operands]) hops
 generalize hv : a.eval x = vx at hr
 cases hr with
 | @loc _ _ b h =>
  have hc := ub hok (by rw [hfp i (by simp)]; exact hM) h rfl
  have h2 := qi hc 0 p v (by simpa using hR)
  exact qU hok (gp ho hT hv (by simpa using h2)) (.val _)
theorem zan {T' : TypeId} {l : List D} {d : D} (ho : o.op = .load T x) (hT : tyB P T = some (false, k)) (hx : Ev pc F x (.loc i p)) (hM : M[i]? = some (.mix T' l)) (hR : l[p]? = some d) : DOp P pc o F M [i] d [] := by
 intro hp a s hok hops hfp
 have hr := qu hp hx (by simp [ho, Op.operands]) hops
 generalize hv : a.eval x = vx at hr
 cases hr with
 | @loc _ _ b h =>
  obtain ⟨b', vs, e1, e2, e3, e4⟩ := hok.blk i _ _ (by rw [hfp i (by simp)]; exact hM) h
  cases e1
  have hp' : p < vs.length := by rw [e3]; exact (qbq.1 hR).1
  have h2 := qi e2 0 p vs[p] (by simp [hp'])
  exact qU hok (gp ho hT hv (by simpa using h2)) (e4 p d _ hR (qbr hp'))
theorem Zl (ho : o.op = .load T x) (hT : tyB P T = some (true, k)) (hx : Ev pc F x (.dpf L)) (hR : L.take k = R) (hl : R.length = k) : DOp P pc o F M [] (.val (.agg R.toArray)) [] := by
 intro hp a s hok hops hfp
 have hr := qu hp hx (by simp [ho, Op.operands]) hops
 generalize hv : a.eval x = vx at hr
 cases hr with
 | @dpf b q _ hI h =>
  have := jG h 0 k (by simpa using hR)
  exact qU hok (jW ho hT hv (by simpa using this) hl) (.val _)
theorem xT (ho : o.op = .load T x) (hT : tyB P T = some (true, k)) (hx : Ev pc F x (.dpf L)) (hl : L.length = k) : DOp P pc o F M [] (.val (.agg L.toArray)) [] := Zl ho hT hx (by subst hl; simp) hl
theorem ke (ho : o.op = .load T x) (hT : tyB P T = some (false, k)) (hx : Ev pc F x (.dpf L)) (hR : L[0]? = some v) : DOp P pc o F M [] (.val v) [] := by
 intro hp a s hok hops hfp
 have hr := qu hp hx (by simp [ho, Op.operands]) hops
 generalize hv : a.eval x = vx at hr
 cases hr with
 | @dpf b q _ hI h => exact qU hok (gp ho hT hv (by simpa using h 0 v hR)) (.val _)
theorem xd {s : St} (hok : Ok s) {T' : TypeId} {sz n n' c b : Nat} (h1 : s.M[i]? = some (.arr T' sz n L)) (h2 : s.β[i]? = some (.slice (some ⟨b, 0, none⟩) n' c)) : n' = n ∧ L.length = n * sz ∧ n ≤ c ∧ c ≤ maxLen ∧ kc s.w b 0 L ∧ ∃ cur, s.w.heap[b]? = some (.cells cur T' (0, 0)) ∧ L.length ≤ cur.size ∧ cur.toList.take L.length = L := by
 have hk : s.w.ownsRow 0 T' sz _ n L := hok.blk i _ _ h1 h2
 rcases hk.2 with ⟨e1, e2⟩ | ⟨g, cap, cur, e1, e2, e3, e4, e5, e6, e7⟩
 ·cases e1
 ·cases e1
  have hc0 := qN (qi e3 0) 0 (n * sz)
  have hle := qb6 sz e4
  exact ⟨rfl, hk.1, e4, e5, by simpa [e7] using hc0, cur, e3, by rw [hk.1, e6]; exact hle, by rw [hk.1]; exact e7⟩
theorem Zm {T' : TypeId} {sz n : Nat} (ho : o.op = .load T x) (hT : tyB P T = some (true, k)) (hx : Ev pc F x (.aloc i p)) (hM : M[i]? = some (.arr T' sz n L)) (hR : (L.drop p).take k = R) (hl : R.length = k) : DOp P pc o F M [i] (.val (.agg R.toArray)) [] := by
 intro hp a s hok hops hfp
 have hr := qu hp hx (by simp [ho, Op.operands]) hops
 generalize hv : a.eval x = vx at hr
 cases hr with
 | @aloc _ _ n' c b h =>
  obtain ⟨_, _, _, _, hc, _⟩ := xd hok (by rw [hfp i (by simp)]; exact hM) h
  have := jG hc p k hR
  rw [qbs] at this
  exact qU hok (jW ho hT hv this hl) (.val _)
theorem wV {T : TypeId} {f q : Nat} {a : Act} {w : World} {b p : Nat} (ho : o.op = .fieldAddr T x f) (hT : fdO P T f = some q) (hx : a.eval x = .pointer (some ⟨b, p, none⟩)) : (execOp a.eval o).run P w = .ok (.value (.pointer (some ⟨b, p + q, none⟩))) w := by
 unfold fdO at hT
 split at hT
 ·rename_i fs hu
  simp only [Option.bind_eq_some_iff] at hT
  obtain ⟨d, hd, i, hi, hq⟩ := hT
  by_cases hz : i.size = 0
  ·rw [if_pos hz] at hq; cases hq
  ·rw [if_neg hz] at hq
   obtain rfl := qbw hq
   unfold execOp
   simp only [ho, hx]
   refine k6 ?_
   unfold Instr.fieldAt
   simp [run_underlying hu, hd, Instr.sureAddr, fieldPlace, sizeOf, typeInfo, hi, hz, Addr.add_mid]
 ·cases hT
theorem zam {f q : Nat} (ho : o.op = .fieldAddr T x f) (hT : fdO P T f = some q) (hx : Ev pc F x (.loc i p)) : DOp P pc o F M [] (.loc i (p + q)) [] := by
 intro hp a s hok hops hfp
 have hr := qu hp hx (by simp [ho, Op.operands]) hops
 generalize hv : a.eval x = vx at hr
 cases hr with
 | @loc _ _ b h => exact qU hok (wV ho hT hv) (.loc h)
end
theorem Kj {T : TypeId} {x y : Operand} {a : Act} {w : World} {n sz b p : Nat} {k : IntKind} {z : Int} (ho : o.op = .indexAddr T x y) (hT : arE P T = some (n, sz)) (hx : a.eval x = .pointer (some ⟨b, p, none⟩)) (hy : a.eval y = .int k z) (h0 : 0 ≤ z) (h1 : z < n) :
  (execOp a.eval o).run P w = .ok (.value (.pointer (some ⟨b, p + z.toNat * sz, none⟩))) w := by
 obtain ⟨e, i, e1, e2, e3⟩ := uF hT
 unfold execOp
 simp only [ho, hx, hy]
 refine k6 ?_
 unfold Instr.indexAt
 simp [run_underlying e1, asIntOf, Instr.sureAddr, h0, h1, sizeOf, typeInfo, e2, e3, Addr.add_mid]
theorem gq {T e : TypeId} {x y : Operand} {a : Act} {w : World} {n c sz by' : Nat} {ad : Addr} {k : IntKind} {z : Int} (ho : o.op = .indexAddr T x y) (hT : slE P T = some (e, sz, by')) (hx : a.eval x = .slice (some ad) n c) (hy : a.eval y = .int k z) (h0 : 0 ≤ z) (h1 : z < n) :
  (execOp a.eval o).run P w = .ok (.value (.pointer (some (ad.add (z.toNat * sz))))) w := by
 obtain ⟨e1, i, e2, e3, _⟩ := kS hT
 unfold execOp
 simp only [ho, hx, hy]
 refine k6 ?_
 unfold Instr.indexAt
 simp [run_underlying e1, asIntOf, h0, h1, sizeOf, typeInfo, e2, e3]
section
variable {T : TypeId} {x y : Operand} {i p n sz : Nat} {k : IntKind} {z : Int} {L : List Value}
theorem YL (ho : o.op = .indexAddr T x y) (hT : arE P T = some (n, sz)) (hx : Ev pc F x (.loc i p)) (hy : Ev pc F y (.val (.int k z))) (h : pc = true → 0 ≤ z ∧ z < n) : DOp P pc o F M [] (.loc i (p + z.toNat * sz)) [] := by
 intro hp a s hok hops hfp
 have hr := qu hp hx (by simp [ho, Op.operands]) hops
 have h2 := (qu hp hy (by simp [ho, Op.operands]) hops).val_eq
 generalize hv : a.eval x = vx at hr
 cases hr with
 | @loc _ _ b hb => exact qU hok (Kj ho hT hv h2 (h hp).1 (h hp).2) (.loc hb)
variable {e : TypeId} {by' m : Nat}
theorem AT (ho : o.op = .indexAddr T x y) (hT : slE P T = some (e, sz, by')) (hx : Ev pc F x (.slf sz m L)) (hy : Ev pc F y (.val (.int k z))) (h : pc = true → 0 ≤ z ∧ z < m) (hsz : 0 < sz) : DOp P pc o F M [] (.dpf (L.drop (z.toNat * sz))) [] := by
 intro hp a s hok hops hfp
 have hr := qu hp hx (by simp [ho, Op.operands]) hops
 have h2 := (qu hp hy (by simp [ho, Op.operands]) hops).val_eq
 obtain ⟨h3, h4⟩ := h hp
 generalize hv : a.eval x = vx at hr
 cases hr with
 | @slf _ _ cap ad _ hl hn hc ha hL =>
  rcases hL with rfl | ⟨b, q, rfl, hI, hcl⟩
  ·exfalso
   have : m * sz = 0 := by simpa using hl.symm
   rcases Nat.mul_eq_zero.1 this with h | h <;> omega
  ·refine qU hok (gq ho hT hv h2 h3 h4) ?_
   rw [Addr.add_mid]
   refine .dpf hI fun j v hj => ?_
   rw [qcd] at hj
   rw [Nat.add_assoc]
   exact hcl _ v hj
theorem q0 {α : Type} {en : α → List Value} {l : List α} {j : Nat} (ho : o.op = .indexAddr T x y) (hT : slE P T = some (e, sz, by')) (hx : Ev pc F x (.slf sz l.length (l.flatMap en))) (hy : Ev pc F y (.val (.int k z))) (hen : ∀ a, (en a).length = sz) (hsz : 0 < sz) (hz : z = (j : Int)) (hj : j < l.length) : DOp P pc o F M [] (.dpf (en l[j])) [] := by
 intro hp a s hok hops hfp
 have h1 := AT (P := P) (M := M) ho hT hx hy (fun _ => by omega) hsz hp a s hok hops hfp
 revert h1
 generalize (execOp a.eval o).run P s.w = r
 have key : ∀ (s' : St) v, Rep s' (.dpf ((l.flatMap en).drop (z.toNat * sz))) v → Rep s' (.dpf (en l[j])) v := by
  intro s' v hr
  cases hr with
  | dpf hI hc =>
   refine .dpf hI fun i v hi => hc i v ?_
   rw [qcd, show z.toNat = j by omega]
   have : ∀ (l : List α) (j : Nat) (hj : j < l.length), (l.flatMap en)[j * sz + i]? = (en l[j])[i]? := by
    intro l
    induction l with
    | nil => intro j hj; simp at hj
    | cons b l ih =>
     intro j hj
     have hil : i < sz := by rw [← hen]; exact (qbq.1 hi).1
     cases j with
     | zero => rw [qbJ, Nat.zero_mul, qbs, qbI (by rw [hen]; exact hil)]; rfl
     | succ j =>
      rw [qbJ, qbO (by rw [hen, qcg]; omega), hen, show (j + 1) * sz + i - sz = j * sz + i by rw [qcg]; omega]
      exact ih j (by simpa using hj)
   rw [this l j hj]
   exact hi
 intro h1
 cases r with
 | halt x w' => exact h1
 | ok nx w' =>
  cases nx with
  | value v => obtain ⟨s', a1, a2, a3, a4⟩ := h1; exact ⟨s', a1, a2, a3, key s' v a4⟩
  | skip => obtain ⟨s', a1, a2, a3, a4⟩ := h1; exact ⟨s', a1, a2, a3, key s' _ a4⟩
  | enter f args => exact ⟨h1.1, h1.2.mono fun e w'' ⟨s', v, b1, b2, b3, b4, b5⟩ => ⟨s', v, b1, b2, b3, b4, key s' v b5⟩⟩
  | round l f tmps asg body => exact ⟨h1.1, h1.2.mono fun e w'' ⟨s', v, b1, b2, b3, b4, b5⟩ => ⟨s', v, b1, b2, b3, b4, key s' v b5⟩⟩
  | _ => exact h1
theorem AU {T' : TypeId} (ho : o.op = .indexAddr T x y) (hT : slE P T = some (e, sz, by')) (hx : Ev pc F x (.arr i)) (hy : Ev pc F y (.val (.int k z))) (hM : M[i]? = some (.arr T' sz m L)) (h : pc = true → 0 ≤ z ∧ z < m) : DOp P pc o F M [i] (.aloc i (z.toNat * sz)) [] := by
 intro hp a s hok hops hfp
 have hr := qu hp hx (by simp [ho, Op.operands]) hops
 have h2 := (qu hp hy (by simp [ho, Op.operands]) hops).val_eq
 obtain ⟨h3, h4⟩ := h hp
 generalize hv : a.eval x = vx at hr
 cases hr with
 | @arr _ ad n' c hb =>
  have hM' : s.M[i]? = some (.arr T' sz m L) := by rw [hfp i (by simp)]; exact hM
  have hk : s.w.ownsRow 0 T' sz _ m L := hok.blk i _ _ hM' hb
  rcases hk.2 with ⟨e1, e2⟩ | ⟨g, cap, cur, e1, e2, e3, e4, e5, e6, e7⟩
  ·exfalso; omega
  ·cases e1
   refine qU hok (gq ho hT hv h2 h3 h4) ?_
   rw [Addr.add_mid, qbs]
   exact .aloc hb
end
end
end Go.Proofs.YtofklkbfkoliiaaGreat
namespace Go.Proofs.YtofklkbfkoliiaaGreat
set_option linter.unusedVariables false
set_option linter.unusedSimpArgs false
open Go.RowKit
theorem g9 {s : St} (ho : Ok s) {j : Nat} (hj : s.M[j]? = some .hole) (h' : Value) (k' : Blk) (w' : World) (hn : h' ≠ .nilFunc) (hh : ∀ b, hb h' = some b → b = s.w.heap.size)
  (keep : ∀ b, b < s.w.heap.size → w'.heap[b]? = s.w.heap[b]?) (hlt : ∀ b, hb h' = some b → b < w'.heap.size) (hsz : s.w.heap.size ≤ w'.heap.size) (hos : w'.os = s.w.os) (htape : w'.tape = s.w.tape) (hout : w'.output = s.w.output)
  (hblk : BlkOk ⟨s.β.set j h', s.I, s.M.set j k', w'⟩ h' k') (hk : k'.nf = true := by rfl) : Tr s ⟨s.β.set j h', s.I, s.M.set j k', w'⟩ := by
 have hjl : j < s.M.length := (qbq.1 hj).1
 have hβ : s.β[j]? = some .nilFunc := by
  have hjb : j < s.β.length := by rw [ho.len]; exact hjl
  have e : s.β[j]? = some s.β[j] := qbr hjb
  have : s.β[j] = .nilFunc := ho.blk j .hole _ hj e
  rw [e, this]
 refine kV ho j s.M h' k' w' rfl (fun i k h => .inl h) hjl (.inl hβ) hn hblk (fun b hb i k h hne h1 h2 h3 h4 => ?_) (fun b hb => .inl (by rw [hh b ((ux hk).1 hb)]; exact qbM _)) (fun b hb => hlt b ((ux hk).1 hb)) (fun _ => False) (fun _ h => h.elim) (fun b hb _ _ => keep b hb) hos htape hout hsz
 have := (ho.lt b (qq h1 h2 h3 h4)).1
 rw [hh b ((ux hk).1 hb)] at this
 omega
def jX : List Value → Nat → List Value → List Value
 | L, _, [] => L
 | L, p, v :: r => jX (L.set p v) (p + 1) r
theorem gy : ∀ (C L : List Value) (p : Nat), (jX L p C).length = L.length
 | [], _, _ => rfl
 | v :: r, L, p => by rw [jX, gy r]; simp
theorem gr : ∀ (C L : List Value) (p : Nat), p + C.length ≤ L.length → jX L p C = L.take p ++ C ++ L.drop (p + C.length)
 | [], L, p, _ => by simp [jX]
 | v :: r, L, p, h => by
  simp only [qbW] at h
  rw [jX, gr r _ (p + 1) (by simp; omega)]
  have h1 : p < L.length := by omega
  rw [List.take_set, List.drop_set_of_lt (by omega), qbP h1, List.set_append_right _ _ (by simp; omega)]
  simp [show min p L.length = p by omega, show p + 1 + r.length = p + (r.length + 1) by omega]
theorem uG {C L : List Value} (h : C.length = L.length) : jX L 0 C = C := by
 rw [gr C L 0 (by omega)]; simp [h]
theorem j3 {α : Type} {en : α → List Value} {sz : Nat} (hen : ∀ a, (en a).length = sz) : ∀ l : List α, (l.flatMap en).length = l.length * sz
 | [] => by simp
 | a :: l => by rw [qbJ, qbz, hen, j3 hen l, qbW, qcg]; omega
theorem yH {α : Type} {en : α → List Value} {sz : Nat} (hen : ∀ a, (en a).length = sz) : ∀ (l : List α) (k : Nat), (l.flatMap en).drop (k * sz) = (l.drop k).flatMap en
 | l, 0 => by simp
 | [], k + 1 => by simp
 | a :: l, k + 1 => by
  rw [qbJ, List.drop_append, hen, qcg, List.drop_succ_cons, List.drop_eq_nil_of_le (by rw [hen]; omega), qbF, show k * sz + sz - sz = k * sz by omega, yH hen l k]
theorem yI {α : Type} {en : α → List Value} {sz : Nat} (hen : ∀ a, (en a).length = sz) : ∀ (l : List α) (k : Nat), (l.flatMap en).take (k * sz) = (l.take k).flatMap en
 | l, 0 => by simp
 | [], k + 1 => by simp
 | a :: l, k + 1 => by
  rw [qbJ, List.take_append, hen, qcg, List.take_succ_cons, qbJ, qbT (by rw [hen]; omega), show k * sz + sz - sz = k * sz by omega, yI hen l k]
theorem Kz {α : Type} {en : α → List Value} {sz : Nat} (hen : ∀ a, (en a).length = sz) {l : List α} {j c k : Nat} (hj : j < l.length) (hc : c + k ≤ sz) : ((l.flatMap en).drop (j * sz + c)).take k = ((en l[j]).drop c).take k := by
 rw [← List.drop_drop, yH hen, List.drop_eq_getElem_cons hj, qbJ, List.drop_append_of_le_length (by rw [hen]; omega), List.take_append_of_le_length (by rw [qbZ, hen]; omega)]
theorem Gu {α : Type} {en : α → List Value} {sz : Nat} (hen : ∀ a, (en a).length = sz) {l : List α} {j : Nat} (hj : j < l.length) : ((l.flatMap en).drop (j * sz)).take sz = en l[j] := by
 have := Kz hen (c := 0) (k := sz) hj (by omega)
 rw [Nat.add_zero] at this
 rw [this, List.drop_zero, qbT (by rw [hen]; exact qbM _)]
theorem KA {α : Type} {en : α → List Value} {sz : Nat} (hen : ∀ a, (en a).length = sz) {l : List α} {j c : Nat} (hj : j < l.length) (hc : c < sz) : (l.flatMap en)[j * sz + c]? = (en l[j])[c]? := by
 have := Kz hen (c := c) (k := 1) hj (by omega)
 have h := congrArg (fun x : List Value => x[0]?) this
 simpa [List.getElem?_take, qcd] using h
theorem Gv {α : Type} {en : α → List Value} {sz : Nat} (hen : ∀ a, (en a).length = sz) {l : List α} {j : Nat} (hj : j < l.length) (x : α) : jX (l.flatMap en) (j * sz) (en x) = (l.set j x).flatMap en := by
 have h1 : (j + 1) * sz ≤ l.length * sz := qb6 _ hj
 rw [qcg] at h1
 rw [gr _ _ _ (by rw [hen, j3 hen]; exact h1), hen, show j * sz + sz = (j + 1) * sz by rw [qcg], yI hen, yH hen]
 conv => rhs; rw [List.set_eq_take_append_cons_drop]
 rw [if_pos hj, List.flatMap_append, qbJ, qbY]
theorem kW (b : Nat) : ∀ (C : List Value) (p : Nat) (w : World) (L : List Value) (T : TypeId), w.heap[b]? = some (.cells L.toArray T (0, 0)) → (w.setCells b p C).heap[b]? = some (.cells (jX L p C).toArray T (0, 0))
 | [], _, _, _, _, h => h
 | v :: r, p, w, L, T, h => by
  rw [World.setCells, jX]
  refine kW b r (p + 1) _ _ T ?_
  simp only [World.setCell, Array.getElem?_modify]
  simp [h]
theorem kX (b : Nat) : ∀ (C : List Value) (p : Nat) (w : World) (k : Nat), k ≠ b → (w.setCells b p C).heap[k]? = w.heap[k]?
 | [], _, _, _, _ => rfl
 | v :: r, p, w, k, h => by
  rw [World.setCells, kX b r _ _ k h]
  exact Below.heap_setCell _ _ _ _ h
theorem y4 (b : Nat) : ∀ (C : List Value) (p : Nat) (w : World), (w.setCells b p C).heap.size = w.heap.size ∧ (w.setCells b p C).os = w.os ∧ (w.setCells b p C).tape = w.tape ∧ (w.setCells b p C).output = w.output
 | [], _, _ => ⟨rfl, rfl, rfl, rfl⟩
 | v :: r, p, w => by
  rw [World.setCells]
  obtain ⟨h1, h2, h3, h4⟩ := y4 b r (p + 1) (w.setCell ⟨b, p, none⟩ v)
  exact ⟨h1.trans (by simp [World.setCell]), h2, h3, h4⟩
theorem yP {s : St} (ho : Ok s) {i : Nat} {k k' : Blk} {h : Value} {b : Nat} (hi : s.M[i]? = some k) (hl : k.live = true) (hh : s.β[i]? = some h) (hbb : hb h = some b) (p : Nat) (C : List Value)
  (hblk : BlkOk ⟨s.β.set i h, s.I, s.M.set i k', s.w.setCells b p C⟩ h k') : Tr s ⟨s.β.set i h, s.I, s.M.set i k', s.w.setCells b p C⟩ := by
 have hil : i < s.M.length := (qbq.1 hi).1
 obtain ⟨r1, r2, r3, r4⟩ := y4 b C p s.w
 have hko := ho.blk i k h hi hh
 have tw : ∀ b', jo k' h b' → jo k h b' := fun b' q => (Gf hko hbb).2 (Qv hbb q)
 refine kV ho i s.M h k' _ rfl (fun i k h => .inl h) hil (.inr (.inl hh)) ((ho.blk i k h hi hh).live_ne hl) hblk (fun b' hb' j kj hj hne h1 h2 h3 h4 => ?_) (fun b' hb' => .inr (qq hi hl hh (tw b' hb'))) (fun b' hb' => ?_) (fun _ => False) (fun _ h => h.elim) (fun b' hlt hne _ => ?_) r2 r3 r4 (by rw [r1]; exact qbM _)
 ·exact hne (ho.inj j i kj k hj h b' h1 h2 h3 h4 hi hl hh (tw b' hb'))
 ·rw [r1]; exact (ho.lt b' (qq hi hl hh (tw b' hb'))).1
 ·refine kX b C p s.w b' fun e => hne ?_
  rw [e]; exact Qw hblk hbb
section
variable {P : Program} {pc : Bool} {o : Oper} {F : Fr} {M : List Blk}
theorem ja {a : Act} {s s' : St} {d : D} {v : Value} {wr : List (Nat × Blk)} (h : (execOp a.eval o).run P s.w = .ok (.value v) s'.w) (ht : Tr s s') (hM : s'.M = upd s.M wr) (hr : Rep s' d v) : DGives P s (fun s' v => s'.M = upd s.M wr ∧ Rep s' d v) ((execOp a.eval o).run P s.w) := by
 rw [h]; exact ⟨s', rfl, ht, hM, hr⟩
theorem vA {a : Act} {s s' : St} {wr : List (Nat × Blk)} (h : (execOp a.eval o).run P s.w = .ok .skip s'.w) (ht : Tr s s') (hM : s'.M = upd s.M wr) : DGives P s (fun s' v => s'.M = upd s.M wr ∧ Rep s' .junk v) ((execOp a.eval o).run P s.w) := by
 rw [h]; exact ⟨s', rfl, ht, hM, .junk _⟩
theorem ud (t : TypeId) (v : Value) (w : World) : (newVar t v).run P w = .ok ⟨w.heap.size, 0, none⟩ (w.alloc (.cells v.cells t)) := rfl
theorem jA {T : TypeId} {Z : List Value} (h : zrC P T = some Z) : ∃ i z, P.info? T = some i ∧ i.zero = some z ∧ z.cells.toList = Z := by
 simp only [zrC, Option.bind_eq_some_iff, qbL] at h
 obtain ⟨i, h1, z, h2, h3⟩ := h
 exact ⟨i, z, h1, h2, h3⟩
theorem Gw {s : St} (ho : Ok s) {j : Nat} (hj : s.M[j]? = some .hole) (T : TypeId) (cs : Array Value) (L : List Value) (hL : cs.toList = L) :
  Tr s ⟨s.β.set j (.pointer (some ⟨s.w.heap.size, 0, none⟩)), s.I, s.M.set j (.flat T L), s.w.alloc (.cells cs T)⟩ := by
 subst hL
 refine g9 ho hj _ _ _ (by simp) (fun b hb => by simpa [hb] using (qbw hb).symm) (fun b h => Below.heap_alloc _ _ _ h) (fun b hb => ?_) (by simp) rfl rfl rfl ⟨_, rfl, by simpa using heap_alloc_new s.w _⟩
 cases hb; simp
theorem xU {s : St} {j : Nat} {h : Value} {M' : List Blk} {w' : World} {b : Nat} (hj : j < s.β.length) (hh : h = .pointer (some ⟨b, 0, none⟩)) : Rep ⟨s.β.set j h, s.I, M', w'⟩ (.loc j 0) (.pointer (some ⟨b, 0, none⟩)) :=
 .loc (by simp [hj, hh])
theorem zaq {T : TypeId} {Z : List Value} (j : Nat) (ho : o.op = .alloc T) (hT : zrC P T = some Z) (hj : M[j]? = some .hole) : DOp P pc o F M [j] (.loc j 0) [(j, .flat T Z)] := by
 intro hp a s hok hops hfp
 obtain ⟨i, z, e1, e2, e3⟩ := jA hT
 have hj' : s.M[j]? = some .hole := by rw [hfp j (by simp)]; exact hj
 have hjl : j < s.β.length := by rw [hok.len]; exact (qbq.1 hj').1
 refine ja (v := .pointer (some ⟨s.w.heap.size, 0, none⟩)) ?_ (Gw hok hj' T z.cells Z e3) rfl (xU hjl rfl)
 unfold execOp
 simp only [ho]
 exact k6 (by simp [Instr.alloc, zeroValue, typeInfo, e1, e2, Sem.run_bind, ud])
theorem WV {T : TypeId} {x : Operand} {v : Value} {L : List Value} (j : Nat) (ho : o.op = .box T x) (hx : Ev pc F x (.val v)) (hL : v.cells.toList = L) (hj : M[j]? = some .hole) : DOp P pc o F M [j] (.loc j 0) [(j, .flat T L)] := by
 intro hp a s hok hops hfp
 have h1 := (qu hp hx (by simp [ho, Op.operands]) hops).val_eq
 have hj' : s.M[j]? = some .hole := by rw [hfp j (by simp)]; exact hj
 have hjl : j < s.β.length := by rw [hok.len]; exact (qbq.1 hj').1
 refine ja (v := .pointer (some ⟨s.w.heap.size, 0, none⟩)) ?_ (Gw hok hj' T v.cells L hL) rfl (xU hjl rfl)
 unfold execOp
 simp only [ho, h1]
 exact k6 (by simp only [Instr.box, Sem.run_bind, ud, Result.andThen_ok, Sem.run_pure])
theorem gK {T : TypeId} {x : Operand} {L : List Value} (j : Nat) (ho : o.op = .box T x) (hx : Ev pc F x (.val (.agg L.toArray))) (hj : M[j]? = some .hole) : DOp P pc o F M [j] (.loc j 0) [(j, .flat T L)] := WV j ho hx rfl hj
theorem uH {T : TypeId} {x : Operand} {k : IntKind} {z : Int} (j : Nat) (ho : o.op = .box T x) (hx : Ev pc F x (.val (.int k z))) (hj : M[j]? = some .hole) : DOp P pc o F M [j] (.loc j 0) [(j, .flat T [.int k z])] := WV j ho hx rfl hj
theorem gL {T : TypeId} {x : Operand} {d : D} (j : Nat) (ho : o.op = .box T x) (hx : Ev pc F x d) (h1 : ∀ (s : St) v, Rep s d v → v.cells = #[v]) (hj : M[j]? = some .hole) : DOp P pc o F M [j] (.loc j 0) [(j, .mix T [d])] := by
 intro hp a s hok hops hfp
 have hr := qu hp hx (by simp [ho, Op.operands]) hops
 have hc := h1 s _ hr
 have hj' : s.M[j]? = some .hole := by rw [hfp j (by simp)]; exact hj
 have hjl : j < s.β.length := by rw [hok.len]; exact (qbq.1 hj').1
 have hβ : s.β[j]? = some .nilFunc := by
  have e : s.β[j]? = some s.β[j] := qbr hjl
  have : s.β[j] = .nilFunc := hok.blk j .hole _ hj' e
  rw [e, this]
 have ht : Tr s ⟨s.β.set j (.pointer (some ⟨s.w.heap.size, 0, none⟩)), s.I, s.M.set j (.mix T [d]), s.w.alloc (.cells #[a.eval x] T)⟩ := by
  refine g9 hok hj' _ _ _ (by simp) (fun b hb => by simpa [hb] using (qbw hb).symm) (fun b h => Below.heap_alloc _ _ _ h) (fun b hb => ?_) (by simp) rfl rfl rfl ⟨_, [a.eval x], rfl, heap_alloc_new s.w _, rfl, fun k e v hk hv => ?_⟩
  ·cases hb; simp
  ·cases k with
   | zero =>
    simp at hk hv
    subst hk; subst hv
    refine Rep.mono' (s := s) (s' := ⟨s.β.set j (.pointer (some ⟨s.w.heap.size, 0, none⟩)), s.I, s.M.set j (.mix T [d]), s.w.alloc (.cells #[a.eval x] T)⟩) (fun i h hi hne => ?_) (fun _ h => h) (fun b hI => Below.heap_alloc _ _ _ (hok.il b hI)) hr
    show (s.β.set j _)[i]? = some h
    by_cases e : j = i
    ·subst e; rw [hi] at hβ; exact absurd (qbw hβ) hne
    ·rw [qbC e]; exact hi
   | succ k => simp at hk
 refine ja (v := .pointer (some ⟨s.w.heap.size, 0, none⟩)) ?_ ht rfl (xU hjl rfl)
 unfold execOp
 simp only [ho]
 exact k6 (by simp only [Instr.box, Sem.run_bind, ud, Result.andThen_ok, Sem.run_pure, hc])
theorem ya {T : TypeId} {x y : Operand} {a : Act} {w : World} {b p k : Nat} {rw' : Bool} {v : Value} {C : List Value} (ho : o.op = .store T x y) (hT : tyB P T = some (rw', k)) (hx : a.eval x = .pointer (some ⟨b, p, none⟩)) (hy : a.eval y = v) (hC : v.cells.toList = C) (hk : C.length = k)
  (hc : ∀ j, j < C.length → (w.cell? ⟨b, p + j, none⟩).isSome = true) (hf : ∀ j, j < C.length → w.frozen? ⟨b, p + j, none⟩ = false) (h1 : ∀ u ∈ C, u.oneCell' = true) : (execOp a.eval o).run P w = .ok .skip (w.setCells b p C) := by
 obtain ⟨d, i, e1, e2, e3, e4⟩ := gw hT
 subst hC
 have := run_storeCells_cells (P := P) b p v.cells.toList 0 w (by simpa using hc) (by simpa using hf) h1
 simp only [Nat.add_zero] at this
 unfold execOp
 simp only [ho, hx, hy]
 refine run_u ?_
 have hs : v.cells.size = i.size := by rw [e4, ← hk]; simp
 simp [Instr.storeAt, Instr.sureAddr, storeVar, sizeOf, typeInfo, e2, hs, this]
theorem WW {T T' : TypeId} {x y : Operand} {i p k : Nat} {rw' : Bool} {v : Value} {L C L' : List Value} (ho : o.op = .store T x y) (hT : tyB P T = some (rw', k)) (hx : Ev pc F x (.loc i p)) (hy : Ev pc F y (.val v)) (hM : M[i]? = some (.flat T' L)) (hC : v.cells.toList = C) (hk : C.length = k) (h1 : C.all (·.oneCell') = true)
  (hfit : p + C.length ≤ L.length) (hL : jX L p C = L') : DOp P pc o F M [i] .junk [(i, .flat T' L')] := by
 intro hp a s hok hops hfp
 have hr := qu hp hx (by simp [ho, Op.operands]) hops
 have h2 := (qu hp hy (by simp [ho, Op.operands]) hops).val_eq
 have hM' : s.M[i]? = some (.flat T' L) := by rw [hfp i (by simp)]; exact hM
 subst hL
 generalize hv : a.eval x = vx at hr
 cases hr with
 | @loc _ _ b h =>
  have hc := ub hok hM' h rfl
  have hcell := qi hc 0
  have hrun := ya (P := P) (w := s.w) ho hT hv h2 hC hk (fun j hj => by
    have := hcell (p + j) _ (by simpa using qbr (by omega : p + j < L.length))
    rw [qbs] at this
    rw [this]; rfl) (fun j hj => by simp [World.frozen?, hc]) (fun u hu => qbX.1 h1 u hu)
  exact vA (s' := ⟨s.β.set i (.pointer (some ⟨b, 0, none⟩)), s.I, s.M.set i (.flat T' (jX L p C)), s.w.setCells b p C⟩) hrun (yP hok hM' rfl h rfl p C ⟨b, rfl, kW b C p s.w L T' hc⟩) rfl
theorem WX {T T' : TypeId} {x y : Operand} {i k : Nat} {rw' : Bool} {v : Value} {L C : List Value} (ho : o.op = .store T x y) (hT : tyB P T = some (rw', k)) (hx : Ev pc F x (.loc i 0)) (hy : Ev pc F y (.val v)) (hM : M[i]? = some (.flat T' L)) (hC : v.cells.toList = C) (hk : C.length = k) (h1 : C.all (·.oneCell') = true)
  (hfit : C.length = L.length) : DOp P pc o F M [i] .junk [(i, .flat T' C)] := WW ho hT hx hy hM hC hk h1 (by omega) (uG hfit)
theorem qY {T T' : TypeId} {x y : Operand} {i k : Nat} {rw' : Bool} {L C : List Value} (ho : o.op = .store T x y) (hT : tyB P T = some (rw', k)) (hx : Ev pc F x (.loc i 0)) (hy : Ev pc F y (.val (.agg C.toArray))) (hM : M[i]? = some (.flat T' L)) (hk : C.length = k) (h1 : C.all (·.oneCell') = true)
  (hfit : C.length = L.length) : DOp P pc o F M [i] .junk [(i, .flat T' C)] := WX ho hT hx hy hM rfl hk h1 hfit
theorem qK {T T' : TypeId} {x y : Operand} {i : Nat} {rw' : Bool} {kd : IntKind} {z : Int} {v : Value} (ho : o.op = .store T x y) (hT : tyB P T = some (rw', 1)) (hx : Ev pc F x (.loc i 0)) (hy : Ev pc F y (.val (.int kd z))) (hM : M[i]? = some (.flat T' [v])) : DOp P pc o F M [i] .junk [(i, .flat T' [.int kd z])] :=
 WX ho hT hx hy hM rfl rfl rfl rfl
theorem YM {T T' : TypeId} {x y : Operand} {i p : Nat} {rw' : Bool} {kd : IntKind} {z : Int} {L L' : List Value} (ho : o.op = .store T x y) (hT : tyB P T = some (rw', 1)) (hx : Ev pc F x (.loc i p)) (hy : Ev pc F y (.val (.int kd z))) (hM : M[i]? = some (.flat T' L)) (hfit : p < L.length) (hL : L.set p (.int kd z) = L') : DOp P pc o F M [i] .junk [(i, .flat T' L')] :=
 WW ho hT hx hy hM rfl rfl rfl hfit hL
theorem kJ {T T' : TypeId} {x y : Operand} {i p : Nat} {rw' : Bool} {d : D} {l : List D} (ho : o.op = .store T x y) (hT : tyB P T = some (rw', 1)) (hx : Ev pc F x (.loc i p)) (hy : Ev pc F y d) (h1 : ∀ (s : St) v, Rep s d v → v.cells = #[v] ∧ v.oneCell' = true) (hM : M[i]? = some (.mix T' l)) (hfit : p < l.length) : DOp P pc o F M [i] .junk [(i, .mix T' (l.set p d))] := by
 intro hp a s hok hops hfp
 have hr := qu hp hx (by simp [ho, Op.operands]) hops
 have hry := qu hp hy (by simp [ho, Op.operands]) hops
 obtain ⟨hc1, hc2⟩ := h1 s _ hry
 have hM' : s.M[i]? = some (.mix T' l) := by rw [hfp i (by simp)]; exact hM
 generalize hv : a.eval x = vx at hr
 cases hr with
 | @loc _ _ b h =>
  obtain ⟨b', vs, e1, e2, e3, e4⟩ := hok.blk i _ _ hM' h
  cases e1
  have hcell := qi e2 0
  have hrun := ya (P := P) (w := s.w) (C := [a.eval y]) ho hT hv rfl (by rw [hc1]) rfl (fun j hj => by
    have hj0 : j = 0 := by simp at hj; exact hj
    subst hj0
    have hp' : p < vs.length := by omega
    have := hcell p vs[p] (by simp [hp'])
    rw [qbs] at this
    rw [Nat.add_zero, this]; rfl) (fun j hj => by simp [World.frozen?, e2]) (fun u hu => by rw [List.mem_singleton.1 hu]; exact hc2)
  refine vA (s' := ⟨s.β.set i (.pointer (some ⟨b, 0, none⟩)), s.I, s.M.set i (.mix T' (l.set p d)), s.w.setCells b p [a.eval y]⟩) hrun (yP hok hM' rfl h rfl p _ ?_) rfl
  refine ⟨b, vs.set p (a.eval y), rfl, kW b _ p s.w vs T' e2, by simp [e3], fun j e v hj hv' => ?_⟩
  have hβ : s.β.set i (.pointer (some ⟨b, 0, none⟩)) = s.β := by
   apply List.ext_getElem?
   intro k
   by_cases e : i = k
   ·subst e; rw [qbG (qbq.1 h).1, h]
   ·rw [qbC e]
  have lift : ∀ {e : D} {v : Value}, Rep s e v → Rep ⟨s.β.set i (.pointer (some ⟨b, 0, none⟩)), s.I, s.M.set i (.mix T' (l.set p d)), s.w.setCells b p [a.eval y]⟩ e v := by
   intro e v hr
   refine Rep.mono' (s := s) (s' := ⟨s.β.set i (.pointer (some ⟨b, 0, none⟩)), s.I, s.M.set i (.mix T' (l.set p d)), s.w.setCells b p [a.eval y]⟩) (fun k x hk _ => by show (s.β.set i _)[k]? = _; rw [hβ]; exact hk) (fun _ h => h) (fun b' hI => kX b _ p s.w b' fun e => ?_) hr
   subst e
   exact (hok.lt b' (qq hM' rfl h rfl)).2 hI
  by_cases e' : p = j
  ·subst e'
   rw [qbG hfit] at hj
   rw [qbG (by omega)] at hv'
   cases hj; cases hv'
   exact lift hry
  ·rw [qbC e'] at hj hv'
   exact lift (e4 j e v hj hv')
end
end Go.Proofs.YtofklkbfkoliiaaGreat
namespace Go.Proofs.YtofklkbfkoliiaaGreat
set_option linter.unusedVariables false
set_option linter.unusedSimpArgs false
open Go.RowKit
section
variable {P : Program} {pc : Bool} {o : Oper} {F : Fr} {M : List Blk}
def EvV (pc : Bool) (F : Fr) : List Operand → List Value → Prop
 | [], [] => True
 | x :: xs, v :: vs => Ev pc F x (.val v) ∧ EvV pc F xs vs
 | _, _ => False
theorem vn : EvV pc F [] [] := trivial
theorem vc {x : Operand} {xs : List Operand} {v : Value} {vs : List Value} (h : Ev pc F x (.val v)) (h' : EvV pc F xs vs) : EvV pc F (x :: xs) (v :: vs) := ⟨h, h'⟩
theorem YN {a : Act} {s : St} (hp : pc = true) : ∀ (xs : List Operand) (vs : List Value), EvV pc F xs vs → (∀ x ∈ xs, ∀ d, ev F x = some d → Rep s d (a.eval x)) → xs.map a.eval = vs
 | [], [], _, _ => rfl
 | x :: xs, v :: vs, ⟨⟨d', e1, e2⟩, h⟩, hr => by
  rw [List.map_cons, YN hp xs vs h (fun y hy => hr y (qb4 _ hy)), (e2 s _ hp (hr x (qb1 ..) d' e1)).val_eq]
 | [], _ :: _, h, _ => by cases h
 | _ :: _, [], h, _ => by cases h
theorem kR {b : Builtin} {xs : Array Operand} {ts : Array TypeId} {a : Act} {w w' : World} {s : Sem Value} {v : Value} (ho : o.op = .call { callee := .builtin b, args := xs, argTypes := ts })
  (hb : ∀ cs, builtin b ts o.type cs (xs.map a.eval) = (do pure (Next.value (← s)))) (h : s.run P w = .ok v w') : (execOp a.eval o).run P w = .ok (.value v) w' := by
 unfold execOp
 simp only [ho, resolve, Sem.run_bind, Sem.run_pure, Result.andThen_ok, invoke]
 rw [hb]
 exact k6 h
theorem jN {x : Operand} {i : Nat} {l : List D} {d : D} (ho : o.op = .extract x i) (hx : Ev pc F x (.tup l)) (hl : l[i]? = some d) : DOp P pc o F M [] d [] := by
 intro hp a s hok hops _
 have hr := qu hp hx (by simp [ho, Op.operands]) hops
 generalize hv : a.eval x = vx at hr
 cases hr with
 | @tup _ vs h1 h2 =>
  have hi : i < vs.length := by rw [h1]; exact (qbq.1 hl).1
  refine qU (v := vs[i]) hok ?_ (h2 i d _ hl (qbr hi))
  unfold execOp
  simp only [ho, hv]
  exact k6 (by simp [Instr.extract, hi])
theorem qV {fn : Fn} {fs cs : List Operand} {ds es : List D} (ho : o.op = .makeFunc fn fs.toArray cs.toArray) (h1 : EvL pc F fs ds) (h2 : EvL pc F cs es) : DOp P pc o F M [] (.fn fn ds es) [] := by
 intro hp a s hok hops _
 have r1 := gv (a := a) (s := s) hp fs ds h1 (fun y hy => hops y (by rw [ho]; simp [Op.operands, hy]))
 have r2 := gv (a := a) (s := s) hp cs es h2 (fun y hy => hops y (by rw [ho]; simp [Op.operands, hy]))
 refine qU (v := .func fn (fs.map a.eval).toArray (cs.map a.eval).toArray) hok ?_ (.fn r1.1 r2.1 r1.2 r2.2)
 unfold execOp
 simp only [ho]
 exact k6 (by simp [Instr.makeFunc])
theorem qE {T : TypeId} {x : Operand} {q : TypeId × Nat × Nat} {sz n : Nat} {L : List Value} (ho : o.op = .call { callee := .builtin .len, args := #[x], argTypes := #[T] }) (hT : slE P T = some q) (hx : Ev pc F x (.slf sz n L)) : DOp P pc o F M [] (.val (.int .i64 n)) [] := by
 intro hp a s hok hops _
 obtain ⟨e1, _⟩ := kS hT
 have hr := qu hp hx (by simp [ho, Op.operands, Call.operands]) hops
 generalize hv : a.eval x = vx at hr
 cases hr with
 | slf h1 h2 h3 h4 h5 =>
  refine qU hok (kR ho (fun cs => rfl) ?_) (.val (.int .i64 n))
  simp [Builtin.len_, hv, run_underlying e1, goInt]
theorem kE {T : TypeId} {x : Operand} {q : TypeId × Nat × Nat} {sz n : Nat} {l : List D} (ho : o.op = .call { callee := .builtin .len, args := #[x], argTypes := #[T] }) (hT : slE P T = some q) (hx : Ev pc F x (.slm sz n l)) : DOp P pc o F M [] (.val (.int .i64 n)) [] := by
 intro hp a s hok hops _
 obtain ⟨e1, _⟩ := kS hT
 have hr := qu hp hx (by simp [ho, Op.operands, Call.operands]) hops
 generalize hv : a.eval x = vx at hr
 cases hr with
 | slm h0 h1 h2 h3 h4 h5 =>
  refine qU hok (kR ho (fun cs => rfl) ?_) (.val (.int .i64 n))
  simp [Builtin.len_, hv, run_underlying e1, goInt]
def Bd (pc : Bool) (F : Fr) (y : Option Operand) (dflt z : Int) : Prop := match y with
 | none => z = dflt
 | some y => ∃ k, Ev pc F y (.val (.int k z))
theorem wI {z : Int} : Bd pc F none z z := rfl
theorem jf {y : Operand} {k : IntKind} {z q : Int} (h : Ev pc F y (.val (.int k z))) : Bd pc F (some y) q z := ⟨k, h⟩
theorem yb {T e : TypeId} {sz by' : Nat} {x : Operand} {lo hi : Option Operand} {a : Act} {w : World} {ad : Option Addr} {n c : Nat} {l h : Int} (ho : o.op = .slice T x lo hi none) (hT : slE P T = some (e, sz, by')) (hx : a.eval x = .slice ad n c)
  (hlo : lo.map a.eval = none ∧ l = 0 ∨ ∃ k, lo.map a.eval = some (.int k l)) (hhi : hi.map a.eval = none ∧ h = n ∨ ∃ k, hi.map a.eval = some (.int k h)) (h0 : 0 ≤ l) (h1 : l ≤ h) (h2 : h ≤ n) (h3 : n ≤ c) :
  (execOp a.eval o).run P w = .ok (.value (.slice (if c = l.toNat then ad else ad.map (·.add (l.toNat * sz))) (h.toNat - l.toNat) (c - l.toNat))) w := by
 obtain ⟨e1, i, e2, e3, _⟩ := kS hT
 have eh : (h.toNat : Int) = h := Int.toNat_of_nonneg (by omega)
 unfold execOp
 simp only [ho, hx]
 refine k6 ?_
 have hb : (Instr.sliceBounds true n c (lo.map a.eval) (hi.map a.eval) none).run P w = .ok (l.toNat, h.toNat, c) w := by
  have sb : ∀ (k : IntKind) (z : Int) (m : Nat) (cd : BoundsCode), 0 ≤ z → z ≤ m → (Instr.sliceBound (.int k z) m cd).run P w = .ok z.toNat w := fun k z m cd a b => by
   simp [Instr.sliceBound, asIntOf, a, b]
  have el : l.toNat ≤ h.toNat := by omega
  rcases hlo with ⟨q1, q3⟩ | ⟨kl, q1⟩ <;> rcases hhi with ⟨q2, q4⟩ | ⟨kh, q2⟩ <;> rw [q1, q2]
  ·have g1 : l.toNat = 0 := by omega
   have g2 : h.toNat = n := by omega
   simp [Instr.sliceBounds, g1, g2]
  ·have g1 : l.toNat = 0 := by omega
   simp [Instr.sliceBounds, g1, sb kh h c _ (by omega) (by omega)]
  ·have g2 : h.toNat = n := by omega
   simp [Instr.sliceBounds, g2, sb kl l n _ (by omega) (by omega)]
  ·simp [Instr.sliceBounds, sb kh h c _ (by omega) (by omega), sb kl l h.toNat _ (by omega) (by omega)]
 simp [Instr.sliceAt, Instr.slice, run_underlying e1, Sem.run_bind, hb, sizeOf, typeInfo, e2, e3]
theorem wW {y : Option Operand} {dflt z : Int} {a : Act} {s : St} (hp : pc = true) (h : Bd pc F y dflt z) (hm : ∀ u, y = some u → u ∈ o.op.operands) (hops : ∀ x ∈ o.op.operands, ∀ d, ev F x = some d → Rep s d (a.eval x)) :
  y.map a.eval = none ∧ z = dflt ∨ ∃ k, y.map a.eval = some (.int k z) := by
 cases y with
 | none => exact .inl ⟨rfl, h⟩
 | some u =>
  obtain ⟨k, h⟩ := h
  exact .inr ⟨k, by rw [Option.map_some, (qu hp h (hm u rfl) hops).val_eq]⟩
theorem AV {T e : TypeId} {sz by' n : Nat} {x : Operand} {lo hi : Option Operand} {L : List Value} {l h : Int} (ho : o.op = .slice T x lo hi none) (hT : slE P T = some (e, sz, by')) (hx : Ev pc F x (.slf sz n L)) (hlo : Bd pc F lo 0 l) (hhi : Bd pc F hi n h)
  (hb : pc = true → 0 ≤ l ∧ l ≤ h ∧ h ≤ n) : DOp P pc o F M [] (.slf sz (h.toNat - l.toNat) ((L.drop (l.toNat * sz)).take ((h.toNat - l.toNat) * sz))) [] := by
 intro hp a s hok hops _
 obtain ⟨b1, b2, b3⟩ := hb hp
 have hr := qu hp hx (by simp [ho, Op.operands]) hops
 generalize hv : a.eval x = vx at hr
 cases hr with
 | @slf _ _ cap ad _ hl hn hc ha hL =>
  refine qU hok (yb ho hT hv (wW hp hlo (fun u e => by subst e; simp [ho, Op.operands]) hops) (wW hp hhi (fun u e => by subst e; simp [ho, Op.operands]) hops) b1 b2 b3 hn) ?_
  have hlen : ((L.drop (l.toNat * sz)).take ((h.toNat - l.toNat) * sz)).length = (h.toNat - l.toNat) * sz := by
   rw [qbS, qbZ, hl, ← Nat.mul_sub_right_distrib]
   exact Nat.min_eq_left (qb6 _ (by omega))
  refine .slf hlen (by omega) (by omega) (fun e => ?_) ?_
  ·split at e
   ·omega
   ·cases ad with
    | none => have := ha rfl; omega
    | some ad => cases e
  ·rcases hL with rfl | ⟨b, q, rfl, hI, hcl⟩
   ·left; simp
   ·by_cases hz : cap = l.toNat
    ·left
     have : h.toNat - l.toNat = 0 := by omega
     rw [this]; simp
    ·right
     rw [if_neg hz]
     exact ⟨b, q + l.toNat * sz, by rw [Option.map_some, Addr.add_mid], hI, qN hcl _ _⟩
theorem Zn {α : Type} {en : α → List Value} {r : List α} {T e : TypeId} {sz by' : Nat} {x : Operand} {lo hi : Option Operand} {l h : Int} {i j : Nat} (hen : ∀ a, (en a).length = sz) (ho : o.op = .slice T x lo hi none) (hT : slE P T = some (e, sz, by')) (hx : Ev pc F x (.slf sz r.length (r.flatMap en))) (hlo : Bd pc F lo 0 l) (hhi : Bd pc F hi r.length h)
  (hl : l = (i : Int)) (hh : h = (j : Int)) (hij : pc = true → i ≤ j ∧ j ≤ r.length) : DOp P pc o F M [] (.slf sz (j - i) (((r.drop i).take (j - i)).flatMap en)) [] := by
 subst hl hh
 have := AV (P := P) (M := M) ho hT hx hlo hhi (fun hp => by have := hij hp; omega)
 rw [qcb, qcb, yH hen, yI hen] at this
 exact this
theorem WY {T e T' : TypeId} {sz by' n k : Nat} {x : Operand} {lo hi : Option Operand} {L : List Value} {l h : Int} (ho : o.op = .slice T x lo hi none) (hT : slE P T = some (e, sz, by')) (hx : Ev pc F x (.arr k)) (hM : M[k]? = some (.arr T' sz n L)) (hlo : Bd pc F lo 0 l) (hhi : Bd pc F hi n h)
  (hb : pc = true → 0 ≤ l ∧ l ≤ h ∧ h ≤ n) : DOp P pc o F M [k] (.own k sz l.toNat (h.toNat - l.toNat)) [] := by
 intro hp a s hok hops hfp
 obtain ⟨b1, b2, b3⟩ := hb hp
 have hr := qu hp hx (by simp [ho, Op.operands]) hops
 generalize hv : a.eval x = vx at hr
 cases hr with
 | @arr _ ad n' c hβ =>
  have hM' : s.M[k]? = some (.arr T' sz n L) := by rw [hfp k (by simp)]; exact hM
  have hk : s.w.ownsRow 0 T' sz _ n L := hok.blk k _ _ hM' hβ
  have q1 := wW hp hlo (fun u e => by subst e; simp [ho, Op.operands]) hops
  have q2 := wW hp hhi (fun u e => by subst e; simp [ho, Op.operands]) hops
  rcases hk.2 with ⟨e1, e2⟩ | ⟨g, cap, cur, e1, e2, e3, e4, e5, e6, e7⟩
  ·cases e1
   subst e2
   have hl0 : l = 0 := by omega
   have hh0 : h = 0 := by omega
   subst hl0 hh0
   refine qU hok (yb ho hT hv q1 q2 (by omega) (by omega) (by omega) (qbM _)) ?_
   exact .ownnil hβ
  ·cases e1
   refine qU hok (yb ho hT hv q1 q2 b1 b2 b3 e4) ?_
   refine .own hβ ?_ (by omega) (fun e => ?_) (by omega) (by omega)
   ·by_cases hz : c = l.toNat
    ·left; omega
    ·right; rw [if_neg hz, Option.map_some, Addr.add_mid, qbs]
   ·split at e
    ·cases e
    ·cases e
theorem KB {sz : Nat} : ∀ (vs : List Value) (k : Nat) (cs : Array Value) (pre : List Value), (∀ v ∈ vs, v.cells.size = sz) → pre.length = k * sz → cs.toList.take (k * sz) = pre → cs.size = (k + vs.length) * sz →
  Instr.fill (fun i => some (i * sz, sz)) cs ((List.range' k vs.length).zip vs) = some (pre ++ vs.flatMap fun v => v.cells.toList).toArray
 | [], k, cs, pre, _, hpl, hp, hs => by
  simp only [qce, List.range'_zero, List.zip_nil_left, Instr.fill, List.flatMap_nil, qci, Option.some.injEq]
  have : cs.toList = pre := by
   rw [← hp]
   exact (qbT (by simp [hs])).symm
  rw [← this]
 | v :: vs, k, cs, pre, hv, hpl, hp, hs => by
  have hv0 := hv v (qb1 ..)
  simp only [qbW] at hs
  rw [qbW, List.range'_succ, List.zip_cons_cons, Instr.fill]
  have hfit : ¬ (k * sz + v.cells.size > cs.size) := by
   rw [hv0, hs, ← qcg]
   exact Nat.not_lt.2 (qb6 _ (by omega))
  simp only [hv0, bne_self_eq_false, Bool.false_or, ne_eq, not_true_eq_false, decide_false, decide_eq_true_eq]
  rw [if_neg (by simp; rw [hs, ← qcg]; exact qb6 _ (by omega))]
  have fold : ∀ (C : List Value) (j : Nat) (cs : Array Value), (List.foldl (fun (acc : Array Value) (p : Value × Nat) => acc.setIfInBounds (k * sz + p.2) p.1) cs (C.zipIdx j)).toList = jX cs.toList (k * sz + j) C := by
   intro C
   induction C with
   | nil => intro j cs; rfl
   | cons c C ih => intro j cs; rw [List.zipIdx_cons, List.foldl_cons, ih, jX, Array.toList_setIfInBounds, Nat.add_assoc]
  have hfold := fold v.cells.toList 0 cs
  rw [Nat.add_zero] at hfold
  have hcl : v.cells.toList.length = sz := by simpa using hv0
  have hle : k * sz + v.cells.toList.length ≤ cs.toList.length := by
   simp only [hcl, Array.length_toList]; rw [hs, ← qcg]; exact qb6 _ (by omega)
  rw [gr _ _ _ hle] at hfold
  have hz : (v.cells.zipIdx.foldl (fun (acc : Array Value) (p : Value × Nat) => acc.setIfInBounds (k * sz + p.2) p.1) cs).toList = (pre ++ v.cells.toList) ++ cs.toList.drop (k * sz + v.cells.toList.length) := by
   rw [← hp, ← hfold, ← Array.foldl_toList]
   congr 1
   simp [Array.toList_zipIdx]
  have ih := KB vs (k + 1) (v.cells.zipIdx.foldl (fun (acc : Array Value) (p : Value × Nat) => acc.setIfInBounds (k * sz + p.2) p.1) cs) (pre ++ v.cells.toList) (fun u hu => hv u (qb4 _ hu)) (by rw [qbz, hpl, hcl, qcg])
   (by rw [hz]; exact List.take_left' (by rw [qbz, hpl, hcl, qcg])) (by
    rw [← Array.length_toList, hz, qbz, qbz, qbZ, hpl, hcl, Array.length_toList, hs]
    have : (k + 1) * sz ≤ (k + (vs.length + 1)) * sz := qb6 _ (by omega)
    rw [qcg] at this
    rw [show k + 1 + vs.length = k + (vs.length + 1) by omega]
    omega)
  rw [qbJ, ← qbY]
  exact ih
theorem gc {T e : TypeId} {sz by' n : Nat} {ps : List (Nat × Operand)} {vs : List Value} {a : Act} {w : World} {Z : List Value} (ho : o.op = .buildSlice T n ps.toArray) (hT : slE P T = some (e, sz, by')) (hZ : zrC P e = some Z) (hi : ps.map (·.1) = List.range' 0 n) (hv : (ps.map (·.2)).map a.eval = vs)
  (hs : ∀ v ∈ vs, v.cells.size = sz) (hbig : n * sz ≤ 16777216) : (execOp a.eval o).run P w = .ok (.value (.slice (some ⟨w.heap.size, 0, none⟩) n n)) (w.alloc (.cells (vs.flatMap fun v => v.cells.toList).toArray e)) := by
 obtain ⟨e1, i, e2, e3, _⟩ := kS hT
 obtain ⟨i', z, q1, q2, q3⟩ := jA hZ
 rw [e2] at q1
 obtain rfl := qbw q1
 have hlen : vs.length = n := by
  rw [← hv, qcf, qcf]
  have := congrArg List.length hi
  simpa using this
 have hparts : (ps.toArray.map fun (i, x) => (i, a.eval x)).toList = (List.range' 0 n).zip vs := by
  simp only [List.map_toArray]
  rw [← hi, ← hv]
  clear hi hv ho
  induction ps with
  | nil => rfl
  | cons p ps ih => simp only [List.map_cons, List.zip_cons_cons]; rw [← ih]
 unfold execOp
 simp only [ho]
 refine k6 ?_
 have hfill : ∀ zs : Array Value, Instr.fill (fun i => some (i * sz, sz)) ((Array.range (n * sz)).map (zs[· % zs.size]!)) ((List.range' 0 n).zip vs) = some (vs.flatMap fun v => v.cells.toList).toArray := by
  intro zs
  have := KB (sz := sz) vs 0 ((Array.range (n * sz)).map (zs[· % zs.size]!)) [] hs (by simp) (by simp) (by simp [hlen])
  rw [hlen] at this
  simpa using this
 have hb : ¬ (2 ^ 24 < n * sz) := by omega
 have hsz : (sizeOf e).run P w = .ok sz w := by simp [sizeOf, typeInfo, e2, e3]
 have hz0 : (zeroValue e).run P w = .ok z w := by simp [zeroValue, typeInfo, e2, q2]
 have hnr : ∀ (cs : Array Value), (newRow e cs).run P w = .ok ⟨w.heap.size, 0, none⟩ (w.alloc (.cells cs e)) := fun _ => rfl
 simp only [Instr.buildSlice, Sem.run_bind, run_underlying e1, Result.andThen_ok, hsz, gt_iff_lt, hb, if_false, hparts]
 by_cases hz : n * sz = 0
 ·have h1 := hfill #[]
  simp only [hz, if_true, Sem.run_pure, Result.andThen_ok]
  rw [hz] at h1
  simp only [h1, Sem.run_bind, hnr, Result.andThen_ok, Sem.run_pure]
 ·have h1 := hfill z.cells
  simp only [hz, if_false, Sem.run_bind, hz0, Sem.run_pure, Result.andThen_ok, h1, hnr]
section
variable {T e : TypeId} {sz by' n : Nat} {ps : List (Nat × Operand)} {vs Z : List Value}
theorem WZ {a : Act} {s : St} (hp : pc = true) (ho : o.op = .buildSlice T n ps.toArray) (h : EvV pc F (ps.map (·.2)) vs) (hops : ∀ x ∈ o.op.operands, ∀ d, ev F x = some d → Rep s d (a.eval x)) : (ps.map (·.2)).map a.eval = vs :=
 YN hp _ _ h fun x hx => hops x (by rw [ho]; simpa [Op.operands] using hx)
theorem KC (hs : ∀ v ∈ vs, v.cells.size = sz) : (vs.flatMap fun v => v.cells.toList).length = vs.length * sz := by
 induction vs with
 | nil => simp
 | cons v vs ih => rw [qbJ, qbz, ih (fun u hu => hs u (qb4 _ hu)), qbW, qcg]; simp [hs v (qb1 ..)]; omega
theorem xv (ho : o.op = .buildSlice T n ps.toArray) (hT : slE P T = some (e, sz, by')) (hZ : zrC P e = some Z) (hi : ps.map (·.1) = List.range' 0 n) (hv : EvV pc F (ps.map (·.2)) vs) (hs : vs.all (fun v => v.cells.size == sz) = true) (hbig : n * sz ≤ 16777216) (hn : n ≤ 16777216) :
  DOp P pc o F M [] (.slf sz n (vs.flatMap fun v => v.cells.toList)) [] := by
 intro hp a s hok hops _
 have hs' : ∀ v ∈ vs, v.cells.size = sz := fun v hv => by simpa using qbX.1 hs v hv
 have hvs := WZ hp ho hv hops
 have hlen : vs.length = n := by
  rw [← hvs, qcf, qcf]
  have := congrArg List.length hi
  simpa using this
 have hrun := gc (P := P) (w := s.w) ho hT hZ hi hvs hs' hbig
 refine ja (s' := ⟨s.β, fun b => s.I b ∨ b = s.w.heap.size, s.M, _⟩) hrun (vX hok _) rfl (.slf (by rw [KC hs', hlen]) (qbM _) (by unfold maxLen; omega) (fun e => by cases e) (.inr ⟨_, 0, rfl, .inr rfl, ?_⟩))
 simpa using qi (heap_alloc_new s.w _) 0
theorem zx (j : Nat) (ho : o.op = .buildSlice T n ps.toArray) (hT : slE P T = some (e, sz, by')) (hZ : zrC P e = some Z) (hi : ps.map (·.1) = List.range' 0 n) (hv : EvV pc F (ps.map (·.2)) vs) (hs : vs.all (fun v => v.cells.size == sz) = true) (hbig : n * sz ≤ 16777216) (hn : n ≤ 16777216) (hj : M[j]? = some .hole) :
  DOp P pc o F M [j] (.arr j) [(j, .arr e sz n (vs.flatMap fun v => v.cells.toList))] := by
 intro hp a s hok hops hfp
 have hs' : ∀ v ∈ vs, v.cells.size = sz := fun v hv => by simpa using qbX.1 hs v hv
 have hvs := WZ hp ho hv hops
 have hlen : vs.length = n := by
  rw [← hvs, qcf, qcf]
  have := congrArg List.length hi
  simpa using this
 have hj' : s.M[j]? = some .hole := by rw [hfp j (by simp)]; exact hj
 have hjl : j < s.β.length := by rw [hok.len]; exact (qbq.1 hj').1
 have hrun := gc (P := P) (w := s.w) ho hT hZ hi hvs hs' hbig
 refine ja (s' := ⟨s.β.set j (.slice (some ⟨s.w.heap.size, 0, none⟩) n n), s.I, s.M.set j (.arr e sz n (vs.flatMap fun v => v.cells.toList)), _⟩) hrun (g9 hok hj' _ _ _ (by simp) (fun b hb => by cases hb; rfl) (fun b h => Below.heap_alloc _ _ _ h) (fun b hb => by cases hb; simp) (by simp) rfl rfl rfl ?_) rfl (.arr (by simp [hjl]))
 have := World.ownsRow_lit (base := 0) (e := e) (size := sz) s.w (vs.flatMap fun v => v.cells.toList).toArray n (qb3 _) (by unfold maxLen; omega) (by simp only [List.size_toArray]; rw [KC hs', hlen])
 exact this
end
def SrcOk (s : St) (v : Value) (m : Nat) (L2 : List Value) : Prop := ∃ a c, v = .slice a m c ∧ ((a = none ∧ m = 0 ∧ c = 0 ∧ L2 = []) ∨ ∃ ad, a = some ad ∧ ∀ (j : Nat) u, L2[j]? = some u → s.w.cell? (ad.add j) = some u)
def SrcD (M : List Blk) (fp : List Nat) (d : D) (m sz : Nat) (L2 : List Value) : Prop := ∀ (s : St) v, Ok s → (∀ i ∈ fp, s.M[i]? = M[i]?) → Rep s d v → L2.length = m * sz ∧ SrcOk s v m L2
theorem yY {m sz : Nat} {L2 : List Value} : SrcD M [] (.slf sz m L2) m sz L2 := by
 intro s v _ _ hr
 cases hr with
 | @slf _ _ cap ad _ hl hn hc ha hL =>
  refine ⟨hl, ad, cap, rfl, ?_⟩
  rcases hL with rfl | ⟨b, q, rfl, hI, hcl⟩
  ·cases ad with
   | none => have := ha rfl; exact .inl ⟨rfl, by omega, this, rfl⟩
   | some ad => exact .inr ⟨ad, rfl, fun j u h => by simp at h⟩
  ·exact .inr ⟨_, rfl, fun j u hj => by rw [Addr.add_mid]; exact hcl j u hj⟩
theorem Jx {i m sz : Nat} {T' : TypeId} {L2 : List Value} (hM : M[i]? = some (.arr T' sz m L2)) : SrcD M [i] (.arr i) m sz L2 := by
 intro s v hok hfp hr
 cases hr with
 | @arr _ ad n' c h =>
  have hM' : s.M[i]? = some (.arr T' sz m L2) := by rw [hfp i (by simp)]; exact hM
  have hk : s.w.ownsRow 0 T' sz _ m L2 := hok.blk i _ _ hM' h
  refine ⟨hk.1, ad, c, ?_, ?_⟩
  ·rcases hk.2 with ⟨e1, e2⟩ | ⟨g, cap, cur, e1, _⟩
   ·cases e1; rw [e2]
   ·cases e1; rfl
  ·rcases hk.2 with ⟨e1, e2⟩ | ⟨g, cap, cur, e1, _⟩
   ·cases e1
    subst e2
    exact .inl ⟨rfl, rfl, rfl, qbU (by simpa using hk.1)⟩
   ·cases e1
    obtain ⟨_, _, _, _, hc, _⟩ := xd hok (by rw [hfp i (by simp)]; exact hM) h
    exact .inr ⟨_, rfl, fun j u hj => by rw [Addr.add_mid]; simpa using hc j u hj⟩
theorem yA {T e : TypeId} {sz by' n m : Nat} {i : TypeInfo} {z : Value} {ty : TypeId} {s : St} {h v2 : Value} {L L2 : List Value} (hT : P.underlying T = some (.slice e)) (hi : P.info? e = some i) (hsz : i.size = sz) (hby : i.bytes = by') (hz : i.zero = some z) (hzs : z.cells.size = sz)
  (hown : s.w.ownsRow 0 e sz h n L) (hl : L2.length = m * sz) (hsrc : SrcOk s v2 m L2) (h1 : ∀ u ∈ L2, u.oneCell' = true) (h63 : n + m ≤ maxLen) (hbytes : (n + m) * by' ≤ 140737488355328) :
  ∃ h' w', (Builtin.append_ #[T, T] ty #[h, v2]).run P s.w = .ok h' w' ∧ w'.ownsRow 0 e sz h' (n + m) (L ++ L2) ∧ s.w.grownBy w' h.ownBlock ∧ (∀ b, h'.ownBlock = some b → h.ownBlock = some b ∨ s.w.heap.size ≤ b) := by
 subst hsz hby
 obtain ⟨a, c, rfl, hsrc⟩ := hsrc
 rcases hsrc with ⟨rfl, rfl, rfl, rfl⟩ | ⟨ad, rfl, hcells⟩
 ·refine ⟨h, s.w, run_append_owned_none s.w 0 T ty e i i.size hT hi h n L hown, by simpa using hown, ⟨rfl, rfl, rfl, qbM _, fun _ _ _ => rfl⟩, fun b hb => .inl hb⟩
 ·have h63' : ((n + m : Nat) : Int) ≤ 9223372036854775807 := by simp only [maxLen] at h63; omega
  have grown : ∀ old, (s.w.drew.alloc (.cells (L.toArray ++ L2.toArray ++ Builtin.zeroCells z.cells (grownCap s.w (n + m) old e - (n + m))) e)).ownsRow 0 e i.size (.slice (some ⟨s.w.heap.size, 0, none⟩) (n + m) (grownCap s.w (n + m) old e)) (n + m) (L ++ L2) := by
   intro old
   have hge := grownCap_ge s.w (n + m) old e
   have hll : (L ++ L2).length = (n + m) * i.size := by rw [qbz, hown.1, hl, Nat.add_mul]
   refine ⟨hll, .inr ⟨s.w.heap.size, _, _, rfl, qb3 _, heap_alloc_new s.w.drew _, hge, grownCap_le_maxLen s.w _ _ _ h63, ?_, ?_⟩⟩
   ·simp only [Array.size_append, List.size_toArray, size_zeroCells, hzs, hown.1, hl, ← Nat.add_mul]
    congr 1
    omega
   ·simp only [Array.toList_append, qbY]
    rw [← qbY, ← hll]
    exact List.take_left
  rcases hown.2 with ⟨e1, e2⟩ | ⟨g, cap, cur, e1, _, e3, e4, e5, e6, e7⟩
  ·subst e1 e2
   have hL : L = [] := qbU (by simpa using hown.1)
   subst hL
   by_cases hm : m = 0
   ·subst hm
    have hL2 : L2 = [] := qbU (by simpa using hl)
    subst hL2
    refine ⟨.slice none 0 0, s.w, ?_, World.ownsRow_nil s.w 0 e i.size, ⟨rfl, rfl, rfl, qbM _, fun _ _ _ => rfl⟩, fun b hb => .inl hb⟩
    simp [Builtin.append_, run_underlying hT, sizeOf, typeInfo, hi, Builtin.lenOf, Builtin.firstCells, loadCells, loadCellsFrom]
   ·have hr := run_append_nil (P := P) s.w T ty e i z hT hi hz ad m c L2 hl hcells (by omega) (by omega) (by rw [qbs] at hbytes; omega)
    have hg := grown 0
    simp only [qbs, qbF, Array.empty_append] at hg hr ⊢
    exact ⟨_, _, hr, hg, ⟨rfl, rfl, rfl, by simp, fun k hk _ => Below.heap_alloc _ _ _ hk⟩, fun b hb => .inr (by cases hb; exact qbM _)⟩
  ·subst e1
   by_cases hroom : n + m ≤ cap
   ·obtain ⟨w', r1, r2, r3⟩ := run_append_fits (P := P) s.w 0 T ty e i i.size hT hi rfl g n cap L hown ad m c L2 hl hcells h1 hroom
    exact ⟨_, w', r1, r2, r3, fun b hb => .inl hb⟩
   ·have holds : ∀ (j : Nat) u, L[j]? = some u → s.w.cell? ((⟨g, 0, none⟩ : Addr).add j) = some u := hown.cells (g := g) rfl
    have hr := run_append_grow (P := P) s.w T ty e i z hT hi hz ⟨g, 0, none⟩ n cap L hown.1 holds ad m c L2 hl hcells (by omega) h63' (growslice_fits (by omega) hbytes)
    exact ⟨_, _, hr, grown cap, ⟨rfl, rfl, rfl, by simp, fun k hk _ => Below.heap_alloc _ _ _ hk⟩, fun b hb => .inr (by cases hb; exact qbM _)⟩
theorem wa {h : Value} (hs : (h = .slice none 0 0) ∨ ∃ a n c, h = .slice (some a) n c) : hb h = h.ownBlock := by
 rcases hs with rfl | ⟨a, n, c, rfl⟩ <;> rfl
theorem vC {T e : TypeId} {sz by' n m i j : Nat} {x y : Operand} {d : D} {L L2 Z : List Value} {fp : List Nat} (ho : o.op = .call { callee := .builtin .append, args := #[x, y], argTypes := #[T, T] }) (hT : slE P T = some (e, sz, by')) (hZ : zrC P e = some Z) (hZl : Z.length = sz)
  (hx : Ev pc F x (.arr i)) (hy : Ev pc F y d) (hsrc : SrcD M fp d m sz L2) (hM : M[i]? = some (.arr e sz n L)) (hj : M[j]? = some .hole) (h1 : pc = true → L2.all (·.oneCell') = true) (hbd : pc = true → (n + m) * by' ≤ 140737488355328 ∧ n + m ≤ 140737488355328) :
  DOp P pc o F M (i :: j :: fp) (.arr j) [(i, .gone), (j, .arr e sz (n + m) (L ++ L2))] := by
 intro hp a s hok hops hfp
 obtain ⟨e1, ti, e2, e3, e4⟩ := kS hT
 obtain ⟨ti', z, q1, q2, q3⟩ := jA hZ
 rw [e2] at q1
 obtain rfl := qbw q1
 obtain ⟨b1, b2⟩ := hbd hp
 have hM' : s.M[i]? = some (.arr e sz n L) := by rw [hfp i (by simp)]; exact hM
 have hj' : s.M[j]? = some .hole := by rw [hfp j (by simp)]; exact hj
 have hij : i ≠ j := fun h => by subst h; rw [hM'] at hj'; cases hj'
 have hjl : j < s.β.length := by rw [hok.len]; exact (qbq.1 hj').1
 have hrx := qu hp hx (by simp [ho, Op.operands, Call.operands]) hops
 have hry := qu hp hy (by simp [ho, Op.operands, Call.operands]) hops
 obtain ⟨hl2, hso⟩ := hsrc s _ hok (fun k hk => hfp k (by simp [hk])) hry
 generalize hv : a.eval x = vx at hrx
 cases hrx with
 | @arr _ ad n' c hβ =>
  have hk : s.w.ownsRow 0 e sz _ n L := hok.blk i _ _ hM' hβ
  obtain ⟨h', w', r1, r2, r3, r4⟩ := yA (P := P) (ty := o.type) (m := m) e1 e2 e3 e4 q2 (by rw [← hZl, ← q3]; simp) hk hl2 hso (fun u hu => qbX.1 (h1 hp) u hu) (by unfold maxLen; omega) b1
  have hs' : (h' = .slice none 0 0) ∨ ∃ a n c, h' = .slice (some a) n c := by
   rcases r2.2 with ⟨q, _⟩ | ⟨g, cap, cur, q, _⟩
   ·exact .inl q
   ·exact .inr ⟨_, _, _, q⟩
  have hs0 : (Value.slice ad n' c = .slice none 0 0) ∨ ∃ a n k, Value.slice ad n' c = .slice (some a) n k := by
   rcases hk.2 with ⟨q, _⟩ | ⟨g, cap, cur, q, _⟩
   ·exact .inl q
   ·exact .inr ⟨_, _, _, q⟩
  have o1 := wa hs'
  have o0 := wa hs0
  have hblk : s.w.heap.size ≤ w'.heap.size := r3.size
  have hβj : s.β[j]? = some .nilFunc := by
   have q : s.β[j]? = some s.β[j] := qbr hjl
   have : s.β[j] = .nilFunc := hok.blk j .hole _ hj' q
   rw [q, this]
  have from_ : ∀ b, hb h' = some b → s.w.heap.size ≤ b ∨ (hb (Value.slice ad n' c) = some b) := by
   intro b hbb
   rw [o1] at hbb
   rcases r4 b hbb with h | h
   ·exact .inr (by rw [o0]; exact h)
   ·exact .inl h
  have ht : Tr s ⟨s.β.set j h', s.I, (s.M.set i .gone).set j (.arr e sz (n + m) (L ++ L2)), w'⟩ := by
   refine kV hok j (s.M.set i .gone) h' _ w' (by simp) (fun k kb hkb => ?_) (by rw [← hok.len]; exact hjl) (.inl hβj) (by rcases hs' with rfl | ⟨_, _, _, rfl⟩ <;> simp) r2 (fun b hbb k kb hh hne q1 q2 q3 q4 => ?_) (fun b hbb => (from_ b hbb).imp id fun h => qq hM' rfl hβ h) (fun b hbb => ?_) (fun b => hb (Value.slice ad n' c) = some b) (fun b hdr => ⟨qq hM' rfl hβ hdr, fun k kb hh hne q1 q2 q3 q4 => ?_⟩) (fun b hlt hne hnd => ?_) r3.os r3.tape r3.output hblk
   ·by_cases hki : i = k
    ·subst hki
     have hlt : i < s.M.length := (qbq.1 hM').1
     rw [qbG hlt] at hkb
     exact .inr (qbw hkb).symm
    ·rw [qbC hki] at hkb; exact .inl hkb
   ·have hki : i ≠ k := fun h => by
     subst h
     have hlt : i < s.M.length := (qbq.1 hM').1
     rw [qbG hlt] at q1
     cases q1; cases q2
    rw [qbC hki] at q1
    rcases from_ b hbb with h | h
    ·exact absurd (hok.lt b (qq q1 q2 q3 q4)).1 (Nat.not_lt.2 h)
    ·exact hki (hok.inj i k _ kb _ hh b hM' rfl hβ h q1 q2 q3 q4)
   ·replace hbb : hb h' = some b := hbb
    rw [o1] at hbb
    exact (r2.lt b hbb).2
   ·have hki : i ≠ k := fun h => by
     subst h
     have hlt : i < s.M.length := (qbq.1 hM').1
     rw [qbG hlt] at q1
     cases q1; cases q2
    rw [qbC hki] at q1
    exact hki (hok.inj i k _ kb _ hh b hM' rfl hβ hdr q1 q2 q3 q4)
   ·exact r3.block b hlt fun h => hnd (by rw [o0]; exact h.symm)
  refine ja (s' := ⟨s.β.set j h', s.I, (s.M.set i .gone).set j (.arr e sz (n + m) (L ++ L2)), w'⟩) (kR ho (fun cs => by rfl) (by simpa [hv] using r1)) ht rfl ?_
  rcases hs' with rfl | ⟨_, _, _, rfl⟩
  ·exact .arr (by simp [hjl])
  ·exact .arr (by simp [hjl])
end
end Go.Proofs.YtofklkbfkoliiaaGreat
namespace Go.Proofs.YtofklkbfkoliiaaGreat
set_option linter.unusedVariables false
set_option linter.unusedSimpArgs false
open Go.RowKit
def mv1 (N : Nat) (F : Fr) (o : Oper) : Option (Nat × D) :=
 match o.guard, o.dst with
 | none, some t => bif qcj t N then (match o.op with
  | .move x => match ev F x with
   | some d => some (t, d)
   | none => none
  | .assign x => match ev F x with
   | some d => some (t, d)
   | none => none
  | .extract x i => match ev F x with
   | some (.tup l) => match l[i]? with
    | some d => some (t, d)
    | none => none
   | _ => none
  | _ => none) else none
 | _, _ => none
def mvs (N : Nat) : Nat → List Oper → Fr → Option (List Oper × Fr)
 | 0, l, F => some (l, F)
 | k + 1, o :: l, F => match mv1 N F o with
  | some p => mvs N k l (p :: F)
  | none => none
 | _ + 1, [], _ => none
section
variable {P : Program} {s0 : St} {n : Cx} {ops : Array Oper}
theorem W0 {o : Oper} {rest : List Oper} {F : Fr} {M : List Blk} {K : Cont} {p : Nat × D} (h : mv1 n.n F o = some p) (hk : Walk P s0 n ops rest (p :: F) M K) : Walk P s0 n ops (o :: rest) F M K := by
 unfold mv1 at h
 split at h
 ·rename_i t hg hd
  cases hb : qcj t n.n with
  | false => rw [hb] at h; cases h
  | true =>
   rw [hb] at h
   simp only [cond_true] at h
   split at h
   ·rename_i x ho
    split at h
    ·rename_i d hx; cases h; exact Jr hg hd hb (zal (.inl ho) (ev1 hx)) hk (by rw [ho]; rfl)
    ·cases h
   ·rename_i x ho
    split at h
    ·rename_i d hx; cases h; exact Jr hg hd hb (zal (.inr ho) (ev1 hx)) hk (by rw [ho]; rfl)
    ·cases h
   ·rename_i x i ho
    split at h
    ·rename_i l hx
     split at h
     ·rename_i d hl; cases h; exact Jr hg hd hb (jN ho (ev1 hx) hl) hk (by rw [ho]; rfl)
     ·cases h
    ·cases h
   ·cases h
 ·cases h
theorem zaa : ∀ (k : Nat) {l l' : List Oper} {F F' : Fr} {M : List Blk} {K : Cont}, mvs n.n k l F = some (l', F') → Walk P s0 n ops l' F' M K → Walk P s0 n ops l F M K
 | 0, _, _, _, _, _, _, h, hk => by cases h; exact hk
 | k + 1, [], _, _, _, _, _, h, _ => by cases h
 | k + 1, o :: l, _, _, _, _, _, h, hk => by
  rw [mvs] at h
  split at h
  ·rename_i p hp
   exact W0 hp (zaa k h hk)
  ·cases h
theorem zah {id : Nat} {l : List Oper} {y : Code} {F : Fr} {M : List Blk} {K : Cont} (h : Walk P s0 n l.toArray l F M (Kseq (fun F M => dwp P s0 n y F M K) K)) : dwp P s0 n (.seq (.region id l.toArray false) y) F M K := zae (zac h)
def gx (N : Nat) (o : Oper) : Option Nat :=
 match o.guard, o.dst with
 | none, some t => bif qcj t N then some t else none
 | _, _ => none
theorem KD {N t : Nat} {o : Oper} (h : gx N o = some t) : o.guard = none ∧ o.dst = some t ∧ qcj t N = true := by
 unfold gx at h
 split at h
 ·rename_i u hg hd
  cases hb : qcj u N with
  | false => rw [hb] at h; cases h
  | true => rw [hb] at h; cases h; exact ⟨hg, hd, hb⟩
 ·cases h
theorem za {o : Oper} {rest : List Oper} {F : Fr} {M : List Blk} {K : Cont} {fp : List Nat} {d : D} {t : Nat} (hc : gx n.n o = some t) (h : DOp P true o F M fp d []) (hk : Walk P s0 n ops rest ((t, d) :: F) M K) (hnd : gC o.op = true := by rfl) : Walk P s0 n ops (o :: rest) F M K :=
 Jr (KD hc).1 (KD hc).2.1 (KD hc).2.2 h hk hnd
theorem zak {o : Oper} {rest : List Oper} {F : Fr} {M M' : List Blk} {K : Cont} {fp : List Nat} {d : D} {t : Nat} {wr : List (Nat × Blk)} (hc : gx n.n o = some t) (h : DOp P true o F M fp d wr) (hk : Walk P s0 n ops rest ((t, d) :: F) M' K)
  (hM : upd M wr = M' := by simp only [upd, zaf, zag]; exact rfl) (hnd : gC o.op = true := by rfl) : Walk P s0 n ops (o :: rest) F M K := AN (KD hc).1 (KD hc).2.1 (KD hc).2.2 h hM hk hnd
theorem zas {o : Oper} {rest : List Oper} {F : Fr} {M M' : List Blk} {K : Cont} {fp : List Nat} {d : D} {wr : List (Nat × Blk)} (hc : (o.guard.isNone && o.dst.isNone) = true) (h : DOp P true o F M fp d wr) (hk : Walk P s0 n ops rest F M' K)
  (hM : upd M wr = M' := by simp only [upd, zaf, zag]; exact rfl) (hnd : gC o.op = true := by rfl) : Walk P s0 n ops (o :: rest) F M K := by
 rw [qbu, Option.isNone_iff_eq_none, Option.isNone_iff_eq_none] at hc
 exact AO hc.1 hc.2 h hM hk hnd
theorem zao {c : Code} {F : Fr} {M M' : List Blk} {K : Cont} (k : Nat) (h : dwp P s0 n c F M' K) (hM : Qy M k = M' := by simp only [Qy, qbD, qbF]; exact rfl) : dwp P s0 n c F M K := VG k hM h
end
end Go.Proofs.YtofklkbfkoliiaaGreat
namespace Go.Proofs.YtofklkbfkoliiaaGreat
set_option linter.unusedVariables false
set_option linter.unusedSimpArgs false
open Go.RowKit Go.Deep
inductive Prim where
 | int (k : IntKind)
 | bool
 | str
def Prim.is : Prim → Value → Prop
 | .int k, v => ∃ n, v = .int k n ∧ (Lit.int k n).wf = true
 | .bool, v => ∃ b, v = .bool b
 | .str, v => ∃ s : ByteArray, v = .string s ∧ s.size ≤ maxLen
def gG : List Prim → List Value → Prop
 | [], [] => True
 | p :: ps, v :: vs => p.is v ∧ gG ps vs
 | _, _ => False
theorem xe : ∀ (ps qs : List Prim) (vs ws : List Value), gG ps vs → gG qs ws → gG (ps ++ qs) (vs ++ ws)
 | [], _, [], _, _, h => h
 | _ :: ps, qs, _ :: vs, ws, h, h' => ⟨h.1, xe ps qs vs ws h.2 h'⟩
 | [], _, _ :: _, _, h, _ => by cases h
 | _ :: _, _, [], _, h, _ => by cases h
def Gx (P : Program) (fl : TypeId → Option (List Prim)) : List Field → Nat → Option (List Prim)
 | [], _ => some []
 | f :: rest, off => if f.offset = off then (fl f.type).bind fun ps => if P.cellsOf f.type = ps.length then (Gx P fl rest (off + ps.length)).map (ps ++ ·) else none else none
def xw (P : Program) : Nat → TypeId → Option (List Prim)
 | 0, _ => none
 | n + 1, t => match P.underlying t with
  | some (.int k) => some [.int k]
  | some .bool => some [.bool]
  | some .string => some [.str]
  | some (.struct fs) => (Gx P (xw P n) fs.toList 0).bind fun ps => if P.cellsOf t = ps.length then some ps else none
  | some (.array m e) => (xw P n e).bind fun ps => if P.cellsOf e = ps.length ∧ P.cellsOf t = m * ps.length then some (qbH m ps).flatten else none
  | _ => none
section
variable {H : Type} {enc : TypeId × Value → H} {P : Program} {w : World} {base : Nat} {spare : Nat → Bool} {held : Bool}
theorem YO {fl : TypeId → Option (List Prim)} {cs : List Value} (l : List Field) :
  ∀ (off : Nat) (ps : List Prim), Gx P fl l off = some ps → (∀ f ∈ l, ∀ qs, fl f.type = some qs → gG qs ((cs.drop f.offset).take (P.cellsOf f.type))) → gG ps ((cs.drop off).take ps.length) := by
 induction l with
 | nil =>
  intro off ps h _; obtain rfl : [] = ps := by simpa [Gx] using h
  simp [gG]
 | cons f l ih =>
  intro off ps h hall
  unfold Gx at h
  by_cases ho : f.offset = off
  ·rw [if_pos ho] at h
   obtain ⟨qs, hq, h⟩ := Option.bind_eq_some_iff.1 h
   by_cases hc : P.cellsOf f.type = qs.length
   ·rw [if_pos hc] at h
    obtain ⟨rs, hr, rfl⟩ := qbL.1 h
    have h1 := hall f (qb1 ..) qs hq
    rw [ho, hc] at h1
    have h2 := ih _ _ hr (fun g hg => hall g (qb4 _ hg))
    have h3 := xe _ _ _ _ h1 h2
    rw [qbz, List.take_add, List.drop_drop]
    exact h3
   ·rw [if_neg hc] at h; cases h
  ·rw [if_neg ho] at h; cases h
theorem YP {ps : List Prim} {cs : List Value} (n : Nat) (h : ∀ i, i < n → gG ps ((cs.drop (i * ps.length)).take ps.length)) : gG (qbH n ps).flatten (cs.take (n * ps.length)) := by
 induction n with
 | zero => simp [gG]
 | succ n ih =>
  have h1 := ih (fun i hi => h i (by omega))
  have h2 := h n (by omega)
  rw [List.replicate_succ', List.flatten_append, qcg, List.take_add]
  simpa using xe _ _ _ _ h1 h2
theorem KE : ∀ (f n : Nat) (t : TypeId) (ps : List Prim) (cs : List Value) (x : DataW H × List MemPlace), xw P f t = some ps → DataW.trod enc P w base spare held n t cs = some x → gG ps cs := by
 intro f
 induction f with
 | zero => intro n t ps cs x h; cases h
 | succ f ih =>
  intro n t ps cs x h hx
  unfold xw at h
  split at h
  ·rename_i k hk
   obtain rfl := qbw h
   obtain ⟨a, rfl, _, hw⟩ := DataW.trod_int hk hx
   exact ⟨⟨a, rfl, hw⟩, trivial⟩
  ·rename_i hk
   obtain rfl := qbw h
   obtain ⟨a, rfl, _⟩ := DataW.trod_bool hk hx
   exact ⟨⟨a, rfl⟩, trivial⟩
  ·rename_i hk
   obtain rfl := qbw h
   obtain ⟨a, rfl, _, hw⟩ := DataW.trod_string hk hx
   exact ⟨⟨a, rfl, hw⟩, trivial⟩
  ·rename_i fs hk
   obtain ⟨qs, hq, h⟩ := Option.bind_eq_some_iff.1 h
   split at h
   ·rename_i hc
    obtain rfl := qbw h
    obtain ⟨xs, m, _, _, hl, hlen, hf⟩ := DataW.trod_struct hk hx
    have := YO (cs := cs) fs.toList 0 qs hq (fun g hg rs hrs => by
     obtain ⟨i, hi, rfl⟩ := qcc hg
     have hi' : i < fs.size := by simpa using hi
     have h1 := hf i fs[i] (Array.getElem?_eq_getElem hi')
     rw [qbr (by omega)] at h1
     simp only [Array.getElem_toList] at hrs ⊢
     exact ih _ _ _ _ _ hrs h1)
    rw [List.drop_zero, qbT (by omega)] at this
    exact this
   ·cases h
  ·rename_i m e hk
   obtain ⟨qs, hq, h⟩ := Option.bind_eq_some_iff.1 h
   split at h
   ·rename_i hc
    obtain rfl := qbw h
    obtain ⟨xs, k, _, _, hl, hlen, hf⟩ := DataW.trod_array hk hx
    have := YP (ps := qs) (cs := cs) m (fun i hi => by
     have h1 := hf i hi
     rw [qbr (by omega), hc.1] at h1
     exact ih _ _ _ _ _ hq h1)
    rw [qbT (by omega)] at this
    exact this
   ·cases h
  ·cases h
def AW {α : Type} (w : World) (b off sz : Nat) (en : α → List Value) (l : List α) : Prop :=
 b < w.heap.size ∧ ∀ k (h : k < l.length) j, j < sz → w.cell? ⟨b, off + k * sz + j, none⟩ = (en l[k])[j]?
def rowV {α : Type} (W : World) (a0 : Option Addr) (len sz : Nat) (en : α → List Value) (l : List α) : Prop := len = l.length ∧ (l = [] ∨ ∃ b off, a0 = some ⟨b, off, none⟩ ∧ AW W b off sz en l)
theorem Gy {α : Type} (n : Nat) (p : Nat → α → Prop) (h : ∀ i, i < n → ∃ c, p i c) : ∃ l : List α, l.length = n ∧ ∀ i (hi : i < l.length), p i l[i] := by
 induction n with
 | zero => exact ⟨[], rfl, fun i hi => absurd hi (by simp)⟩
 | succ n ih =>
  obtain ⟨l, hl, hp⟩ := ih fun i hi => h i (by omega)
  obtain ⟨c, hc⟩ := h n (by omega)
  refine ⟨l ++ [c], by simp [hl], fun i hi => ?_⟩
  by_cases e : i < l.length
  ·rw [List.getElem_append_left e]; exact hp i e
  ·have : i = n := by simp [hl] at hi; omega
   subst this
   simp [List.getElem_append_right (show l.length ≤ i by omega), hl, hc]
theorem W1 {α : Type} {t e : TypeId} {ps : List Prim} (f : Nat) (en : α → List Value) (ok : α → Prop) (hP : ∀ cs, gG ps cs → ∃ a, ok a ∧ cs = en a) (ht : P.underlying t = some (.slice e)) (hf : xw P f e = some ps) (hc : P.cellsOf e = ps.length) (hpos : 0 < ps.length)
  {a0 : Option Addr} {len cap : Nat} {d : DataW H} {p : List MemPlace} (h : DataW.Trod enc P w base spare held t (.slice a0 len cap) d p) :
  ∃ l, rowV w a0 len ps.length en l ∧ (∀ a ∈ l, ok a) ∧ len ≤ cap ∧ cap ≤ maxLen ∧ (a0 = none → cap = 0) := by
 obtain ⟨fuel, hfu⟩ := h
 rcases open_slice ht hfu with ⟨hcs, hx⟩ | ⟨a, len', cap', m, n, D, Pl, hcs, _, hl, hm, hmm, hx, hel⟩
 ·simp [Value.cells] at hcs
  obtain ⟨rfl, rfl, rfl⟩ := hcs
  exact ⟨[], ⟨rfl, .inl rfl⟩, by simp, qbM _, qb3 _, fun _ => rfl⟩
 ·simp [Value.cells] at hcs
  obtain ⟨rfl, rfl, rfl⟩ := hcs
  have hlm : len ≤ m := by rw [hmm]; split <;> omega
  rw [hc] at hel
  obtain ⟨l, hll, hp⟩ := Gy len (fun i (c : α) => ok c ∧ w.cells? base (a.add (i * ps.length)) ps.length = some (en c)) (by
   intro i hi
   obtain ⟨cs, h1, h2⟩ := hel i (by omega)
   obtain ⟨c, hok, rfl⟩ := hP cs (KE f _ _ _ _ _ hf h2)
   exact ⟨c, hok, h1⟩)
  refine ⟨l, ⟨hll.symm, ?_⟩, ?_, hl, hm, fun e => by cases e⟩
  ·by_cases h0 : l = []
   ·exact .inl h0
   ·right
    have hlp : 0 < l.length := List.length_pos_iff.2 h0
    obtain ⟨b, off, spot⟩ := a
    have hg := World.cells?_some (hp 0 hlp).2
    have hc0 := hg.2.2 0 hpos
    rw [qbr (by rw [hg.2.1]; exact hpos)] at hc0
    replace hc0 : ∃ v0, w.cell? (((⟨b, off, spot⟩ : Addr).add (0 * ps.length)).add 0) = some v0 := ⟨_, hc0⟩
    obtain ⟨v0, hc0⟩ := hc0
    have hs := World.cell?_spot hc0
    have hspot : spot = none := by simpa [Addr.add] using hs
    subst hspot
    have hpl : ∀ o k, (⟨b, o, none⟩ : Addr).add k = ⟨b, o + k, none⟩ := fun o k => by simp [Addr.add]
    refine ⟨b, off, rfl, ?_, fun k hk j hj => ?_⟩
    ·rw [hpl, hpl] at hc0
     exact World.block_lt_of_cell? _ _ hc0
    ·have := (World.cells?_some (hp k hk).2).2.2 j hj
     rw [hpl, hpl] at this
     exact this
  ·intro c hcm
   obtain ⟨i, hi, rfl⟩ := qcc hcm
   exact (hp i hi).1
end
end Go.Proofs.YtofklkbfkoliiaaGreat
namespace Go.Proofs.YtofklkbfkoliiaaGreat
set_option linter.unusedVariables false
set_option linter.unusedSimpArgs false
open Go.ChangeShapes Go.WideShapes Go.ChangeAt Go.RowKit Go.Joins Go.Deep
theorem W2 : ownKnob Tryz.prog.godebug = none := by kernel_rfl
theorem W3 : laidOutB Tryz.prog = true := by kernel_rfl
theorem wX {H : Type} {enc : TypeId × Value → H} {P : Program} (hl : laidOutB P = true) {W W' : World} : ∀ (ts : List TypeId) (vs : List Value) (ds : List (DataW H)) (p : List MemPlace),
  ts.all (fun t => P.readableRec t && decide (t < P.types.size)) = true → DataW.TrodAll enc P W 0 (fun _ => true) true ts vs ds p → Below W.heap.size W W' → (∀ x ∈ p, x.block < W.heap.size) →
  DataW.TrodAll enc P W' 0 (fun b => decide (b < W.heap.size)) true ts vs ds p
 | [], [], [], _, _, h, _, _ => h
 | t :: ts, v :: vs, d :: ds, p, ht, h, hB, hlt => by
  obtain ⟨p1, q, h1, h2, rfl⟩ := h
  simp only [List.all_cons, qbu, decide_eq_true_eq] at ht
  exact ⟨p1, q, Below.trod hl ht.1.1 ht.1.2 h1 hB (fun x hx => hlt x (List.mem_append_left _ hx)), wX hl ts vs ds q ht.2 h2 hB (fun x hx => hlt x (List.mem_append_right _ hx)), rfl⟩
 | [], _ :: _, _, _, _, h, _, _ => by cases h
 | [], [], _ :: _, _, _, h, _, _ => by cases h
 | _ :: _, [], _, _, _, h, _, _ => by cases h
 | _ :: _, _ :: _, [], _, _, h, _, _ => by cases h
theorem xx {H : Type} {enc : TypeId × Value → H} {P : Program} {W : World} {base : Nat} {spare : Nat → Bool} {held : Bool} : ∀ (ts : List TypeId) (vs : List Value) (ds : List (DataW H)) (p : List MemPlace),
  DataW.TrodAll enc P W base spare held ts vs ds p → ds.length = ts.length
 | [], [], [], _, _ => rfl
 | _ :: ts, _ :: vs, _ :: ds, _, h => by obtain ⟨_, q, _, h2, _⟩ := h; simp [xx ts vs ds q h2]
 | [], _ :: _, _, _, h => by cases h
 | [], [], _ :: _, _, h => by cases h
 | _ :: _, [], _, _, h => by cases h
 | _ :: _, _ :: _, [], _, h => by cases h
def Walked (f : FuncId) (ts : List TypeId) : Prop := ∀ (H : Type) (enc : TypeId × Value → H) (W : World) (base : Nat) (args : Array Value) (ds : List (DataW H)) (p : List MemPlace),
 DataW.TrodAll enc Tryz.prog W 0 (fun _ => true) true ts args.toList ds p → (∀ (j : Nat) t v, ts[j]? = some t → args[j]? = some v → Value.okWide Tryz.prog W .any base t v) →
 Calls Tryz.prog f args W fun e W' => e = .returned (.bool true) ∧ Below W.heap.size W W'
theorem W4 {s : ChangeSpec} {f : FuncId} {fn : Func} {conds : List PathCond} {os : Os} (started : os.Started) {H : Type} {enc : TypeId × Value → H} (noInit : Tryz.checked.prog.inits.idxOf? f = none) (hfn : Tryz.checked.prog.funcs[f]? = some fn)
  (witness : ∃ (w : World) (tape : Tape) (i : Input), w.os = os ∧ (w.forCall tape i).Shaped Tryz.checked.prog ∧ i.vars = [] ∧ Input.okWide Tryz.checked.prog (w.forCall tape i) .any w.heap.size f i ∧
   s.pre6 enc Tryz.checked.prog fn conds false (w.forCall tape i).memory i.args ∧ ({} : Assume).holds Tryz.checked.prog (lone (Frame.enter Tryz.checked.prog f i.args .normal) [] (w.forCall tape i)))
  (ts : List TypeId) (tb : TypeId) (hts : fn.params.toList = ts) (hr : fn.resultTypes.toList = [tb]) (hb : Tryz.prog.underlying tb = some .bool) (hrow : ts.all (fun t => Tryz.prog.readableRec t && decide (t < Tryz.prog.types.size)) = true)
  (hvars : s.vars = []) (hs : ∀ ds : List (DataW H), ds.length = ts.length → s.fn H ds = { results := [.lit (.bool true)], args := ds }) (hw : Walked f ts) :
  ReturnsInHanded {} Tryz.checked os f .any (s.pre6 enc Tryz.prog fn conds false) (s.post enc Tryz.prog fn false true false false) := by
 refine returnsInHanded_of_change (C := Tryz.checked) W2 started noInit hfn witness ?_
 intro W base args ds gs before hval0 hW _ _
 have hval : ∀ (j : Nat) t v, fn.params[j]? = some t → args[j]? = some v → Value.okWide Tryz.prog W .any base t v := hval0
 have hW' := hW
 obtain ⟨p, q, hA0, hV, rfl, hnf, hap⟩ := hW
 have hA : DataW.TrodAll enc Tryz.prog W 0 (fun _ => true) true ts args.toList ds p := by rw [← hts]; exact hA0
 rw [hvars] at hV
 obtain ⟨rfl, rfl⟩ := trodVars_none hV
 simp only [qci] at hW'
 have hlt : ∀ x ∈ p, x.block < W.heap.size := fun x hx => by simpa using hW'.lt x hx
 have hlen := xx _ _ _ _ hA
 have hsz : fn.resultTypes.size = 1 := by rw [← Array.length_toList, hr]; rfl
 refine (hw H enc W base args ds p hA (fun j t v h1 h2 => hval j t v (by rw [← Array.getElem?_toList, hts]; exact h1) h2)).mono fun e W' ⟨he, hB⟩ => ?_
 subst he
 refine ⟨_, rfl, ds, [], p, [], p, [], ?_, ?_, ?_, ?_, hB.frame _, fun h => by cases h⟩
 ·exact hW'
 ·rw [qci, hs ds hlen, hr, hsz]
  exact trodAll_mk1 (shut_bool hb true)
 ·rw [qci, hs ds hlen, hts]
  exact wX W3 ts args.toList ds p hrow hA hB hlt
 ·rw [qci, hs ds hlen, hvars]
  rfl
end Go.Proofs.YtofklkbfkoliiaaGreat
namespace Go.Proofs.YtofklkbfkoliiaaGreat
set_option linter.unusedVariables false
set_option linter.unusedSimpArgs false
open Go.RowKit
theorem pr {a b : Bool} (h : (a && b) = true) : b = true := by cases a <;> simp_all
section
variable {P : Program} {fn : Func} {F : Fr} {M : List Blk} {t u v : Tmp} {d d' e f dr : D}
theorem qx {pan : D → List Blk → Prop} (hr : ResD P fn F M d) (hv : vw [] jS M d = some d') (h : d' = dr) : DEnd P fn 0 (fun d M => d = dr ∧ M = []) pan [] none F M := .ret hr (σ := []) rfl hv (Mo := []) trivial ⟨h, rfl⟩
theorem ko {m : Nat} {Mo : List Blk} {pan : D → List Blk → Prop} (σ : List Nat) (hr : ResD P fn F M d) (hσ : okσ m σ = true) (hv : vw σ jS M d = some d') (h : d' = dr) (hM : MFits σ jS M σ Mo) : DEnd P fn m (fun d M => d = dr ∧ M = Mo) pan [] none F M := .ret hr hσ hv hM ⟨h, rfl⟩
theorem Qz {post : D → List Blk → Prop} (hv : vw [] jS M d = some d') (h : d' = dr) : DEnd P fn 0 post (fun d M => d = dr ∧ M = []) [] (some d) F M := .pan (σ := []) rfl hv (Mo := []) trivial ⟨h, rfl⟩
theorem xf {m : Nat} {Mo : List Blk} {post : D → List Blk → Prop} (σ : List Nat) (hσ : okσ m σ = true) (hv : vw σ jS M d = some d') (h : d' = dr) (hM : MFits σ jS M σ Mo) : DEnd P fn m post (fun d M => d = dr ∧ M = Mo) [] (some d) F M := .pan hσ hv hM ⟨h, rfl⟩
theorem jH {m : Nat} {post pan : D → List Blk → Prop} {g : FuncId} {first caps U : List D} {pn pn' : Option D} {M' : List Blk} (h : DTurn P g first caps pn M pn' M') (r : DEnd P fn m post pan U pn' F M') : DEnd P fn m post pan (.fn (.func g) first caps :: U) pn F M := .fn h r
end
section
variable {P : Program} {pc : Bool} {o : Oper} {F : Fr} {M : List Blk}
def fdL (P : Program) (T : TypeId) : Option (List (Nat × Nat)) := match P.underlying T with
 | some (.struct fs) => fs.toList.mapM fun f => (P.info? f.type).map fun i => (f.offset, i.size)
 | _ => none
def vS (offs : List (Nat × Nat)) : List Value → List (Nat × List Value) → List Value
 | Z, [] => Z
 | Z, (i, C) :: r => vS offs (jX Z ((offs.getD i (0, 0)).1) C) r
def wb (offs : List (Nat × Nat)) (n : Nat) : List (Nat × List Value) → Bool
 | [] => true
 | (i, C) :: r => (match offs[i]? with | some (o, s) => C.length == s && Nat.ble (o + s) n | none => false) && wb offs n r
theorem wc {offs : List (Nat × Nat)} : ∀ (ps : List (Nat × Value)) (Z : Array Value), wb offs Z.size (ps.map fun p => (p.1, p.2.cells.toList)) = true →
  Instr.fill (fun i => offs.toArray[i]?) Z ps = some (vS offs Z.toList (ps.map fun p => (p.1, p.2.cells.toList))).toArray
 | [], Z, _ => by simp [Instr.fill, vS]
 | (i, v) :: r, Z, h => by
  simp only [List.map_cons, wb, qbu] at h
  obtain ⟨h1, h2⟩ := h
  cases e : offs[i]? with
  | none => rw [e] at h1; cases h1
  | some q =>
   obtain ⟨off, sz⟩ := q
   rw [e] at h1
   simp only [qbu, beq_iff_eq, Array.length_toList] at h1
   have hle := qbA h1.2
   have fold : ∀ (C : List Value) (j : Nat) (cs : Array Value), (List.foldl (fun (acc : Array Value) (p : Value × Nat) => acc.setIfInBounds (off + p.2) p.1) cs (C.zipIdx j)).toList = jX cs.toList (off + j) C := by
    intro C
    induction C with
    | nil => intro j cs; rfl
    | cons c C ih => intro j cs; rw [List.zipIdx_cons, List.foldl_cons, ih, jX, Array.toList_setIfInBounds, Nat.add_assoc]
   have hz : (v.cells.zipIdx.foldl (fun (acc : Array Value) (p : Value × Nat) => acc.setIfInBounds (off + p.2) p.1) Z).toList = jX Z.toList off v.cells.toList := by
    have := fold v.cells.toList 0 Z
    rw [Nat.add_zero] at this
    rw [← this, ← Array.foldl_toList]
    congr 1
    simp [Array.toList_zipIdx]
   have hsz : (v.cells.zipIdx.foldl (fun (acc : Array Value) (p : Value × Nat) => acc.setIfInBounds (off + p.2) p.1) Z).size = Z.size := by
    rw [← Array.length_toList, hz, gy, Array.length_toList]
   have ih := wc r (v.cells.zipIdx.foldl (fun (acc : Array Value) (p : Value × Nat) => acc.setIfInBounds (off + p.2) p.1) Z) (by rw [hsz]; exact h2)
   rw [Instr.fill]
   have eo : offs.toArray[i]? = some (off, sz) := by simpa using e
   simp only [eo, h1.1, ne_eq, not_true_eq_false, decide_false, Bool.false_or, decide_eq_true_eq]
   rw [if_neg (by simp; rw [← h1.1] at hle; omega)]
   rw [List.map_cons, vS, qbV, e]
   simp only [Option.getD_some]
   rw [← hz]
   exact ih
theorem zy {α β : Type} {w : World} (f : α → Sem β) (g : α → Option β) (h : ∀ a b, g a = some b → (f a).run P w = .ok b w) : ∀ (l : List α) (r : List β), l.mapM g = some r → (l.mapM f).run P w = .ok r w
 | [], r, hr => by simp at hr; subst hr; rfl
 | a :: l, r, hr => by
  simp only [List.mapM_cons, Option.bind_eq_bind, Option.bind_eq_some_iff] at hr
  obtain ⟨b, h1, r', h2, h3⟩ := hr
  cases h3
  rw [List.mapM_cons, Sem.run_bind, h a b h1, Result.andThen_ok, Sem.run_bind, zy f g h l r' h2, Result.andThen_ok]
  rfl
theorem je {T : TypeId} {ps : List (Nat × Operand)} {vs : List Value} {offs : List (Nat × Nat)} {Z R : List Value} (ho : o.op = .build T ps.toArray) (hT : fdL P T = some offs) (hZ : zrC P T = some Z) (hv : EvV pc F (ps.map (·.2)) vs)
  (hB : wb offs Z.length ((ps.map (·.1)).zip (vs.map fun v => v.cells.toList)) = true) (hR : vS offs Z ((ps.map (·.1)).zip (vs.map fun v => v.cells.toList)) = R) : DOp P pc o F M [] (.val (.agg R.toArray)) [] := by
 intro hp a s hok hops _
 have hvs : (ps.map (·.2)).map a.eval = vs := YN hp _ _ hv fun x hx => hops x (by rw [ho]; simpa [Op.operands] using hx)
 obtain ⟨i, z, e1, e2, e3⟩ := jA hZ
 refine qU (v := .agg R.toArray) hok ?_ (.val _)
 unfold fdL at hT
 split at hT
 ·rename_i fs hu
  have hparts : (ps.toArray.map fun (i, x) => (i, a.eval x)).toList = (ps.map (·.1)).zip vs := by
   rw [← hvs]
   simp only [List.map_toArray]
   clear hv hB hR hvs ho
   induction ps with
   | nil => rfl
   | cons p ps ih => simp only [List.map_cons, List.zip_cons_cons]; rw [← ih]
  have hz : ((ps.map (·.1)).zip vs).map (fun p => (p.1, p.2.cells.toList)) = (ps.map (·.1)).zip (vs.map fun v => v.cells.toList) := by
   rw [List.zip_map_right]
   rfl
  have hpl : (fs.mapM fun f => (do pure (f.offset, ← sizeOf f.type) : Sem (Nat × Nat))).run P s.w = .ok offs.toArray s.w := by
   rw [Array.mapM_eq_mapM_toList, Sem.run_map, zy (P := P) (w := s.w) _ _ (fun f b hb => ?_) fs.toList offs hT]
   ·rfl
   ·simp only [qbL] at hb
    obtain ⟨j, hj, rfl⟩ := hb
    simp [sizeOf, typeInfo, hj]
  have hf := wc (offs := offs) ((ps.map (·.1)).zip vs) z.cells (by rw [hz, ← Array.length_toList, e3]; exact hB)
  rw [hz, e3, hR] at hf
  unfold execOp
  simp only [ho]
  refine k6 ?_
  have hz0 : (zeroValue T).run P s.w = .ok z s.w := by simp [zeroValue, typeInfo, e1, e2]
  simp only [Instr.build, Sem.run_bind, hz0, run_underlying hu, Result.andThen_ok, hpl, hparts, hf, Sem.run_pure]
 ·cases hT
theorem k8 {T : TypeId} {offs : List (Nat × Nat)} {Z : List Value} (ho : o.op = .build T #[]) (hT : fdL P T = some offs) (hZ : zrC P T = some Z) : DOp P pc o F M [] (.val (.agg Z.toArray)) [] :=
 je (ps := []) (vs := []) ho hT hZ trivial rfl rfl
theorem yu {T T' : TypeId} {x y : Operand} {p q : Bool} (ho : o.op = .binOp .neq T x y T') (hT : P.underlying T = some .bool) (hx : Ev pc F x (.val (.bool p))) (hy : Ev pc F y (.val (.bool q))) : DOp P pc o F M [] (.val (.bool (p != q))) [] :=
 WU ho hx hy (fun w => by unfold eqGuard; rfl) fun w => by
  have h : ∀ d, (Op.equalIn (d + 1) T (.bool p) (.bool q)).run P w = .ok (p == q) w := fun d => by simp [Op.equalIn, run_underlying hT]
  show (do pure (Value.bool (!(← Op.equalIn (9999 + 1) T (.bool p) (.bool q)))) : Sem Value).run P w = _
  rw [Sem.run_bind, h 9999]; rfl
theorem we {x y : Operand} {T U : TypeId} {k : IntKind} {p q : Int} (ho : o.op = .call { callee := .builtin .min, args := #[x, y], argTypes := #[T, U] }) (hx : Ev pc F x (.val (.int k p))) (hy : Ev pc F y (.val (.int k q))) : DOp P pc o F M [] (.val (.int k (min p q))) [] := by
 refine wH hx hy (by simp [ho, Op.operands, Call.operands]) fun _ a w e1 e2 => kR ho (fun cs => rfl) ?_
 have : (if q < p then q else p) = min p q := by rw [Int.min_def]; split <;> split <;> omega
 simp [Builtin.min_, e1, e2, Builtin.min2, this]
theorem YQ {x y : Operand} {T U : TypeId} {k : IntKind} {p q : Int} (ho : o.op = .call { callee := .builtin .max, args := #[x, y], argTypes := #[T, U] }) (hx : Ev pc F x (.val (.int k p))) (hy : Ev pc F y (.val (.int k q))) : DOp P pc o F M [] (.val (.int k (max p q))) [] := by
 refine wH hx hy (by simp [ho, Op.operands, Call.operands]) fun _ a w e1 e2 => kR ho (fun cs => rfl) ?_
 have : (if p < q then q else p) = max p q := by rw [Int.max_def]; split <;> split <;> omega
 simp [Builtin.max_, e1, e2, Builtin.max2, this]
end
section
variable {P : Program} {s0 : St} {n : Cx}
theorem VJ {F : Fr} {M : List Blk} {a : Act} {w : World} {t : Nat} (e : TypeId) (sz : Nat) (h : Inv s0 n F M a w) (ht : lk F t = some (.val (.slice none 0 0))) : Inv s0 n ((t, .arr M.length) :: F) (M ++ [.arr e sz 0 []]) a w := by
 obtain ⟨h0, s, rfl, rfl, h3, h4, h5, h6⟩ := h
 have t1 := gZ h3.ok
 have hlen := h3.ok.len
 have hn : (s.M ++ [Blk.hole])[s.M.length]? = some .hole := by simp
 have t2 : Tr ⟨s.β ++ [Value.nilFunc], s.I, s.M ++ [Blk.hole], s.w⟩ ⟨(s.β ++ [Value.nilFunc]).set s.M.length (.slice none 0 0), s.I, (s.M ++ [Blk.hole]).set s.M.length (.arr e sz 0 []), s.w⟩ :=
  g9 (s := ⟨s.β ++ [Value.nilFunc], s.I, s.M ++ [Blk.hole], s.w⟩) t1.ok (j := s.M.length) hn (.slice none 0 0) (.arr e sz 0 []) s.w (by simp) (fun b hb => by cases hb) (fun b _ => rfl) (fun b hb => by cases hb) (qbM _) rfl rfl rfl (World.ownsRow_nil s.w 0 e sz)
 have tt := t1.trans t2
 refine ⟨h0, ⟨(s.β ++ [Value.nilFunc]).set s.M.length (.slice none 0 0), s.I, (s.M ++ [Blk.hole]).set s.M.length (.arr e sz 0 []), s.w⟩, by simp, rfl, h3.trans tt, fun x d hd => ?_, h5, h6.mono h3.ok tt⟩
 rw [jx] at hd
 split at hd
 ·rename_i e'
  subst e'
  obtain rfl := qbw hd
  have := (h4 t _ ht).val_eq
  rw [this]
  exact .arr (by simp [hlen])
 ·exact (h4 x d hd).mono h3.ok tt
theorem KF {c : Code} {F : Fr} {M M' : List Blk} {K : Cont} (t : Nat) (e : TypeId) (sz : Nat) {m : Nat} (ht : lk F t = some (.val (.slice none 0 0))) (hm : M.length = m) (hM : M ++ [.arr e sz 0 []] = M') (h : dwp P s0 n c ((t, .arr m) :: F) M' K) : dwp P s0 n c F M K := by
 subst hm hM
 exact fun a w hi => h a w (VJ e sz hi ht)
end
end Go.Proofs.YtofklkbfkoliiaaGreat
namespace Go.Proofs.YtofklkbfkoliiaaGreat
set_option linter.unusedVariables false
set_option linter.unusedSimpArgs false
open Go.RowKit
theorem Gz {G : Fence} {k : Nat} {P : Program} {o : Oper} {a : Act} {K K' : Act → World → Prop} {Q Q' : Exit → Act → World → Prop} (hK : ∀ a w, K a w → K' a w) (hQ : ∀ ch a w, Q (.panic ch) a w → Q' (.panic ch) a w) (hO : LetsOut Q → LetsOut Q') :
  ∀ r, o.uponIn G k P a K Q r → o.uponIn G k P a K' Q' r := by
 intro r h
 cases r with
 | halt x w =>
  cases x with
  | panic v => exact hQ _ _ _ h
  | _ => exact h.elim
 | ok x w =>
  cases x with
  | value v => exact hK _ _ h
  | skip => exact hK _ _ h
  | defer d => exact hK _ _ h
  | enter f args => exact ⟨h.1, h.2.mono (fun e w h => by cases e with | returned v => exact hK _ _ h | panicked ch => exact hQ _ _ _ h | outgrown => exact hO h)⟩
  | row row args => exact ⟨h.1, h.2.mono fun v w => hK _ _⟩
  | round l f tmps asg body => exact ⟨h.1, h.2.mono (fun e w h => by cases e with | returned v => exact hK _ _ h | panicked ch => exact hQ _ _ _ h | outgrown => exact hO h)⟩
  | _ => exact h.elim
theorem vD {G : Fence} {k : Nat} {P : Program} {ops : Array Oper} {Q Q' : Exit → Act → World → Prop} {l2 : List Oper} (hn : ∀ a w, Q' .normal a w → wpListIn G k P ops Q l2 a w) (hp : ∀ ch a w, Q' (.panic ch) a w → Q (.panic ch) a w) (hO : ∀ a w, ¬ Q' .outgrown a w) :
  ∀ (l1 : List Oper) (a : Act) (w : World), wpListIn G k P ops Q' l1 a w → wpListIn G k P ops Q (l1 ++ l2) a w
 | [], a, w, h => hn a w h
 | o :: l1, a, w, h => by
  unfold wpListIn at h
  show if Region.wanted o (yielded ops a.tmps) then _ else _
  split at h
  ·rename_i hw
   rw [if_pos hw]
   exact ⟨h.1, Gz (fun a w => vD hn hp hO l1 a w) (fun ch a w h => hp ch a w h) (fun ⟨a, w, h⟩ => (hO a w h).elim) _ h.2⟩
  ·rename_i hw
   rw [if_neg hw]
   exact ⟨h.1, vD hn hp hO l1 _ _ h.2⟩
theorem VK {P : Program} {o : Oper} {a : Act} {x : Operand} {g : FuncId} {v1 v2 : Array Value} {w : World} (ho : o.op = .defer { callee := .value x, args := #[], argTypes := #[] }) (hx : a.eval x = .func (.func g) v1 v2) :
  (o.semAt none a.eval).run P w = .ok (.defer { target := .fn (.func g) v2, args := v1 }) w := by
 rw [Oper.semAt_none]
 unfold execOp
 simp only [ho, resolve, hx, Deferred.ofValue]
 simp [pure, bind, Sem.bind, Sem.run]
section
variable {P : Program} {s0 : St} {n : Cx}
theorem qr {fn : Func} {id : Nat} {l l0 : List Oper} {o : Oper} {y : Code} {x : Operand} {F : Fr} {M : List Blk} {m : Nat} {post pan : D → List Blk → Prop} (hl : l = l0 ++ [o]) (ho : o.op = .defer { callee := .value x, args := #[], argTypes := #[] }) (hg : o.guard = none) (hdst : o.dst = none) (hr : n.r = none) (hle : s0.M.length ≤ m)
  (h : Walk P s0 n l.toArray l0 F M (Kseq (fun F1 M1 => ∃ f first caps k', Ev true F1 x (.fn (.func f) first caps) ∧ s0.M.length ≤ k' ∧ D.ltL k' (.fn (.func f) first caps :: n.U) = true ∧ zn P s0 ⟨n.n, none, k', .fn (.func f) first caps :: n.U, n.mks⟩ fn m post pan y F1 M1) (Kret P fn m n.U post pan))) :
  zn P s0 n fn m post pan (.seq (.region id l.toArray false) y) F M := by
 intro a w hi
 have h1 := h a w hi
 have hρ : n.ρ s0 = none := by unfold Cx.ρ; rw [hr]
 rw [hρ] at h1
 refine wpIn_seq (wpIn_region_lit ?_)
 have key := vD (G := wd none) (k := 0) (P := P) (ops := l.toArray) (Q := Exit.then (fun a w => y.wpIn Fence.wide 0 P (bodyPostM Fence.wide 0 P fn (Lv s0 post pan)) a w) (bodyPostM Fence.wide 0 P fn (Lv s0 post pan))) (l2 := [o]) ?_ ?_ ?_ l0 a w h1
 ·rw [← hl] at key; exact key
 ·intro a w hp
  obtain ⟨F1, M1, ⟨h0, s1, q1, q2, q3, q4, q5, q6⟩, f, first, caps, k', ⟨d', e1, e2⟩, hk, hlt, hy⟩ := hp
  subst q1 q2
  have hrep := e2 s1 _ rfl (vY q4 e1)
  generalize hvx : a.eval x = vx at hrep
  cases hrep with
  | @fn _ _ _ vs us hl1 hl2 hr1 hr2 =>
   show if Region.wanted o (yielded l.toArray a.tmps) then _ else _
   have hw : Region.wanted o (yielded l.toArray a.tmps) = true := by unfold Region.wanted; rw [hg]
   rw [if_pos hw]
   refine ⟨fun _ _ => trivial, ?_⟩
   rw [show (wd none).round = none from rfl, VK ho hvx]
   rw [Oper.uponIn_defer, hdst]
   exact hy _ _ ⟨h0, s1, rfl, rfl, q3, q4, q5, .fn (.fn hl1 hl2 hr1 hr2) q6⟩
 ·intro ch a w hp
  obtain ⟨F, M, d, ⟨h0, s1, v, q1, q2, q3, q4, q5, q6, q7, q8⟩, hk⟩ := hp
  subst q1 q2 q7
  exact vt h0 hle a _ _ (some d) _ _ _ q6 q3 q4 ⟨v, rfl, q8⟩ hk
 ·intro a w hp
  exact hp
end
theorem GA {P : Program} {o : Oper} {a : Act} {w : World} (ho : o.op = .call { callee := .builtin .recover, args := #[], argTypes := #[] }) : (execOp a.eval o).run P w = .ok .recover w := by
 unfold execOp
 simp only [ho, resolve]
 simp [go_sem, invoke, builtin]
def yQ (u : FrameMode) : Value × FrameMode :=
 match u with
 | .panicking ({ v, recovered := false, goexit := false } :: older) => (v, .panicking ({ v, recovered := true } :: older))
 | _ => (.nilIface, u)
theorem recD (c0 : Frame) (cs : List Frame) : (recoverD (c0 :: cs) = none ∧ (yQ c0.mode).1 = .nilIface ∧ (yQ c0.mode).2 = c0.mode) ∨ recoverD (c0 :: cs) = some ((yQ c0.mode).1, { c0 with mode := (yQ c0.mode).2 } :: cs) := by
 unfold recoverD
 cases hm : c0.mode with
 | run => exact .inl ⟨by simp [hm], rfl, rfl⟩
 | returning => exact .inl ⟨by simp [hm], rfl, rfl⟩
 | panicking chain =>
  cases chain with
  | nil => exact .inl ⟨by simp [hm], rfl, rfl⟩
  | cons e older =>
   obtain ⟨v, r, g⟩ := e
   cases r with
   | true => exact .inl ⟨by simp [hm], rfl, rfl⟩
   | false =>
    cases g with
    | true => exact .inl ⟨by simp [hm], rfl, rfl⟩
    | false => exact .inr (by simp [hm, yQ])
theorem zz {P : Program} {b : Frame} {a : Act} {k : List Item} {c0 : Frame} {cs : List Frame} {w : World} {ops : Array Oper} {i : Nat} {rest : List Nat} {o : Oper} (hk : b.kind = .deferred) (hro : b.roundOf = none) (hi : ops[i]? = some o) (hg : o.guard = none)
  (ho : o.op = .call { callee := .builtin .recover, args := #[], argTypes := #[] }) :
  step P (lone (b.atR a (.inRegion ops (i :: rest) :: k)) (c0 :: cs) w) = .next (lone (b.atR (a.put o.dst (yQ c0.mode).1) (.inRegion ops rest :: k)) ({ c0 with mode := (yQ c0.mode).2 } :: cs) w) := by
 have hw : Region.wanted o (yielded ops a.tmps) = true := by unfold Region.wanted; rw [hg]
 have hfin : ∀ v, (b.atR a (.inRegion ops (i :: rest) :: k)).finish v = b.atR (a.put o.dst v) (.inRegion ops rest :: k) := by
  intro v; rw [Frame.finish_atR, hi]; rfl
 have hgr := stepGR_op (P := P) (b := b) (a := a) (k := k) (cs := c0 :: cs) (w := w) (rest := rest) hi hw
 rw [hro, Oper.semAt_none] at hgr
 have hr := GA (P := P) (a := a) (w := w) ho
 refine step_lone_go ?_
 rw [hgr, ← hfin]
 have htr := tryRecover_deferred (fr := b.atR a (.inRegion ops (i :: rest) :: k)) hk (c0 :: cs)
 simp only [Frame.atR, hro] at htr ⊢
 rcases recD c0 cs with ⟨hrec, h1, h2⟩ | hrec
 ·rw [h1, h2]
  simp [stepG.apply, hr, htr, hrec]
 ·generalize yQ c0.mode = x at hrec
  simp [stepG.apply, hr, htr, hrec]
section
variable {P : Program}
def zA : Option D → D
 | none => .val .nilIface
 | some d => d
theorem ve {s : St} {pn : Option D} {u : FrameMode} (h : ModeOk s pn u) : Rep s (zA pn) (yQ u).1 ∧ settle (yQ u).2 = .returning := by
 cases pn with
 | none => obtain rfl : u = .returning := h; exact ⟨.val _, rfl⟩
 | some d => obtain ⟨v, rfl, hr⟩ := h; exact ⟨hr, rfl⟩
theorem zB {o : Oper} {l : List Oper} : qb5 (o :: l).toArray.size = 0 :: List.range' 1 l.length := by simp [List.range_eq_range', List.range'_succ]
theorem uI {f : FuncId} {fn : Func} {N m : Nat} {s : St} {dr : D} {Mout : List Blk} {b : Frame} {m0 : Machine} {c0 : Frame} {cs : List Frame} {e : Exit} {a : Act} {w : World} (hok : Ok s) (hle : s.M.length ≤ m) (hf : P.funcs[f]? = some fn) (hbf : b.fn = f) (hbk : b.kind = .deferred) (hro : b.roundOf = none)
  (hset : settle (yQ c0.mode).2 = .returning) (hq : PostK s ⟨N, none, m, [], false⟩ (Kret P fn m [] (fun d M => d = dr ∧ M = Mout) (fun _ _ => False)) e a w)
  (harr : ArrivesIn (Machine.fenced P Fence.wide) P m0 b [] ({ c0 with mode := (yQ c0.mode).2 } :: cs) e a w) :
  ∃ e u' w' fr, (∃ s' v, e = .returned v ∧ s'.w = w' ∧ Tr s s' ∧ s'.M = Mout ∧ ModeOk s' none (settle u')) ∧
   ComesIn (Machine.fenced P Fence.wide) P m0 (lone fr ({ c0 with mode := u' } :: cs) w') e ∧ fr.kind = .deferred ∧ fr.fn = f ∧ fr.going P w' e := by
 have no_marks : ∀ {s1 : St} {ds : List Deferred}, DfOk s s1 false [] ds → ds = [] := fun h => by
  cases h with
  | nil => rfl
  | mark hmk => cases hmk
 have fin : (e = .normal ∨ e = .ret) → (∃ F M, Inv s ⟨N, none, m, [], false⟩ F M a w ∧ DEnd P fn m (fun d M => d = dr ∧ M = Mout) (fun _ _ => False) [] none F M) → a.defers = [] ∧ ∃ v s', (results fn a.tmps).run P w = .ok v w ∧ s'.w = w ∧ Tr s s' ∧ s'.M = Mout := by
  rintro _ ⟨F, M, ⟨h0, s1, rfl, rfl, q3, q4, q5, q6⟩, hk⟩
  cases hk with
  | @ret _ _ Mo _ _ σ hr hσ hv hM hp =>
   obtain ⟨v, h1, h2⟩ := hr s1 a q3.ok rfl q4
   obtain ⟨rfl, rfl⟩ := hp
   exact ⟨no_marks q6, v, vst s1 σ jS Mo, h1, rfl, vq hok q3 (jd _ _ hM) hle hσ, rfl⟩
 cases e with
 | normal =>
  obtain ⟨hd, v, s', h1, h2, h3, h4⟩ := fin (.inl rfl) hq
  refine ⟨.returned v, (yQ c0.mode).2, w, { b.atR a [] with mode := .returning }, ⟨s', v, rfl, h2, h3, h4, hset⟩, StepsIn.trans harr (.one (fenced_wide _ _) (stepR_end hro)), hbk, hbf, rfl, hd, fn, ?_, h1⟩
  show P.funcs[b.fn]? = some fn
  rw [hbf]; exact hf
 | ret =>
  obtain ⟨hd, v, s', h1, h2, h3, h4⟩ := fin (.inr rfl) hq
  obtain ⟨todo, hs⟩ := harr.1 hro
  refine ⟨.returned v, (yQ c0.mode).2, w, { b.atR a todo with mode := .returning }, ⟨s', v, rfl, h2, h3, h4, hset⟩, hs, hbk, hbf, rfl, hd, fn, ?_, h1⟩
  show P.funcs[b.fn]? = some fn
  rw [hbf]; exact hf
 | panic ch => obtain ⟨F, M, d, _, hk⟩ := hq; cases hk with | pan _ _ _ hp => exact hp.elim
 | exit id => obtain ⟨_, _, _, hk⟩ := hq; exact hk.elim
 | goto l => obtain ⟨_, _, _, hk⟩ := hq; exact hk.elim
 | outgrown => exact hq.elim
theorem GB {fn : Func} {o : Oper} {l : List Oper} {args : List D} {Min : List Blk} {pn : Option D} {N t m : Nat} {s : St} {vs : List Value} {c0 : Frame} {K : Cont} (hn : fn.ntmps = N) (hle : Nat.ble args.length N = true) (hm : Min.length = m)
  (hd : o.dst = some t) (ht : qcj t N = true) (hok : Ok s) (hM : s.M = Min) (hr : Reps s args vs) (hmode : ModeOk s pn c0.mode)
  (h : Walk P s ⟨N, none, m, [], false⟩ (o :: l).toArray l ((t, zA pn) :: fr0 0 args) Min K) :
  wpOpsIn (wd none) 0 P (o :: l).toArray (PostK s ⟨N, none, m, [], false⟩ K) (List.range' 1 l.length) (Act.put { tmps := vs.toArray ++ qb8 (fn.ntmps - vs.toArray.size) undef, defers := [] } o.dst (yQ c0.mode).1) s.w := by
 subst hm
 obtain ⟨hl, hr⟩ := hr
 have hle := qbA hle
 generalize ha : ({ tmps := vs.toArray ++ qb8 (fn.ntmps - vs.toArray.size) undef, defers := [] } : Act) = a0
 have hsize : a0.tmps.size = N := by subst ha; simp; omega
 have hslot : ∀ t d, lk (fr0 0 args) t = some d → Rep s d (ju a0 t) := by
  intro t d hd
  obtain ⟨_, h2⟩ := xc args 0 t d hd
  simp only [Nat.sub_zero] at h2
  have hlt : t < args.length := (qbq.1 h2).1
  have hv : vs[t]? = some vs[t] := qbr (by omega)
  have : ju a0 t = vs[t] := by
   subst ha
   unfold ju
   simp only [Array.getD_eq_getD_getElem?]
   rw [Array.getElem?_append_left (by simp; omega)]
   simp [show t < vs.length by omega]
  rw [this]
  exact hr t d _ h2 hv
 obtain ⟨hrec, hset⟩ := ve hmode
 have hsetup : Inv s ⟨N, none, Min.length, [], false⟩ ((t, zA pn) :: fr0 0 args) Min (a0.put o.dst (yQ c0.mode).1) s.w := by
  refine ⟨hok, s, hM, rfl, Tr.refl hok, ?_, by rw [ga]; exact hsize, ?_⟩
  ·rw [hd]
   exact FOk.put (s := s) (F := fr0 0 args) hslot (by rw [hsize]; exact Nat.blt_eq.mp ht) hrec
  ·rw [yy, ← ha]; exact .nil
 have hw := h _ _ hsetup
 rw [wpOpsIn_eq_wpListIn l 1 (by intro j; simp [Nat.add_comm 1 j])]
 exact hw
theorem jB {f : FuncId} {fn : Func} {id : Nat} {o : Oper} {l : List Oper} {args : List D} {F0 : Fr} {Min Mout : List Blk} {pn : Option D} {dr : D} {N t : Nat} (m : Nat) (hcb : yW P f = true) (hf : P.funcs[f]? = some fn)
  (hc : fn.body = some (.region id (o :: l).toArray false)) (hn : fn.ntmps = N) (hle : Nat.ble args.length N = true) (hF : fr0 0 args = F0) (hm : Min.length = m)
  (ho : o.op = .call { callee := .builtin .recover, args := #[], argTypes := #[] }) (hg : o.guard = none) (hd : o.dst = some t) (ht : qcj t N = true)
  (h : ∀ s0 : St, s0.M.length ≤ m → Walk P s0 ⟨N, none, m, [], false⟩ (o :: l).toArray l ((t, zA pn) :: F0) Min (Kret P fn m [] (fun d M => d = dr ∧ M = Mout) (fun _ _ => False))) :
  DDef P f args Min pn none Mout := by
 subst hF
 refine ⟨hcb, fun s vs u hok hM hr hmode => ⟨trivial, fun c0 cs hu hroom => ?_⟩⟩
 subst hu
 have hlen : s.M.length ≤ m := by rw [hM, hm]; exact qbM _
 have hops := GB hn hle hm hd ht hok hM hr hmode (h s hlen)
 let b : Frame := { (default : Frame) with fn := f, kind := .deferred, roundOf := none }
 have henter : Frame.enter P f vs.toArray .deferred = b.atR { tmps := vs.toArray ++ qb8 (fn.ntmps - vs.toArray.size) undef, defers := [] } [.code (.region id (o :: l).toArray false)] := by
  simp [Frame.enter, Frame.atR, hf, hc, b]
 obtain ⟨e, a', w', hq, harr⟩ := wp_opsIn _ _ _ hops b [] ({ c0 with mode := (yQ c0.mode).2 } :: cs) rfl trivial (yg _ _)
 rw [henter]
 refine uI (P := P) (b := b) hok hlen hf rfl rfl rfl (ve hmode).2 hq (ArrivesIn.of_steps (.head (fenced_wide _ _) stepR_region (.one (fenced_wide _ _) ?_)) harr)
 have := zz (P := P) (b := b) (a := { tmps := vs.toArray ++ qb8 (fn.ntmps - vs.toArray.size) undef, defers := [] }) (k := []) (c0 := c0) (cs := cs) (w := s.w) (ops := (o :: l).toArray) (i := 0) (rest := List.range' 1 l.length) (o := o) rfl rfl rfl hg ho
 rw [zB]
 exact this
theorem uJ {f : FuncId} {fn : Func} {id : Nat} {o : Oper} {l : List Oper} {y : Code} {args : List D} {F0 : Fr} {Min Mout : List Blk} {pn : Option D} {dr : D} {N t : Nat} (m : Nat) (hcb : yW P f = true) (hf : P.funcs[f]? = some fn)
  (hc : fn.body = some (.seq (.region id (o :: l).toArray false) y)) (hn : fn.ntmps = N) (hle : Nat.ble args.length N = true) (hF : fr0 0 args = F0) (hm : Min.length = m)
  (ho : o.op = .call { callee := .builtin .recover, args := #[], argTypes := #[] }) (hg : o.guard = none) (hd : o.dst = some t) (ht : qcj t N = true)
  (h : ∀ s0 : St, s0.M.length ≤ m → Walk P s0 ⟨N, none, m, [], false⟩ (o :: l).toArray l ((t, zA pn) :: F0) Min (Kseq (fun F M => dwp P s0 ⟨N, none, m, [], false⟩ y F M (Kret P fn m [] (fun d M => d = dr ∧ M = Mout) (fun _ _ => False))) (Kret P fn m [] (fun d M => d = dr ∧ M = Mout) (fun _ _ => False)))) :
  DDef P f args Min pn none Mout := by
 subst hF
 refine ⟨hcb, fun s vs u hok hM hr hmode => ⟨trivial, fun c0 cs hu hroom => ?_⟩⟩
 subst hu
 have hlen : s.M.length ≤ m := by rw [hM, hm]; exact qbM _
 have hops := GB hn hle hm hd ht hok hM hr hmode (h s hlen)
 let b : Frame := { (default : Frame) with fn := f, kind := .deferred, roundOf := none }
 have henter : Frame.enter P f vs.toArray .deferred = b.atR { tmps := vs.toArray ++ qb8 (fn.ntmps - vs.toArray.size) undef, defers := [] } [.code (.seq (.region id (o :: l).toArray false) y)] := by
  simp [Frame.enter, Frame.atR, hf, hc, b]
 obtain ⟨e, a', w', hq, harr⟩ := wp_opsIn _ _ _ hops b [.code y] ({ c0 with mode := (yQ c0.mode).2 } :: cs) rfl trivial (yg _ _)
 rw [henter]
 have pre : StepsIn (Machine.fenced P Fence.wide) P (lone (b.atR { tmps := vs.toArray ++ qb8 (fn.ntmps - vs.toArray.size) undef, defers := [] } [.code (.seq (.region id (o :: l).toArray false) y)]) (c0 :: cs) s.w)
   (lone (b.atR (Act.put { tmps := vs.toArray ++ qb8 (fn.ntmps - vs.toArray.size) undef, defers := [] } o.dst (yQ c0.mode).1) (.inRegion (o :: l).toArray (List.range' 1 l.length) :: [.code y])) ({ c0 with mode := (yQ c0.mode).2 } :: cs) s.w) := by
  refine .head (fenced_wide _ _) stepR_seq (.head (fenced_wide _ _) stepR_region (.one (fenced_wide _ _) ?_))
  have := zz (P := P) (b := b) (a := { tmps := vs.toArray ++ qb8 (fn.ntmps - vs.toArray.size) undef, defers := [] }) (k := [.code y]) (c0 := c0) (cs := cs) (w := s.w) (ops := (o :: l).toArray) (i := 0) (rest := List.range' 1 l.length) (o := o) rfl rfl rfl hg ho
  rw [zB]
  exact this
 have other : ∀ e : Exit, e ≠ .normal → PostK s ⟨N, none, m, [], false⟩ (Kseq (fun F M => dwp P s ⟨N, none, m, [], false⟩ y F M (Kret P fn m [] (fun d M => d = dr ∧ M = Mout) (fun _ _ => False))) (Kret P fn m [] (fun d M => d = dr ∧ M = Mout) (fun _ _ => False))) e a' w' →
   PostK s ⟨N, none, m, [], false⟩ (Kret P fn m [] (fun d M => d = dr ∧ M = Mout) (fun _ _ => False)) e a' w' := by
  intro e he hq
  cases e with
  | normal => exact absurd rfl he
  | exit id => exact hq
  | goto l => exact hq
  | ret => exact hq
  | panic ch => exact hq
  | outgrown => exact hq
 by_cases he : e = .normal
 ·subst he
  obtain ⟨F, M, hi, hk⟩ := hq
  obtain ⟨e2, a2, w2, hq2, harr2⟩ := hk a' w' hi b [] ({ c0 with mode := (yQ c0.mode).2 } :: cs) rfl trivial (yg _ _)
  exact uI (P := P) (b := b) hok hlen hf rfl rfl rfl (ve hmode).2 hq2 (ArrivesIn.of_steps (StepsIn.trans pre harr) harr2)
 ·exact uI (P := P) (b := b) hok hlen hf rfl rfl rfl (ve hmode).2 (other e he hq) (ArrivesIn.of_steps pre (.pass (x := .code y) rfl (fun _ _ => .inl he) harr))
theorem W5 {s : St} {σ : List Nat} {V : Nat → Bool} {Min : List Blk} {f : Fn} {d1 d2 cargs : List D} {vs us : List Value} (hok : Ok s) (hr : Rep s (.fn f d1 d2) (.func f vs.toArray us.toArray)) (hc : vwL σ V s.M (d1 ++ d2) = some cargs) : Reps (vst s σ V Min) cargs (vs ++ us) := by
 generalize hvs : vs.toArray = va at hr
 generalize hus : us.toArray = ua at hr
 cases hr with
 | @fn _ _ _ vs' us' hl1 hl2 hr1 hr2 =>
  have e1 : vs' = vs := by simpa using congrArg Array.toList hvs.symm
  have e2 : us' = us := by simpa using congrArg Array.toList hus.symm
  subst e1 e2
  have hall : Reps s (d1 ++ d2) (vs' ++ us') := by
   refine ⟨by simp [hl1, hl2], fun j e v hj hv => ?_⟩
   by_cases h1 : j < d1.length
   ·rw [qbI h1] at hj
    rw [qbI (by omega)] at hv
    exact hr1 j e v hj hv
   ·rw [qbO (by omega)] at hj
    rw [qbO (by omega), hl1] at hv
    exact hr2 _ e v hj hv
  obtain ⟨g1, g2⟩ := yl _ _ hc
  refine ⟨by rw [hall.1, g1], fun j e v hj hv => ?_⟩
  obtain ⟨y, hy, hy2⟩ := g2 j e hj
  exact j8 hok (hall.2 j y v hy hv) e hy2
theorem kL {f : FuncId} {first caps cargs : List D} {M Min Mout M' : List Blk} {wr : List (Nat × Blk)} (σ ν : List Nat) (hc : vwL σ nov M (first ++ caps) = some cargs) (hMin : gl σ nov M σ = some Min) (hf : DDef P f cargs Min none none Mout)
  (hlive : Min.all (·.live) = true) (hn : decide (σ ++ ν).Nodup = true) (hν : ν.all (fun i => match M[i]? with | some .hole => true | _ => false) = true) (hwr : yt (σ ++ ν) (σ ++ ν) Mout = some wr) (hM' : upd M wr = M') : DTurn P f first caps none M none M' := by
 subst hM'
 refine ⟨hf.1, fun s vs us u hok hM hrep hmode => ?_⟩
 subst hM
 have hn' : (σ ++ ν).Nodup := of_decide_eq_true hn
 have hcr : Reps (vst s σ nov Min) cargs (vs ++ us) := by
  exact W5 hok hrep hc
 refine CallsDIn.mono (hf.2 (vst s σ nov Min) (vs ++ us) u (vp hok hMin (List.nodup_append.1 hn').1) rfl hcr hmode) ?_
 rintro e u' w' ⟨s2, v, rfl, rfl, ht, hM2, hm⟩
 have hν' : ∀ i ∈ ν, s.M[i]? = some .hole := fun i hi => by
  have h1 := qbX.1 hν i hi
  split at h1
  ·rename_i h2; exact h2
  ·cases h1
 obtain ⟨q1, _⟩ := gD (M3 := upd s.M wr) hok hMin hlive hn' hν' ht hM2 hwr rfl fun ⟨i, h⟩ => by cases h
 exact ⟨back s s2 σ nov ν (upd s.M wr), v, rfl, rfl, q1, rfl, hm⟩
theorem qQ {f : FuncId} {first caps cargs : List D} {M Min Mout M' : List Blk} {wr : List (Nat × Blk)} {d d0 : D} (σ ν : List Nat) (hc : vwL σ nov M (first ++ caps) = some cargs) (hMin : gl σ nov M σ = some Min) (hd : vw σ nov M d = some d0) (hf : DDef P f cargs Min (some d0) none Mout)
  (hlive : Min.all (·.live) = true) (hn : decide (σ ++ ν).Nodup = true) (hν : ν.all (fun i => match M[i]? with | some .hole => true | _ => false) = true) (hwr : yt (σ ++ ν) (σ ++ ν) Mout = some wr) (hM' : upd M wr = M') : DTurn P f first caps (some d) M none M' := by
 subst hM'
 refine ⟨hf.1, fun s vs us u hok hM hrep hmode => ?_⟩
 subst hM
 have hn' : (σ ++ ν).Nodup := of_decide_eq_true hn
 have hcr : Reps (vst s σ nov Min) cargs (vs ++ us) := by
  exact W5 hok hrep hc
 obtain ⟨v, rfl, hv⟩ := hmode
 refine CallsDIn.mono (hf.2 (vst s σ nov Min) (vs ++ us) _ (vp hok hMin (List.nodup_append.1 hn').1) rfl hcr ⟨v, rfl, j8 hok hv d0 hd⟩) ?_
 rintro e u' w' ⟨s2, v', rfl, rfl, ht, hM2, hm⟩
 have hν' : ∀ i ∈ ν, s.M[i]? = some .hole := fun i hi => by
  have h1 := qbX.1 hν i hi
  split at h1
  ·rename_i h2; exact h2
  ·cases h1
 obtain ⟨q1, _⟩ := gD (M3 := upd s.M wr) hok hMin hlive hn' hν' ht hM2 hwr rfl fun ⟨i, h⟩ => by cases h
 exact ⟨back s s2 σ nov ν (upd s.M wr), v', rfl, rfl, q1, rfl, hm⟩
def rv (tmps : Array Value) : ResultVar → Sem Value
 | .tmp t => pure (tmps.getD t undef)
 | .cell p t => do loadVar t (← asAddr (tmps.getD p undef))
def RvD (P : Program) (r : ResultVar) (F : Fr) (M : List Blk) (d : D) : Prop := ∀ (s : St) (a : Act), Ok s → s.M = M → FOk s F a → ∃ v, (rv a.tmps r).run P s.w = .ok v s.w ∧ Rep s d v
theorem ue (fn : Func) (tmps : Array Value) : results fn tmps = (do let vs ← fn.results.mapM (rv tmps); pure (if h : vs.size = 1 then vs[0] else .tuple vs)) := by
 unfold results
 congr 1
section
variable {fn : Func} {F : Fr} {M : List Blk} {r1 r2 r3 r4 : ResultVar} {d1 d2 d3 d4 d : D}
theorem rs1 (h : fn.results = #[r1]) (h1 : RvD P r1 F M d1) : ResD P fn F M d1 := fun s a ho hM hF => by
 obtain ⟨v1, e1, q1⟩ := h1 s a ho hM hF
 refine ⟨v1, ?_, q1⟩
 rw [ue, h]; simp [Sem.run_bind, e1]
theorem rs2 (h : fn.results = #[r1, r2]) (h1 : RvD P r1 F M d1) (h2 : RvD P r2 F M d2) : ResD P fn F M (.tup [d1, d2]) := fun s a ho hM hF => by
 obtain ⟨v1, e1, q1⟩ := h1 s a ho hM hF
 obtain ⟨v2, e2, q2⟩ := h2 s a ho hM hF
 refine ⟨.tuple #[v1, v2], ?_, Rep.tup (vs := [v1, v2]) rfl fun j x y hj hy => ?_⟩
 ·rw [ue, h]; simp [Sem.run_bind, e1, e2]
 ·match j with
  | 0 => simp at hj hy; subst hj; subst hy; exact q1
  | 1 => simp at hj hy; subst hj; subst hy; exact q2
  | j + 2 => simp at hj
theorem rs3 (h : fn.results = #[r1, r2, r3]) (h1 : RvD P r1 F M d1) (h2 : RvD P r2 F M d2) (h3 : RvD P r3 F M d3) : ResD P fn F M (.tup [d1, d2, d3]) := fun s a ho hM hF => by
 obtain ⟨v1, e1, q1⟩ := h1 s a ho hM hF
 obtain ⟨v2, e2, q2⟩ := h2 s a ho hM hF
 obtain ⟨v3, e3, q3⟩ := h3 s a ho hM hF
 refine ⟨.tuple #[v1, v2, v3], ?_, Rep.tup (vs := [v1, v2, v3]) rfl fun j x y hj hy => ?_⟩
 ·rw [ue, h]; simp [Sem.run_bind, e1, e2, e3]
 ·match j with
  | 0 => simp at hj hy; subst hj; subst hy; exact q1
  | 1 => simp at hj hy; subst hj; subst hy; exact q2
  | 2 => simp at hj hy; subst hj; subst hy; exact q3
  | j + 3 => simp at hj
theorem qL {t : Tmp} (h : lk F t = some d) : RvD P (.tmp t) F M d := fun s a _ _ hF => ⟨_, rfl, hF t d h⟩
theorem yv {p : Tmp} {T T' : TypeId} {i k : Nat} {L : List Value} (hT : tyB P T = some (true, k)) (h : lk F p = some (.loc i 0)) (hM : M[i]? = some (.flat T' L)) (hl : L.length = k) : RvD P (.cell p T) F M (.val (.agg L.toArray)) := fun s a ho hMs hF => by
 subst hMs
 have hv := hF p _ h
 generalize hvx : ju a p = vx at hv
 cases hv with
 | @loc _ _ b hb =>
  obtain ⟨b', e1, e2⟩ := ho.blk i _ _ hM hb
  cases e1
  obtain ⟨dd, ii, h1, h2, h3, h4⟩ := gw hT
  refine ⟨_, ?_, .val _⟩
  have hvx' : a.tmps.getD p undef = .pointer (some ⟨b, 0, none⟩) := hvx
  simp only [rv, hvx']
  simp only [asAddr, Sem.run_bind, Sem.run_pure, Result.andThen_ok]
  exact run_loadVar_row s.w b T' T L.toArray (0, 0) dd e2 h1 (by cases dd <;> simp_all [TypeDesc.isRow]) (by simp [h2, h4, hl])
theorem js {p : Tmp} {T T' : TypeId} {i k : Nat} {v : Value} {L : List Value} (hT : tyB P T = some (false, k)) (h : lk F p = some (.loc i 0)) (hM : M[i]? = some (.flat T' L)) (hl : L[0]? = some v) : RvD P (.cell p T) F M (.val v) := fun s a ho hMs hF => by
 subst hMs
 have hv := hF p _ h
 generalize hvx : ju a p = vx at hv
 cases hv with
 | @loc _ _ b hb =>
  obtain ⟨b', e1, e2⟩ := ho.blk i _ _ hM hb
  cases e1
  obtain ⟨dd, ii, h1, h2, h3, h4⟩ := gw hT
  refine ⟨v, ?_, .val _⟩
  have hvx' : a.tmps.getD p undef = .pointer (some ⟨b, 0, none⟩) := hvx
  have hc : s.w.cell? ⟨b, 0, none⟩ = some v := by rw [cell_of_row s.w b 0 L.toArray T' (0, 0) e2]; simpa using hl
  have hagg : (isAgg T).run P s.w = .ok false s.w := by
   unfold isAgg
   rw [Sem.run_bind, run_underlying h1]
   cases dd <;> simp_all [TypeDesc.isRow]
  simp only [rv, hvx']
  simp [asAddr, loadVar, Sem.run_bind, hagg, load, Sem.run, hc]
end
section
variable {pc : Bool} {o : Oper} {F : Fr} {M : List Blk}
def niF (P : Program) (T : TypeId) : Bool := match P.underlying T with
 | some (.interface _) => false
 | some _ => true
 | none => false
def zrV (P : Program) (T : TypeId) : Option Value := (P.info? T).bind (·.zero)
theorem xy {T : TypeId} {x : Operand} {d : D} (ho : o.op = .makeInterface T x) (hT : niF P T = true) (hx : Ev pc F x d) : DOp P pc o F M [] (.ifc T d) [] := by
 intro hp a s hok hops _
 have h1 := qu hp hx (by simp [ho, Op.operands]) hops
 refine qU (v := .iface T (a.eval x)) hok ?_ (.ifc h1)
 unfold execOp
 simp only [ho]
 refine k6 ?_
 unfold niF at hT
 unfold Instr.makeInterface
 split at hT
 ·cases hT
 ·rename_i dd hne hu
  rw [Sem.run_bind, run_underlying hu]
  simp only [Result.andThen_ok]
  cases dd <;> simp_all
 ·cases hT
theorem Jy {T X : TypeId} {x : Operand} {d : D} (ho : o.op = .typeAssert x X T true) (hT : niF P T = true) (hx : Ev pc F x (.ifc T d)) : DOp P pc o F M [] (.tup [d, .val (.bool true)]) [] := by
 intro hp a s hok hops _
 have h1 := qu hp hx (by simp [ho, Op.operands]) hops
 generalize hv : a.eval x = v at h1
 cases h1 with
 | @ifc _ _ u h1 =>
  refine qU (v := .tuple #[u, .bool true]) hok ?_ (Rep.tup (vs := [u, .bool true]) rfl fun j y z hj hz => ?_)
  ·unfold execOp
   simp only [ho]
   refine k6 ?_
   unfold niF at hT
   unfold Instr.typeAssert
   split at hT
   ·cases hT
   ·rename_i dd hne hu
    rw [Sem.run_bind, run_underlying hu]
    simp only [Result.andThen_ok, hv]
    split <;> simp_all
   ·cases hT
  ·match j with
   | 0 => simp at hj hz; subst hj; subst hz; exact h1
   | 1 => simp at hj hz; subst hj; subst hz; exact .val _
   | j + 2 => simp at hj
theorem Jz {T X : TypeId} {x : Operand} {z : Value} (ho : o.op = .typeAssert x X T true) (hT : niF P T = true) (hz : zrV P T = some z) (hx : Ev pc F x (.val .nilIface)) : DOp P pc o F M [] (.tup [.val z, .val (.bool false)]) [] := by
 intro hp a s hok hops _
 have h1 := (qu hp hx (by simp [ho, Op.operands]) hops).val_eq
 refine qU (v := .tuple #[z, .bool false]) hok ?_ (Rep.tup (vs := [z, .bool false]) rfl fun j y q hj hq => ?_)
 ·unfold execOp
  simp only [ho]
  refine k6 ?_
  unfold niF at hT
  unfold Instr.typeAssert
  have hzr : (zeroValue T).run P s.w = .ok z s.w := by
   unfold zrV at hz
   obtain ⟨i, hi, hz⟩ := Option.bind_eq_some_iff.1 hz
   simp [zeroValue, typeInfo, hi, hz]
  split at hT
  ·cases hT
  ·rename_i dd hne hu
   rw [Sem.run_bind, run_underlying hu]
   simp only [Result.andThen_ok, h1]
   split <;> simp_all
  ·cases hT
 ·match j with
  | 0 => simp at hj hq; subst hj; subst hq; exact .val _
  | 1 => simp at hj hq; subst hj; subst hq; exact .val _
  | j + 2 => simp at hj
theorem wg {T : TypeId} {x : Operand} {d : D} (ho : o.op = .panic x) (hx : Ev pc F x (.ifc T d)) : DOpP P pc o F M [] (.ifc T d) [] := by
 intro hp a s hok hops _
 have h1 := qu hp hx (by simp [ho, Op.operands]) hops
 have hr := h1
 generalize hv : a.eval x = v at h1
 cases h1 with
 | @ifc _ _ u h1 =>
  have : (execOp a.eval o).run P s.w = .halt (.panic (.iface T u)) s.w := by
   unfold execOp
   simp only [ho, hv, Instr.panic]
   simp [goPanic, Sem.run_bind, Sem.run, Sem.bind, bind]
  rw [this]
  exact ⟨s, rfl, Tr.refl hok, rfl, by rw [hv] at hr; exact hr⟩
end
end
end Go.Proofs.YtofklkbfkoliiaaGreat
namespace Go.Proofs.YtofklkbfkoliiaaGreat
set_option linter.unusedVariables false
set_option linter.unusedSimpArgs false
open Go.RowKit
theorem GC {s : St} {l k : List D} {vs us : List Value} (h : Reps s l vs) (h' : Reps s k us) : Reps s (l ++ k) (vs ++ us) := by
 refine ⟨by simp [h.1, h'.1], fun j e v hj hv => ?_⟩
 have hl := h.1
 by_cases h1 : j < l.length
 ·rw [qbI h1] at hj
  rw [qbI (by omega)] at hv
  exact h.2 j e v hj hv
 ·rw [qbO (by omega)] at hj
  rw [qbO (by omega), hl] at hv
  exact h'.2 _ e v hj hv
theorem W6 {s : St} {d : D} {v : Value} (h : Rep s d v) : Reps s [d] [v] := ⟨rfl, fun j e u hj hu => by
 cases j with
 | zero => simp at hj hu; subst hj; subst hu; exact h
 | succ j => simp at hj⟩
theorem JA {s : St} {σ : List Nat} {V : Nat → Bool} {Min : List Blk} {l l' : List D} {vs : List Value} (hok : Ok s) (h : Reps s l vs) (hc : vwL σ V s.M l = some l') : Reps (vst s σ V Min) l' vs := by
 obtain ⟨g1, g2⟩ := yl _ _ hc
 refine ⟨by rw [h.1, g1], fun j e v hj hv => ?_⟩
 obtain ⟨y, hy, hy2⟩ := g2 j e hj
 exact j8 hok (h.2 j y v hy hv) e hy2
theorem W7 {s : St} (ho : Ok s) (o : Obj) : Tr s ⟨s.β, s.I, s.M, s.w.alloc o⟩ := by
 have keep : ∀ b, b < s.w.heap.size → (s.w.alloc o).heap[b]? = s.w.heap[b]? := fun b h => Below.heap_alloc _ _ _ h
 refine ⟨⟨ho.len, fun i k h h1 h2 => BlkOk.mono (s := s) (s' := ⟨s.β, s.I, s.M, s.w.alloc o⟩) (fun _ _ h _ => h) (fun _ h => h) (fun b hI => keep b (ho.il b hI)) (ho.blk i k h h1 h2) (fun b hl hb => keep b (ho.lt b (qq h1 hl h2 hb)).1), fun b hb => ?_, ho.inj, fun b hI => ?_⟩,
  hkeep.refl _, fun _ h => h, fun b h => .inl h, fun b hb _ => keep b hb, fun _ h => .inr h, rfl, rfl, rfl, by simp⟩
 ·have := ho.lt b hb
  exact ⟨by simp; omega, this.2⟩
 ·have := ho.il b hI
  simp; omega
theorem JB {s : St} (ho : Ok s) {g : Option FuncId} {i l N : Nat} {F : Fr} {ps : Array Tmp} {asg body : Code} {st : LoopState} {pe : Option Code} {fn : FuncId} {tmps : Array Value} {Df : Nat} (st' : LoopState) (pe' : Option Code) (hM : s.M[i]? = some (.lp g N F ps asg body st pe)) (hβ : s.β[i]? = some (.pointer (some ⟨l, 0, none⟩)))
  (hh : s.w.heap[l]? = some (yf (g.getD fn) tmps Df ps asg body st pe)) (hsz : tmps.size = N) (hF : ∀ t d, lk F t = some d → Rep s d (tmps.getD t undef)) :
  Tr s ⟨s.β, s.I, s.M.set i (.lp g N F ps asg body st' pe'), s.w.putObj l (yf (g.getD fn) tmps Df ps asg body st' pe')⟩ := by
 have hlt : l < s.w.heap.size := (Array.getElem?_eq_some_iff.1 hh).1
 have hli : Live s l := ⟨i, _, _, hM, rfl, hβ, rfl⟩
 have hset : s.β.set i (.pointer (some ⟨l, 0, none⟩)) = s.β := by
  apply List.ext_getElem?
  intro j
  by_cases e : i = j
  ·subst e; rw [qbG (qbq.1 hβ).1, hβ]
  ·rw [qbC e]
 have := kV ho i s.M (.pointer (some ⟨l, 0, none⟩)) (.lp g N F ps asg body st' pe') (s.w.putObj l (yf (g.getD fn) tmps Df ps asg body st' pe')) rfl (fun _ _ h => .inl h) (qbq.1 hM).1 (.inr (.inl hβ)) (by simp)
  ⟨l, fn, tmps, Df, rfl, World.putObj_heap_same hlt, hsz, fun t d hd => ?_⟩ (fun b hb j k h hne h1 h2 h3 h4 => ?_) (fun b hb => .inr (by cases hb; exact hli)) (fun b hb => by cases hb; simpa using hlt) (fun _ => False) (fun _ h => h.elim) (fun b _ hb _ => World.putObj_heap_other fun e => hb (by rw [e]; rfl)) rfl rfl rfl (by simp)
 ·rw [hset] at this; exact this
 ·rw [hset]
  refine Rep.mono' (s := s) (s' := ⟨s.β, s.I, s.M.set i (.lp g N F ps asg body st' pe'), s.w.putObj l (yf (g.getD fn) tmps Df ps asg body st' pe')⟩) (fun _ _ h _ => h) (fun _ h => h) (fun b hb => World.putObj_heap_other fun e => ?_) (hF t d hd)
  exact (ho.lt l hli).2 (e ▸ hb)
 ·have := ho.inj i j _ k _ h b hM rfl hβ hb h1 h2 h3 h4
  exact hne this.symm
def VL : List Tmp → List D → Fr → Fr
 | p :: ps, d :: ds, F => VL ps ds ((p, d) :: F)
 | _, _, F => F
theorem JC {s : St} : ∀ (ps : List Tmp) (ds : List D) (vs : List Value) (F : Fr) (a : Act), Reps s ds vs → ps.length = ds.length → (∀ p ∈ ps, p < a.tmps.size) → FOk s F a →
  FOk s (VL ps ds F) { a with tmps := (ps.zip vs).foldl (fun t (p, v) => t.setIfInBounds p v) a.tmps } ∧ ((ps.zip vs).foldl (fun (t : Array Value) (p, v) => t.setIfInBounds p v) a.tmps).size = a.tmps.size
 | [], [], vs, F, a, _, _, _, h => ⟨h, rfl⟩
 | p :: ps, d :: ds, [], F, a, hr, _, _, _ => by have := hr.1; simp at this
 | p :: ps, d :: ds, v :: vs, F, a, hr, hl, hp, h => by
  have h1 : Rep s d v := hr.2 0 d v rfl rfl
  have h2 : Reps s ds vs := ⟨by simpa using hr.1, fun j e u hj hu => hr.2 (j + 1) e u (by simpa using hj) (by simpa using hu)⟩
  have := JC ps ds vs ((p, d) :: F) (a.put (some p) v) h2 (by simpa using hl) (fun q hq => by rw [ga]; exact hp q (qb4 _ hq)) (h.put (hp p (qb1 ..)) h1)
  rw [ga] at this
  exact this
 | [], d :: ds, vs, F, a, _, hl, _, _ => by simp at hl
 | p :: ps, [], vs, F, a, _, hl, _, _ => by simp at hl
section
variable {P : Program}
def DRound (P : Program) (i : Nat) (args : List D) (Min : List Blk) (r : Bool) (Mout : List Blk) : Prop :=
 ∀ (s : St) (vs : List Value) (l : Nat), Ok s → s.M = Min → s.β[i]? = some (.pointer (some ⟨l, 0, none⟩)) → Reps s args vs →
  ∃ f tmps asg body, (Instr.yield l vs.toArray).run P s.w = .ok (.round l f tmps asg body) s.w ∧
   RoundIn Fence.wide 0 P l f tmps asg body s.w fun e w' => ∃ s', e = .returned (.bool r) ∧ s'.w = w' ∧ Tr s s' ∧ s'.M = Mout
def Krnd (g : Option FuncId) (m i : Nat) (N : Nat) (F : Fr) (ps : Array Tmp) (asg body : Code) (r : Bool) (Mout : List Blk) : Cont
 | .normal, _, M => r = true ∧ M[i]? = some (.lp g N F ps asg body .busy none) ∧ ∃ σ, okσ m σ = true ∧ MFits σ jS (M.set i (.lp g N F ps asg body .ready none)) σ Mout
 | .ret, _, M => r = false ∧ M[i]? = some (.lp g N F ps asg body .busy none) ∧ ∃ σ, okσ m σ = true ∧ MFits σ jS (M.set i (.lp g N F ps asg body .done (some .ret))) σ Mout
 | .exit id, _, M => r = false ∧ M[i]? = some (.lp g N F ps asg body .busy none) ∧ ∃ σ, okσ m σ = true ∧ MFits σ jS (M.set i (.lp g N F ps asg body .done (some (.exit id)))) σ Mout
 | .goto id, _, M => r = false ∧ M[i]? = some (.lp g N F ps asg body .busy none) ∧ ∃ σ, okσ m σ = true ∧ MFits σ jS (M.set i (.lp g N F ps asg body .done (some (.goto id)))) σ Mout
 | .panic _, _, _ => False
theorem yJ {g : Option FuncId} {i N : Nat} {F F1 : Fr} {ps : Array Tmp} {asg body : Code} {args : List D} {Min Mout : List Blk} {r : Bool} (m : Nat) (hMi : Min[i]? = some (.lp g N F ps asg body .ready none)) (hps : ps.size = args.length) (hpN : ps.all (fun p => qcj p N) = true) (hF : VL ps.toList args F = F1) (hm : Min.length = m)
  (h : ∀ s0 : St, s0.M.length ≤ m → dwp P s0 ⟨N, some i, m, [], false⟩ asg F1 Min (Kseq (fun F2 M2 => M2[i]? = some (.lp g N F ps asg body .ready none) ∧ dwp P s0 ⟨N, some i, m, [], false⟩ body F2 (M2.set i (.lp g N F ps asg body .busy none)) (Krnd g m i N F ps asg body r Mout)) (fun _ _ _ => False))) :
  DRound P i args Min r Mout := by
 subst hm hF
 intro s vs l hok hM hβ hr
 subst hM
 obtain ⟨l', fn, tmps, Df, e1, e2, e3, e4⟩ := hok.blk i _ _ hMi hβ
 cases e1
 have hrun := run_yield (P := P) (args := vs.toArray) e2 (by simp [hr.1, hps])
 refine ⟨g.getD fn, _, asg, body, hrun, roundIn_of_wpIn trivial ?_⟩
 have hρ : (Cx.mk N (some i) s.M.length [] false).ρ s = some l := by simp [Cx.ρ, hβ]
 have hs := h s (qbM _)
 have hset := JC (s := s) ps.toList args vs F { tmps, defers := [] } hr (by simpa using hps) (fun p hp => by
  have := Array.all_eq_true_iff_forall_mem.1 hpN p (by simpa using hp)
  rw [e3]; exact Nat.blt_eq.mp this) e4
 have hz : (ps.zip vs.toArray).foldl (fun t (p, v) => t.setIfInBounds p v) tmps = (ps.toList.zip vs).foldl (fun t (p, v) => t.setIfInBounds p v) tmps := by
  rw [← Array.foldl_toList]; simp
 rw [hz]
 have hinv : Inv s ⟨N, some i, s.M.length, [], false⟩ (VL ps.toList args F) s.M { tmps := (ps.toList.zip vs).foldl (fun t (p, v) => t.setIfInBounds p v) tmps, defers := [] } s.w :=
  ⟨hok, s, rfl, rfl, Tr.refl hok, hset.1, hset.2.trans e3, .nil⟩
 have h1 := hs _ _ hinv
 rw [hρ] at h1
 refine wpIn_mono h1 ?_
 intro e a w hp
 cases e with
 | normal =>
  obtain ⟨F2, M2, ⟨h0, s1, q1, q2, q3, q4, q5, q6⟩, hM2, hbody⟩ := hp
  subst q2
  have hβ1 := q3.hnd.1 i _ hβ (by simp) (by simp)
  have hM1 : s1.M[i]? = some (.lp g N F ps asg body .ready none) := by rw [q1]; exact hM2
  obtain ⟨l1, fn1, tmps1, Df1, g1, g2, g3, g4⟩ := q3.ok.blk i _ _ hM1 hβ1
  cases g1
  have ht := JB q3.ok .busy none hM1 hβ1 g2 g3 g4
  refine ⟨_, run_beginRound g2 rfl, ?_⟩
  have hb := hbody a _ ⟨h0, ⟨s1.β, s1.I, s1.M.set i (.lp g N F ps asg body .busy none), s1.w.putObj l (yf (g.getD fn1) tmps1 Df1 ps asg body .busy none)⟩, by rw [q1], rfl, q3.trans ht, q4.mono q3.ok ht, q5, q6.mono q3.ok ht⟩
  rw [hρ] at hb
  refine wpIn_mono hb ?_
  have fin : ∀ (jump : Option Code) (M : List Blk) (w : World) (s3 : St), s3.M = M → s3.w = w → Tr s s3 → M[i]? = some (.lp g N F ps asg body .busy none) → (∃ σ, okσ s.M.length σ = true ∧ MFits σ jS (M.set i (.lp g N F ps asg body (if jump.isNone then .ready else .done) jump)) σ Mout) →
    ∃ v w', (Instr.endRound l jump).run P w = .ok v w' ∧ ∃ s', Ending.returned v = .returned (.bool jump.isNone) ∧ s'.w = w' ∧ Tr s s' ∧ s'.M = Mout := by
   rintro jump M w s3 rfl rfl ht3 hMb ⟨σ, hσ, hMo⟩
   have hβ3 := ht3.hnd.1 i _ hβ (by simp) (by simp)
   obtain ⟨l3, fn3, tmps3, Df3, k1, k2, k3, k4⟩ := ht3.ok.blk i _ _ hMb hβ3
   cases k1
   have ht4 := ht3.trans (JB ht3.ok (if jump.isNone then .ready else .done) jump hMb hβ3 k2 k3 k4)
   refine ⟨_, _, run_endRound jump k2, vst ⟨s3.β, s3.I, s3.M.set i (.lp g N F ps asg body (if jump.isNone then .ready else .done) jump), s3.w.putObj l (yf (g.getD fn3) tmps3 Df3 ps asg body (if jump.isNone then .ready else .done) jump)⟩ σ jS Mout, rfl, rfl, vq hok ht4 (jd σ Mout hMo) (qbM _) hσ, rfl⟩
  intro e a w hp
  cases e with
  | normal => obtain ⟨F3, M3, ⟨_, s3, r1, r2, r3, r4, r5, r6⟩, rfl, k2, k3⟩ := hp; exact fin none M3 w s3 r1 r2 r3 k2 k3
  | ret => obtain ⟨F3, M3, ⟨_, s3, r1, r2, r3, r4, r5, r6⟩, rfl, k2, k3⟩ := hp; exact fin (some .ret) M3 w s3 r1 r2 r3 k2 k3
  | exit id => obtain ⟨F3, M3, ⟨_, s3, r1, r2, r3, r4, r5, r6⟩, rfl, k2, k3⟩ := hp; exact fin (some (.exit id)) M3 w s3 r1 r2 r3 k2 k3
  | goto id => obtain ⟨F3, M3, ⟨_, s3, r1, r2, r3, r4, r5, r6⟩, rfl, k2, k3⟩ := hp; exact fin (some (.goto id)) M3 w s3 r1 r2 r3 k2 k3
  | panic ch => obtain ⟨_, _, _, _, hk⟩ := hp; exact hk
  | outgrown => exact hp
 | ret => obtain ⟨_, _, _, hk⟩ := hp; exact hk
 | exit id => obtain ⟨_, _, _, hk⟩ := hp; exact hk
 | goto id => obtain ⟨_, _, _, hk⟩ := hp; exact hk
 | panic ch => obtain ⟨_, _, _, _, hk⟩ := hp; exact hk
 | outgrown => exact hp
theorem KG {o : Oper} {a : Act} {x : Operand} {asL : List Operand} {tys : Array TypeId} {l : Nat} {w : World} (ho : o.op = .call { callee := .value x, args := asL.toArray, argTypes := tys }) (hx : a.eval x = .func (.yield l) #[] #[]) :
  (execOp a.eval o).run P w = (Instr.yield l (asL.map a.eval).toArray).run P w := by
 unfold execOp
 simp only [ho, resolve, hx, Deferred.ofValue]
 simp [invoke, Sem.run_bind, Result.andThen]
section
variable {s0 : St} {n : Cx} {ops : Array Oper}
theorem GD {pc : Bool} {o : Oper} {F : Fr} {M Min Mout : List Blk} {x : Operand} {asL : List Operand} {tys : Array TypeId} {ds cargs : List D} {i j : Nat} {r : Bool} {wr : List (Nat × Blk)} (σ V ν : List Nat)
  (ho : o.op = .call { callee := .value x, args := asL.toArray, argTypes := tys }) (hx : Ev pc F x (.yld j)) (hds : EvL pc F asL ds) (hij : σ[i]? = some j)
  (hc : vwL σ (fun i => V.contains i) M ds = some cargs) (hMin : gl σ (fun i => V.contains i) M σ = some Min) (hy : DRound P i cargs Min r Mout)
  (hlive : Min.all (·.live) = true) (hn : decide (σ ++ ν).Nodup = true) (hν : ν.all (fun i => match M[i]? with | some .hole => true | _ => false) = true)
  (hwr : yt (σ ++ ν) (σ ++ ν) Mout = some wr) (hfl : (V.isEmpty || Mout.all (·.fl)) = true) : DOp P pc o F M (σ ++ V ++ ν) (.val (.bool r)) wr := by
 intro hp a s hok hops hfp
 have hVM : ∀ i, V.contains i = true → M[i]? = s.M[i]? := fun i hi => (hfp i (by simp at hi; simp [hi])).symm
 rw [gm hVM] at hc
 rw [vu hVM σ (fun i hi => (hfp i (by simp [hi])).symm)] at hMin
 have hopx : x ∈ o.op.operands ∧ ∀ y ∈ asL, y ∈ o.op.operands := by rw [ho]; simp [Op.operands, Call.operands]; intro y hy; exact .inr hy
 obtain ⟨dx, ex1, ex2⟩ := hx
 have hrx := ex2 s _ hp (hops x hopx.1 dx ex1)
 generalize hvx : a.eval x = vx at hrx
 cases hrx with
 | @yld _ l hβ =>
  have hn' : (σ ++ ν).Nodup := of_decide_eq_true hn
  have hreps := gv (a := a) (s := s) hp asL ds hds (fun y hy => hops y (hopx.2 y hy))
  have hreps' := JA (Min := Min) hok hreps hc
  obtain ⟨f, tmps, asg, body, e1, e2⟩ := hy (vst s σ (fun i => V.contains i) Min) (asL.map a.eval) l (vp hok hMin (List.nodup_append.1 hn').1) rfl (jj hij hβ) hreps'
  rw [KG ho hvx]
  have e1' : Sem.run P (Instr.yield l (asL.map a.eval).toArray) s.w = .ok (.round l f tmps asg body) s.w := e1
  rw [e1']
  refine ⟨rfl, RoundIn.mono e2 ?_⟩
  rintro e w'' ⟨s2, rfl, rfl, ht2, hM2⟩
  have hν' : ∀ i ∈ ν, s.M[i]? = some .hole := fun i hi => by
   have h1 := qbX.1 hν i hi
   rw [hfp i (by simp [hi])]
   split at h1
   ·rename_i h2; exact h2
   ·cases h1
  have hfl' : (∃ i, V.contains i = true) → Mout.all (·.fl) = true := by
   rintro ⟨i, hi⟩
   cases V with
   | nil => simp at hi
   | cons y V => simpa using hfl
  obtain ⟨q1, _⟩ := gD (M3 := upd s.M wr) hok hMin hlive hn' hν' ht2 hM2 hwr rfl hfl'
  exact ⟨back s s2 σ (fun i => V.contains i) ν (upd s.M wr), _, rfl, rfl, q1, rfl, .val _⟩
theorem QA {g : Operand} {ps : Array Tmp} {asg body : Code} {F FL : Fr} {M M1 Min : List Blk} {K : Cont} {f : FuncId} {first caps cargs : List D} {post pan : D → List Blk → Prop} {gk : Option FuncId} {fn : FuncId} (hgk : gk.getD fn = fn) (σ V ν : List Nat) (j : Nat)
  (hr : n.r = none) (hmk : n.mks = true) (hg : Ev true F g (.fn (.func f) first caps)) (hj : M[j]? = some .hole) (hFL : ∀ t d, lk FL t = some d → lk F t = some d) (hM1 : M.set j (.lp gk n.n FL ps asg body .ready none) = M1)
  (hc : vwL σ (fun i => V.contains i) M1 (first ++ [.yld j] ++ caps) = some cargs) (hMin : gl σ (fun i => V.contains i) M1 σ = some Min) (hf : DCalls P f cargs Min post pan)
  (hlive : Min.all (·.live) = true) (hn : decide (σ ++ ν).Nodup = true) (hν : ν.all (fun i => match M1[i]? with | some .hole => true | _ => false) = true)
  (hpost : ∀ d Mout, post d Mout → ∃ wr M2 st pe, yt (σ ++ ν) (σ ++ ν) Mout = some wr ∧ (V.isEmpty || Mout.all (·.fl)) = true ∧ upd M1 wr = M2 ∧ M2[j]? = some (.lp gk n.n FL ps asg body st pe) ∧ st ≠ .busy ∧
   (pe = none → K .normal F (M2.set j .gone)) ∧ (∀ c, pe = some c → dwp P s0 n c F (M2.set j .gone) K))
  (hpan : ∀ d Mout, pan d Mout → ∃ wr M2 d1, yt (σ ++ ν) (σ ++ ν) Mout = some wr ∧ (V.isEmpty || (d.fl && Mout.all (·.fl))) = true ∧ upd M1 wr = M2 ∧ sb (σ ++ ν) d = some d1 ∧ K (.panic d1) F M2)
  (a : Act) (w : World) (hi : Inv s0 n F M a w) :
  ∃ (l : Nat) (mark : List Deferred) (w₁ : World) (d : Deferred) (w₁' : World) (f : FuncId) (args : Array Value) (w₂ : World),
   (Instr.enterLoop fn a.tmps ps asg body (wd none).round).run P w = .ok (l, mark) w₁ ∧
   (resolve a.eval (rangeCall g l) 0).run P w₁ = .ok d w₁' ∧
   (∀ f', Target.leads P w₁' d.target d.args = some f' → (wd none).fn f') ∧
   (invoke d.target d.args).run P w₁' = .ok (.enter f args) w₂ ∧
   ((wd none).depth.isSome = true → 1 ≤ 0) ∧
   CallsIn (wd none) (0 - 1) P f args w₂ (rangePost (wd none) 0 P l (PostK s0 n K) { a with defers := mark ++ a.defers }) := by
 obtain ⟨h0, s, h1, h2, h3, h4, h5, h6⟩ := hi
 subst h1 h2
 have hok := h3.ok
 have hρ : n.ρ s0 = none := by unfold Cx.ρ; rw [hr]
 obtain ⟨dx, ex1, ex2⟩ := hg
 have hrx := ex2 s _ rfl (vY h4 ex1)
 generalize hvx : a.eval g = vx at hrx
 have hrx' := hrx
 cases hrx with
 | @fn _ _ _ vs us hl1 hl2 hr1 hr2 =>
  have t1 := W7 hok (.deferred (some []))
  have hsz : (s.w.alloc (.deferred (some []))).heap.size = s.w.heap.size + 1 := by simp
  have hjl : j < s.M.length := (qbq.1 hj).1
  have hβj : s.β[j]? = some .nilFunc := by
   have hlt : j < s.β.length := by rw [hok.len]; exact hjl
   have e := qbr hlt
   have : s.β[j] = .nilFunc := hok.blk j .hole _ hj e
   rw [e, this]
  obtain ⟨lo, hlo⟩ : ∃ lo, yf (gk.getD fn) a.tmps s.w.heap.size ps asg body .ready none = lo := ⟨_, rfl⟩
  have lt1 : ∀ b, Live s b → b < s.w.heap.size := fun b hb => (hok.lt b hb).1
  have t2 := kV t1.ok j s.M (.pointer (some ⟨s.w.heap.size + 1, 0, none⟩)) (.lp gk n.n FL ps asg body .ready none) ((s.w.alloc (.deferred (some []))).alloc lo) rfl (fun _ _ h => .inl h) hjl (.inl hβj) (by simp)
   (by
    refine ⟨s.w.heap.size + 1, fn, a.tmps, s.w.heap.size, rfl, ?_, h5, fun t d hd => ?_⟩
    ·have := World.alloc_heap_new (s.w.alloc (.deferred (some []))) lo
     rw [hsz] at this
     rw [hlo]; exact this
    ·have hrep := h4 t d (hFL t d hd)
     refine Rep.mono' (s := s) (s' := ⟨s.β.set j (.pointer (some ⟨s.w.heap.size + 1, 0, none⟩)), s.I, s.M.set j (.lp gk n.n FL ps asg body .ready none), (s.w.alloc (.deferred (some []))).alloc lo⟩) (fun i h hi hne => ?_) (fun _ h => h) (fun b hb => ?_) hrep
     ·show (s.β.set j _)[i]? = some h
      by_cases e : j = i
      ·subst e; rw [hβj] at hi; exact absurd (qbw hi).symm hne
      ·rw [qbC e]; exact hi
     ·have := hok.il b hb
      exact (Below.heap_alloc _ _ _ (by simp; omega)).trans (Below.heap_alloc _ _ _ this))
   (fun b hb i k h hne g1 g2 g3 g4 => by
    cases hb
    have hlt : s.w.heap.size + 1 < s.w.heap.size := lt1 _ (qq g1 g2 g3 g4)
    omega)
   (fun b hb => .inl (by cases hb; show (s.w.alloc _).heap.size ≤ _; rw [hsz]; exact qbM _)) (fun b hb => by cases hb; simp) (fun _ => False) (fun _ h => h.elim)
   (fun b hb _ _ => Below.heap_alloc _ _ _ hb) rfl rfl rfl (by simp)
  have t12 := t1.trans t2
  obtain ⟨s1, hs1⟩ : ∃ s1 : St, s1 = ⟨s.β.set j (.pointer (some ⟨s.w.heap.size + 1, 0, none⟩)), s.I, s.M.set j (.lp gk n.n FL ps asg body .ready none), (s.w.alloc (.deferred (some []))).alloc lo⟩ := ⟨_, rfl⟩
  have e12 : Tr s s1 := by rw [hs1]; exact t12
  have hM1' : s1.M = M1 := by rw [hs1]; exact hM1
  have hβ1 : s1.β[j]? = some (.pointer (some ⟨s.w.heap.size + 1, 0, none⟩)) := by rw [hs1]; exact qbG (by rw [hok.len]; exact hjl)
  subst hM1'
  have hn' : (σ ++ ν).Nodup := of_decide_eq_true hn
  have hargs : Reps s1 (first ++ [.yld j] ++ caps) (vs ++ [Value.func (.yield (s.w.heap.size + 1)) #[] #[]] ++ us) :=
   GC (GC ⟨hl1, fun j d v hj hv => (hr1 j d v hj hv).mono hok e12⟩ (W6 (.yld hβ1))) ⟨hl2, fun j d v hj hv => (hr2 j d v hj hv).mono hok e12⟩
  have hreps := JA (Min := Min) e12.ok hargs hc
  have hcall := hf.2 (vst s1 σ (fun i => V.contains i) Min) _ (vp e12.ok hMin (List.nodup_append.1 hn').1) rfl hreps
  have hw1 : (vst s1 σ (fun i => V.contains i) Min).w = (s.w.alloc (.deferred (some []))).alloc lo := by rw [hs1]; rfl
  rw [hw1] at hcall
  refine ⟨s.w.heap.size + 1, [{ target := .collected s.w.heap.size, args := #[] }], (s.w.alloc (.deferred (some []))).alloc lo, { target := .fn (.func f) us.toArray, args := vs.toArray ++ #[Value.func (.yield (s.w.heap.size + 1)) #[] #[]] },
   (s.w.alloc (.deferred (some []))).alloc lo, f, (vs ++ [Value.func (.yield (s.w.heap.size + 1)) #[] #[]] ++ us).toArray, (s.w.alloc (.deferred (some []))).alloc lo, ?_, ?_, fun _ _ => trivial, ?_, (fun h => by cases h), ?_⟩
  ·rw [← hlo, hgk]; exact run_enterLoop_outer fn a.tmps ps asg body
  ·simp only [rangeCall, resolve, hvx, Deferred.ofValue]
   simp [Sem.run_pure, Act.eval]
  ·have := vr hf.1 (vs ++ [Value.func (.yield (s.w.heap.size + 1)) #[] #[]] ++ us).toArray ((s.w.alloc (.deferred (some []))).alloc lo)
   simpa [invoke] using this
  refine w6 (ρ := none) (hcall.mono ?_)
  rintro e w3 ⟨s2, rfl, ht2, hres⟩
  have hν' : ∀ i ∈ ν, s1.M[i]? = some .hole := fun i hi => by
   have h1 := qbX.1 hν i hi
   split at h1
   ·rename_i h2; exact h2
   ·cases h1
  have hB1 : s1.w.heap[s.w.heap.size]? = some (.deferred (some [])) := by
   rw [hs1]
   exact (Below.heap_alloc _ _ _ (by simp)).trans (World.alloc_heap_new s.w _)
  have hBI : ¬ s1.I s.w.heap.size := fun h => by
   have : s.I s.w.heap.size := by rw [hs1] at h; exact h
   have := hok.il _ this
   omega
  have hBL : ¬ Live s1 s.w.heap.size := by
   rintro ⟨i, k, h, g1, g2, g3, g4⟩
   by_cases e : i = j
   ·subst e
    rw [hβ1] at g3
    cases g3
    replace g4 := Qv (b := s.w.heap.size + 1) rfl g4; simp [hb] at g4
   ·rw [hs1] at g1 g3
    rw [qbC (Ne.symm e)] at g1 g3
    have := lt1 _ (qq g1 g2 g3 g4)
    omega
  have hne : ∀ {U ds}, DfOk s0 s n.mks U ds → ∀ d ∈ ds, d.target ≠ .collected s.w.heap.size := by
   intro U ds h
   induction h with
   | nil => intro d hd; cases hd
   | mark _ h _ _ _ _ _ ih =>
    intro d hd
    rcases List.mem_cons.1 hd with rfl | hd
    ·intro e
     have := (Array.getElem?_eq_some_iff.1 h).1
     cases e
     omega
    ·exact ih d hd
   | fn _ _ ih =>
    intro d hd
    rcases List.mem_cons.1 hd with rfl | hd
    ·intro e; cases e
    ·exact ih d hd
  have hdf : DfOk s0 s1 n.mks n.U ({ target := .collected s.w.heap.size, args := #[] } :: a.defers) := .mark hmk hB1 hBI hBL h3.size (hne h6) (h6.mono hok e12)
  rcases hres with ⟨d, v, rfl, hrd, hpo⟩ | ⟨d, v, rfl, hrd, hpa⟩
  ·obtain ⟨wr, M2, st, pe, hwr, hfl, hM2, hj2, hst, hk0, hk1⟩ := hpost _ _ hpo
   have hfl' : (∃ i, V.contains i = true) → s2.M.all (·.fl) = true := by
    rintro ⟨i, hi⟩
    cases V with
    | nil => simp at hi
    | cons y V => simpa using hfl
   obtain ⟨q1, _⟩ := gD (M3 := upd s1.M wr) e12.ok hMin hlive hn' hν' ht2 rfl hwr rfl hfl'
   obtain ⟨s3, hs3⟩ : ∃ s3 : St, s3 = back s1 s2 σ (fun i => V.contains i) ν (upd s1.M wr) := ⟨_, rfl⟩
   rw [← hs3] at q1
   have hM3 : s3.M = M2 := by rw [hs3]; exact hM2
   have hw3 : s3.w = s2.w := by rw [hs3]; rfl
   have hβ3 := q1.hnd.1 j _ hβ1 (by simp) (by simp)
   have hj3 : s3.M[j]? = some (.lp gk n.n FL ps asg body st pe) := by rw [hM3]; exact hj2
   obtain ⟨l3, fn3, tmps3, Df3, k1, k2, k3, k4⟩ := q1.ok.blk j _ _ hj3 hβ3
   cases k1
   have hend := run_endLoop (P := P) k2 hst
   have hlv : Live s3 (s.w.heap.size + 1) := ⟨j, _, _, hj3, rfl, hβ3, rfl⟩
   have hset : s3.β.set j (.pointer (some ⟨s.w.heap.size + 1, 0, none⟩)) = s3.β := by
    apply List.ext_getElem?
    intro i
    by_cases e : j = i
    ·subst e; rw [qbG (qbq.1 hβ3).1, hβ3]
    ·rw [qbC e]
   have t4 := kV q1.ok j s3.M (.pointer (some ⟨s.w.heap.size + 1, 0, none⟩)) .gone (s3.w.putObj (s.w.heap.size + 1) (.loop { state := .exhausted, pending := pe, fn := gk.getD fn3, tmps := tmps3, params := ps, assign := asg, body := body, defers := Df3 })) rfl (fun _ _ h => .inl h)
    (qbq.1 hj3).1 (.inr (.inl hβ3)) (by simp) trivial (fun b hb i k h hne g1 g2 g3 g4 => by have := q1.ok.inj j i _ k _ h b hj3 rfl hβ3 hb g1 g2 g3 g4; exact hne this.symm)
    (fun b hb => .inr (by cases hb; exact hlv)) (fun b hb => by cases hb; simpa using (Array.getElem?_eq_some_iff.1 k2).1) (fun _ => False) (fun _ h => h.elim) (fun b _ hb _ => World.putObj_heap_other fun e => hb (by rw [e]; rfl)) rfl rfl rfl (by simp)
   rw [hset] at t4
   have tall := (e12.trans q1).trans t4
   rw [hw3] at hend
   refine ⟨pe, _, hend, ?_⟩
   have hm3 : s3.M.set j .gone = M2.set j .gone := by rw [hM3]
   have hmarkT := q1.trans t4
   have hinv : Inv s0 n F (M2.set j .gone) { a with defers := [{ target := .collected s.w.heap.size, args := #[] }] ++ a.defers } (s2.w.putObj (s.w.heap.size + 1) (.loop { state := .exhausted, pending := pe, fn := gk.getD fn3, tmps := tmps3, params := ps, assign := asg, body := body, defers := Df3 })) :=
    ⟨h0, _, hm3, by rw [hw3], h3.trans tall, fun t d hd => (h4 t d hd).mono hok tall, h5, hdf.mono e12.ok hmarkT⟩
   cases pe with
   | none => exact ⟨F, _, hinv, hk0 rfl⟩
   | some c =>
    have := hk1 c rfl _ _ hinv
    rw [hρ] at this
    exact this
  ·obtain ⟨wr, M2, d1, hwr, hfl, hM2, hd1, hk⟩ := hpan _ _ hpa
   have hfl' : (∃ i, V.contains i = true) → d.fl = true ∧ s2.M.all (·.fl) = true := by
    rintro ⟨i, hi⟩
    cases V with
    | nil => simp at hi
    | cons y V => simpa using hfl
   obtain ⟨q1, q2⟩ := gD (M3 := upd s1.M wr) e12.ok hMin hlive hn' hν' ht2 rfl hwr rfl (fun h => (hfl' h).2)
   have hrd' := q2 d v d1 hrd (fun h => (hfl' h).1) hd1
   have tall := e12.trans q1
   exact ⟨F, M2, d1, ⟨h0, back s1 s2 σ (fun i => V.contains i) ν (upd s1.M wr), v, hM2, rfl, h3.trans tall, fun t d hd => (h4 t d hd).mono hok tall, h5, hdf.mono e12.ok q1, rfl, hrd'⟩, hk⟩
theorem YR {g : Operand} {ps : Array Tmp} {asg body : Code} {F FL : Fr} {M M1 M2 Min Mout : List Blk} {K : Cont} {f : FuncId} {first caps cargs : List D} {d0 : D} {wr : List (Nat × Blk)} {st : LoopState} {pe : Option Code} (σ V ν : List Nat) (j : Nat)
  (hr : n.r = none) (hmk : n.mks = true) (hg : Ev true F g (.fn (.func f) first caps)) (hj : M[j]? = some .hole) (hFL : ∀ t d, lk FL t = some d → lk F t = some d) (hM1 : M.set j (.lp none n.n FL ps asg body .ready none) = M1)
  (hc : vwL σ (fun i => V.contains i) M1 (first ++ [.yld j] ++ caps) = some cargs) (hMin : gl σ (fun i => V.contains i) M1 σ = some Min) (hf : DFun P f cargs Min d0 Mout)
  (hlive : Min.all (·.live) = true) (hn : decide (σ ++ ν).Nodup = true) (hν : ν.all (fun i => match M1[i]? with | some .hole => true | _ => false) = true)
  (hwr : yt (σ ++ ν) (σ ++ ν) Mout = some wr) (hfl : (V.isEmpty || Mout.all (·.fl)) = true) (hM2 : upd M1 wr = M2) (hj2 : M2[j]? = some (.lp none n.n FL ps asg body st pe)) (hst : st ≠ .busy)
  (hk0 : pe = none → K .normal F (M2.set j .gone)) (hk1 : ∀ c, pe = some c → dwp P s0 n c F (M2.set j .gone) K) : dwp P s0 n (.rangeFunc g ps asg body) F M K := by
 intro a w hi
 have hρ : n.ρ s0 = none := by unfold Cx.ρ; rw [hr]
 rw [hρ]
 exact wpIn_rangeFunc fun fn _ => QA rfl σ V ν j hr hmk hg hj hFL hM1 hc hMin hf hlive hn hν
  (by rintro d Mo ⟨rfl, rfl⟩; exact ⟨wr, M2, st, pe, hwr, hfl, hM2, hj2, hst, hk0, hk1⟩) (fun _ _ h => h.elim) a w hi
end
end
end Go.Proofs.YtofklkbfkoliiaaGreat
namespace Go.Proofs.YtofklkbfkoliiaaGreat
set_option linter.unusedVariables false
set_option linter.unusedSimpArgs false
open Go.RowKit
section
variable {P : Program} {s0 : St} {n : Cx}
theorem jb {b : Frame} {a : Act} {k : List Item} {cs : List Frame} {w : World} {c : Code} : step P (lone (b.atR a (.code (.scope c) :: k)) cs w) = .next (lone (b.atR a (.code c :: .inScope c :: k)) cs w) :=
 step_lone_go (by simp [stepG, stepG.exec, Frame.atR])
theorem wh {b : Frame} {a : Act} {k : List Item} {cs : List Frame} {w : World} {c : Code} : step P (lone (b.atR a (.inScope c :: k)) cs w) = .next (lone (b.atR a k) cs w) :=
 step_lone_go (by simp [stepG, stepG.exec, Frame.atR])
def Kng (K : Cont) : Cont
 | .goto _, _, _ => False
 | x, F, M => K x F M
theorem KH {c : Code} {F : Fr} {M : List Blk} {K : Cont} (h : dwp P s0 n c F M (Kng K)) : dwp P s0 n (.scope c) F M K := by
 intro a w hi b k cs hro hb hr
 obtain ⟨e, a₁, w₁, hq, harr⟩ := h a w hi b (.inScope c :: k) cs hro hb hr
 have f : ∀ (m : Machine), m.fenced P (wd (n.ρ s0)) := fun _ => jJ
 cases e with
 | normal => exact ⟨.normal, a₁, w₁, hq, .head (f _) jb (StepsIn.trans harr (.one (f _) wh))⟩
 | exit id => exact ⟨.exit id, a₁, w₁, hq, fun k' hk => .head (f _) jb (harr.1 k' (by simp [exitTo, hk])), fun h1 h2 => by
   obtain ⟨k1, h3, h4⟩ := harr.2 h1 (by simp [exitTo, h2])
   exact ⟨k1, h3, .head (f _) jb h4⟩⟩
 | goto l => obtain ⟨_, _, _, hk⟩ := hq; exact hk.elim
 | ret => exact ⟨.ret, a₁, w₁, hq, .of_steps (.one (f _) jb) harr⟩
 | panic ch => exact ⟨.panic ch, a₁, w₁, hq, .of_steps (.one (f _) jb) harr⟩
 | outgrown => exact hq.elim
theorem jY {c : Code} {F : Fr} {M : List Blk} {K : Cont} {t sz m : Nat} {L : List Value} (ht : lk F t = some (.slf sz m L)) (hk : m ≤ 9223372036854775807 → L.length = m * sz → dwp P s0 n c F M K) : dwp P s0 n c F M K := by
 intro a w hi
 obtain ⟨h0, s, h1, h2, h3, h4, h5, h6⟩ := hi
 have hr := h4 t _ ht
 generalize ju a t = vx at hr
 have hb : m ≤ 9223372036854775807 ∧ L.length = m * sz := by
  cases hr with
  | slf hl hn hc _ _ => exact ⟨qbK hn hc, hl⟩
 exact hk hb.1 hb.2 a w ⟨h0, s, h1, h2, h3, h4, h5, h6⟩
theorem gM {c : Code} {F : Fr} {M : List Blk} {K : Cont} {t sz m : Nat} {L : List D} (ht : lk F t = some (.slm sz m L)) (hk : m ≤ 9223372036854775807 → L.length = m * sz → dwp P s0 n c F M K) : dwp P s0 n c F M K := by
 intro a w hi
 obtain ⟨h0, s, h1, h2, h3, h4, h5, h6⟩ := hi
 have hr := h4 t _ ht
 generalize ju a t = vx at hr
 have hb : m ≤ 9223372036854775807 ∧ L.length = m * sz := by
  cases hr with
  | slm _ hl hn hc _ _ _ _ => exact ⟨qbK hn hc, hl⟩
 exact hk hb.1 hb.2 a w ⟨h0, s, h1, h2, h3, h4, h5, h6⟩
theorem GE {c : Code} {F : Fr} {M : List Blk} {K : Cont} {T : TypeId} {i sz m : Nat} {L : List Value} (hM : M[i]? = some (.arr T sz m L)) (hk : m ≤ 9223372036854775807 → L.length = m * sz → dwp P s0 n c F M K) : dwp P s0 n c F M K := by
 intro a w hi
 obtain ⟨h0, s, h1, h2, h3, h4, h5, h6⟩ := hi
 have hil : i < s.β.length := by rw [h3.ok.len, h1]; exact (qbq.1 hM).1
 have hM' : s.M[i]? = some (.arr T sz m L) := by rw [h1]; exact hM
 have hk' : s.w.ownsRow 0 T sz s.β[i] m L := h3.ok.blk i _ _ hM' (qbr hil)
 have hb : m ≤ 9223372036854775807 := by
  rcases hk'.2 with ⟨_, e2⟩ | ⟨g, cap, cur, e1, e2, e3, e4, e5, e6, e7⟩
  ·omega
  ·exact qbK e4 e5
 exact hk hb hk'.1 a w ⟨h0, s, h1, h2, h3, h4, h5, h6⟩
variable {ops : Array Oper}
theorem VM {o : Oper} {rest : List Oper} {F : Fr} {M : List Blk} {K : Cont} {T T' e : TypeId} {sz by' m t : Nat} {L : List Value} {x : Operand} (hg : o.guard = none) (hd : o.dst = some t) (ht : qcj t n.n = true) (ho : o.op = .binOp .eql T x (.const (.slice none 0 0)) T') (hT : slE P T = some (e, sz, by')) (hx : Ev true F x (.slf sz m L))
  (hk : ∀ b, (b = true → m = 0 ∧ L = []) → Walk P s0 n ops rest ((t, .val (.bool b)) :: F) M K) : Walk P s0 n ops (o :: rest) F M K := by
 intro a w hi
 have hi' := hi
 obtain ⟨h0, s, h1, h2, h3, h4, h5, h6⟩ := hi
 obtain ⟨dx, ex1, ex2⟩ := hx
 have hrx := ex2 s _ rfl (vY h4 ex1)
 generalize hvx : a.eval x = vx at hrx
 cases hrx with
 | @slf _ _ cap ad _ hl hn hc ha hm =>
  obtain ⟨hu, _⟩ := kS hT
  have hrun : (execOp a.eval o).run P w = .ok (.value (.bool ad.isNone)) w := by
   unfold execOp
   simp only [ho]
   have hv : a.eval (.const (.slice none 0 0)) = .slice none 0 0 := rfl
   rw [hv, hvx]
   refine k6 ?_
   simp only [eqGuard, binOp, Sem.run_bind]
   have heq : ∀ d, (Op.equalIn (d + 1) T (.slice ad m cap) (.slice none 0 0)).run P w = .ok ad.isNone w := fun d => by
    unfold Op.equalIn
    rw [Sem.run_bind, run_underlying hu]
    cases ad <;> simp
   have heq' : (Op.equalIn Op.maxDepth T (.slice ad m cap) (.slice none 0 0)).run P w = .ok ad.isNone w := heq 9999
   simp [Op.equal, heq', Sem.run_bind, go_sem]
  have hfin := hk ad.isNone (fun hb => by
   cases ad with
   | none => have := ha rfl; exact ⟨by omega, qbU (by rw [hl, show m = 0 by omega]; simp)⟩
   | some q => cases hb) (a.put o.dst (.bool ad.isNone)) w (by
    obtain ⟨h0, s, h1, h2, h3, h4, h5, h6⟩ := hi'
    refine ⟨h0, s, h1, h2, h3, ?_, by rw [ga]; exact h5, by rw [yy]; exact h6⟩
    rw [hd]
    exact h4.put (by rw [h5]; exact Nat.blt_eq.mp ht) (.val _))
  show if Region.wanted o (yielded ops a.tmps) then _ else _
  have hw : Region.wanted o (yielded ops a.tmps) = true := by unfold Region.wanted; rw [hg]
  rw [if_pos hw]
  refine ⟨fun _ _ => trivial, ?_⟩
  rw [v4 (by rw [ho]; rfl), hrun]
  exact hfin
end
section
variable {P : Program} {pc : Bool} {o : Oper} {F : Fr} {M : List Blk} {α : Type} {en : α → List Value} {T T' e : TypeId} {sz by' k n i j : Nat} {l : List α} {x y : Operand}
theorem jk {kk : Nat} {ld : List D} {d : D} (ho : o.op = .load T x) (hT : tyB P T = some (false, kk)) (hx : Ev pc F x (.dpm ld)) (hR : ld[0]? = some d) : DOp P pc o F M [] d [] := by
 intro hp a s hok hops hfp
 have hr := qu hp hx (by simp [ho, Op.operands]) hops
 generalize hv : a.eval x = vx at hr
 cases hr with
 | @dpm b q _ vs hnl hI hc hl h =>
  obtain ⟨v, hv0⟩ : ∃ v, vs[0]? = some v := ⟨vs[0]'(by rw [hl]; exact (qbq.1 hR).1), qbr _⟩
  exact qU hok (gp ho hT hv (by simpa using hc 0 v hv0)) (h 0 d v hR hv0)
theorem qt {x : Operand} {d : D} (ho : o.op = .nilCheck x) (hx : Ev pc F x d) (hd : ∀ (s : St) v, Rep s d v → ∃ q, v = .pointer (some q)) : DOp P pc o F M [] d [] := by
 intro hp a s hok hops _
 have h1 := qu hp hx (by simp [ho, Op.operands]) hops
 obtain ⟨q, hq⟩ := hd s _ h1
 refine qU (v := a.eval x) hok ?_ h1
 unfold execOp
 simp only [ho, hq, Sem.run_pure]
theorem Zo {kd : IntKind} {z : Int} (ho : o.op = .indexAddr T x y) (hT : slE P T = some (e, sz, by')) (hx : Ev pc F x (.arr i)) (hy : Ev pc F y (.val (.int kd z))) (hM : M[i]? = some (.arr T' sz n (l.flatMap en))) (hz : pc = true → z = (j : Int)) (hj : pc = true → j < n) : DOp P pc o F M [i] (.aloc i (j * sz)) [] := by
 cases pc with
 | false => intro h; cases h
 | true =>
  have hz := hz rfl
  have hj := hj rfl
  subst hz
  have := AU ho hT hx hy hM (fun _ => ⟨by omega, by omega⟩)
  simpa using this
theorem Zp (ho : o.op = .load T x) (hT : tyB P T = some (true, sz)) (hx : Ev pc F x (.aloc i (j * sz))) (hM : M[i]? = some (.arr T' sz n (l.flatMap en))) (hen : ∀ a, (en a).length = sz) (hj : j < l.length) : DOp P pc o F M [i] (.val (.agg (en l[j]).toArray)) [] :=
 Zm ho hT hx hM (Gu hen hj) (hen _)
end
end Go.Proofs.YtofklkbfkoliiaaGreat
namespace Go.Proofs.YtofklkbfkoliiaaGreat
set_option linter.unusedVariables false
set_option linter.unusedSimpArgs false
open Go.RowKit
def eqA (f : List Value → List Value → Option Bool) (sz : Nat) : Nat → List Value → List Value → Option Bool
 | 0, _, _ => some true
 | n + 1, xs, ys => match f (xs.take sz) (ys.take sz), eqA f sz n (xs.drop sz) (ys.drop sz) with
  | some r, some r' => some (r && r')
  | _, _ => none
def eqFl (f : TypeId → List Value → List Value → Option Bool) (P : Program) (xs ys : List Value) : List Field → Option Bool
 | [] => some true
 | g :: fs => if g.name = "_" then none else match P.info? g.type with
  | none => none
  | some i => match f g.type ((xs.drop g.offset).take i.size) ((ys.drop g.offset).take i.size), eqFl f P xs ys fs with
   | some r, some r' => some (r && r')
   | _, _ => none
def eqT (P : Program) : Nat → TypeId → List Value → List Value → Option Bool
 | 0, _, _, _ => none
 | d + 1, T, xs, ys => match P.underlying T with
  | some (.int _) => match xs, ys with
   | [.int k a], [.int k' b] => if k = k' then some (a == b) else none
   | _, _ => none
  | some .bool => match xs, ys with
   | [.bool a], [.bool b] => some (a == b)
   | _, _ => none
  | some .string => match xs, ys with
   | [.string a], [.string b] => some (a.toList == b.toList)
   | _, _ => none
  | some (.pointer _) => match xs, ys with
   | [.pointer none], [.pointer none] => some true
   | _, _ => none
  | some (.struct fs) => if P.stoodInHeld T then none else eqFl (eqT P d) P xs ys fs.toList
  | some (.array n e) => match P.info? e with
   | none => none
   | some i => eqA (eqT P d e) i.size n xs ys
  | _ => none
def vU (P : Program) (T : TypeId) (xs : List Value) : Value := match P.underlying T with
 | some (.struct _) | some (.array _ _) => .agg xs.toArray
 | _ => xs.getD 0 undef
section
variable {P : Program}
theorem uK {T : TypeId} {i : TypeInfo} {cs : List Value} {off : Nat} {w : World} (hi : P.info? T = some i) (hr : (∃ fs, P.underlying T = some (.struct fs)) ∨ ∃ n e, P.underlying T = some (.array n e)) : (part T cs.toArray off).run P w = .ok (vU P T ((cs.drop off).take i.size)) w := by
 have hex : cs.toArray.extract off (off + i.size) = ((cs.drop off).take i.size).toArray := by simp [List.extract_eq_take_drop]
 unfold part isAgg vU
 rcases hr with ⟨fs, hu⟩ | ⟨n, e, hu⟩ <;> simp [Sem.run_bind, run_underlying hu, sizeOf, typeInfo, hi, hu, hex]
theorem uL {T : TypeId} {cs : List Value} {off sz : Nat} {v : Value} {w : World} {d : TypeDesc} (hu : P.underlying T = some d) (hd : d.isRow = false) (hv : (cs.drop off).take sz = [v]) : (part T cs.toArray off).run P w = .ok (vU P T [v]) w := by
 have hc : cs[off]? = some v := by
  have := congrArg (fun l : List Value => l[0]?) hv
  simp only [List.getElem?_take, qcd, Nat.add_zero] at this
  split at this
  ·simpa using this
  ·simp at this
 unfold part isAgg vU
 cases d <;> simp_all [TypeDesc.isRow, Sem.run_bind, run_underlying hu]
theorem Zq {d : Nat} {T : TypeId} {xs ys : List Value} {r : Bool} (h : eqT P d T xs ys = some r) : ((∃ fs, P.underlying T = some (.struct fs)) ∨ ∃ n e, P.underlying T = some (.array n e)) ∨ (∃ u, P.underlying T = some u ∧ u.isRow = false) ∧ (∃ x, xs = [x]) ∧ ∃ y, ys = [y] := by
 cases d with
 | zero => cases h
 | succ d =>
  unfold eqT at h
  split at h
  ·rename_i k hu
   split at h
   ·exact .inr ⟨⟨_, hu, rfl⟩, ⟨_, rfl⟩, ⟨_, rfl⟩⟩
   ·cases h
  ·rename_i hu
   split at h
   ·exact .inr ⟨⟨_, hu, rfl⟩, ⟨_, rfl⟩, ⟨_, rfl⟩⟩
   ·cases h
  ·rename_i hu
   split at h
   ·exact .inr ⟨⟨_, hu, rfl⟩, ⟨_, rfl⟩, ⟨_, rfl⟩⟩
   ·cases h
  ·rename_i hu
   split at h
   ·exact .inr ⟨⟨_, hu, rfl⟩, ⟨_, rfl⟩, ⟨_, rfl⟩⟩
   ·cases h
  ·rename_i fs hu; exact .inl (.inl ⟨fs, hu⟩)
  ·rename_i n e hu; exact .inl (.inr ⟨n, e, hu⟩)
  ·cases h
theorem xz {d : Nat} {T : TypeId} {i : TypeInfo} {xs ys : List Value} {off : Nat} {r : Bool} {w : World} (hi : P.info? T = some i) (h : eqT P d T ((xs.drop off).take i.size) ((ys.drop off).take i.size) = some r) :
  (part T xs.toArray off).run P w = .ok (vU P T ((xs.drop off).take i.size)) w ∧ (part T ys.toArray off).run P w = .ok (vU P T ((ys.drop off).take i.size)) w := by
 rcases Zq h with hr | ⟨⟨u, hu, hd⟩, ⟨x, hx⟩, ⟨y, hy⟩⟩
 ·exact ⟨uK hi hr, uK hi hr⟩
 ·exact ⟨by rw [hx]; exact uL hu hd hx, by rw [hy]; exact uL hu hd hy⟩
theorem QB : ∀ (d k : Nat) (T : TypeId) (xs ys : List Value) (r : Bool) (w : World), eqT P d T xs ys = some r → (Op.equalIn (d + k) T (vU P T xs) (vU P T ys)).run P w = .ok r w := by
 intro d
 induction d with
 | zero => intro k T xs ys r w h; cases h
 | succ d ih =>
  intro k T xs ys r w h
  rw [show d + 1 + k = d + k + 1 by omega]
  unfold eqT at h
  split at h
  ·rename_i kd hu
   split at h
   ·split at h
    ·rename_i e; cases h; subst e; simp [vU, hu]; exact run_equalIn_int w _ T _ _ _ _ hu
    ·cases h
   ·cases h
  ·rename_i hu
   split at h
   ·cases h; simp [vU, hu]; exact run_equalIn_bool' w _ T _ _ hu
   ·cases h
  ·rename_i hu
   split at h
   ·cases h; simp [vU, hu]; exact run_equalIn_string w _ T _ _ hu
   ·cases h
  ·rename_i hu
   split at h
   ·cases h; simp [vU, hu]; exact run_equalIn_pointer_nil w _ T none (by unfold Program.pointee; rw [hu])
   ·cases h
  ·rename_i fs hu
   split at h
   ·cases h
   ·rename_i hst
    have hv : ∀ zs, vU P T zs = .agg zs.toArray := fun zs => by simp [vU, hu]
    rw [hv, hv]
    have hf : P.underlying T = some (.struct (P.fieldsOf T)) := by unfold Program.fieldsOf; rw [hu]
    have hfs : P.fieldsOf T = fs := by unfold Program.fieldsOf; rw [hu]
    rw [run_equalIn_struct w _ T _ _ hf (by simpa using hst), hfs]
    clear hf hfs hu hv
    generalize fs.toList = l at h
    induction l generalizing r with
    | nil => cases h; simp [Op.eqFields]
    | cons g fs ihf =>
     unfold eqFl at h
     split at h
     ·cases h
     ·rename_i hne
      split at h
      ·cases h
      ·rename_i i hi
       split at h
       ·rename_i r1 r2 h1 h2
        cases h
        obtain ⟨p1, p2⟩ := xz (w := w) hi h1
        have e := ih k _ _ _ _ w h1
        simp only [Op.eqFields, hne, ne_eq, not_false_eq_true, if_true, Sem.run_bind, p1, p2, e, Result.andThen_ok]
        cases r1 with
        | true => simpa using ihf r2 h2
        | false => simp
       ·cases h
  ·rename_i n e hu
   split at h
   ·cases h
   ·rename_i i hi
    have hv : ∀ zs, vU P T zs = .agg zs.toArray := fun zs => by simp [vU, hu]
    rw [hv, hv]
    unfold Op.equalIn
    simp only [Sem.run_bind, run_underlying hu, Result.andThen_ok, sizeOf, typeInfo, run_program, hi, Sem.run_pure]
    have key : ∀ (n s : Nat) (r : Bool), eqA (eqT P d e) i.size n (xs.drop (s * i.size)) (ys.drop (s * i.size)) = some r →
      (forIn (List.range' s n) ((none : Option Bool), ()) fun j _ => do
       let a ← part e xs.toArray (j * i.size)
       let b ← part e ys.toArray (j * i.size)
       let q ← Op.equalIn (d + k) e a b
       if (!q) = true then pure (ForInStep.done (some false, ())) else pure (ForInStep.yield (none, ())) : Sem (Option Bool × Unit)).run P w = .ok (if r then (none, ()) else (some false, ())) w := by
     intro n
     induction n with
     | zero => intro s r h; unfold eqA at h; cases h; simp
     | succ n ihn =>
      intro s r h
      unfold eqA at h
      split at h
      ·rename_i r1 r2 h1 h2
       cases h
       obtain ⟨p1, p2⟩ := xz (w := w) hi h1
       have e1 := ih k _ _ _ _ w h1
       have h2' := ihn (s + 1) r2 (by rw [qcg, ← List.drop_drop, ← List.drop_drop]; exact h2)
       rw [List.range'_succ, List.forIn_cons]
       simp only [Sem.run_bind, p1, p2, e1, Result.andThen_ok]
       cases r1 with
       | true => simpa using h2'
       | false => simp
      ·cases h
    have hk := key n 0 r (by simpa using h)
    simp only [Std.Legacy.Range.forIn_eq_forIn_range', Std.Legacy.Range.size, Nat.sub_zero, Nat.add_sub_cancel, Nat.div_one, hk, Result.andThen_ok]
    cases r <;> simp
  ·cases h
variable {pc : Bool} {o : Oper} {F : Fr} {M : List Blk}
theorem xV {T : TypeId} {k : Nat} {L : List Value} (hT : tyB P T = some (true, k)) : vU P T L = .agg L.toArray := by
 obtain ⟨d, i, h1, h2, h3, h4⟩ := gw hT
 unfold vU
 rw [h1]
 cases d <;> simp_all [TypeDesc.isRow]
theorem vE {T T' : TypeId} {x y : Operand} {L1 L2 : List Value} {b : Bool} {k : Nat} (he : eqT P 9 T L1 L2 = some b) (ho : o.op = .binOp .eql T x y T') (hg : P.eqGuardType P.depth T = false) (hT : tyB P T = some (true, k)) (hx : Ev pc F x (.val (.agg L1.toArray))) (hy : Ev pc F y (.val (.agg L2.toArray))) : DOp P pc o F M [] (.val (.bool b)) [] :=
 AS ho hx hy (fun w => run_eqGuard_agg w _ _ _ _ _ _ hg) fun w => by
  have := QB (P := P) 9 9991 T L1 L2 b w he
  rw [xV hT, xV hT] at this
  rw [run_eql_struct, this]; rfl
theorem AX {T T' : TypeId} {x y : Operand} {L1 L2 : List Value} {b : Bool} {k : Nat} (he : eqT P 9 T L1 L2 = some b) (ho : o.op = .binOp .neq T x y T') (hg : P.eqGuardType P.depth T = false) (hT : tyB P T = some (true, k)) (hx : Ev pc F x (.val (.agg L1.toArray))) (hy : Ev pc F y (.val (.agg L2.toArray))) : DOp P pc o F M [] (.val (.bool !b)) [] :=
 WU ho hx hy (fun w => run_eqGuard_agg w _ _ _ _ _ _ hg) fun w => by
  have := QB (P := P) 9 9991 T L1 L2 b w he
  rw [xV hT, xV hT] at this
  rw [run_neq_struct, this]; rfl
end
end Go.Proofs.YtofklkbfkoliiaaGreat
namespace Go.Proofs.YtofklkbfkoliiaaGreat
set_option linter.unusedVariables false
set_option linter.unusedSimpArgs false
open Go.RowKit
def wj (f : Func) : Code := f.body.getD .skip
def pth : List Nat → Code → Code
 | [], c => c
 | 0 :: r, .seq a _ => pth r a
 | _ :: r, .seq _ b => pth r b
 | _ :: r, .block _ b => pth r b
 | _ :: r, .scope b => pth r b
 | _ :: r, .loop b => pth r b
 | 0 :: r, .cond _ a _ => pth r a
 | _ :: r, .cond _ _ b => pth r b
 | _, c => c
def rfA : Code → Code
 | .rangeFunc _ _ a _ => a
 | c => c
def rfB : Code → Code
 | .rangeFunc _ _ _ b => b
 | c => c
def rst : Bool → LoopState
 | true => .ready
 | false => .done
def rpe (c : Code) : Bool → Option Code
 | true => none
 | false => some c
theorem W8 (r : Bool) : rst r ≠ .busy := by cases r <;> simp [rst]
def subF (F : Fr) : Fr → Prop
 | [] => True
 | (t, d) :: r => lk F t = some d ∧ subF F r
theorem wJ {F : Fr} : ∀ {FL : Fr}, subF F FL → ∀ t d, lk FL t = some d → lk F t = some d
 | [], _, t, d, h => by cases h
 | (k, x) :: r, h, t, d, hd => by
  rw [jx] at hd
  split at hd
  ·rename_i e; subst e; obtain rfl := qbw hd; exact h.1
  ·exact wJ h.2 t d hd
theorem yB {α : Type} {en : α → List Value} (h : ∀ a, (en a).all (·.oneCell') = true) (l : List α) : (l.flatMap en).all (·.oneCell') = true := by
 induction l with
 | nil => rfl
 | cons a l ih => rw [qbJ, List.all_append, h, ih]; rfl
theorem xW {P : Program} {pc : Bool} {o : Oper} {F : Fr} {M : List Blk} {T e : TypeId} {sz by' : Nat} {x y : Operand} {k : IntKind} {z : Int} {α : Type} {en : α → List Value} {l : List α} {j : Nat} (a0 : α) (ho : o.op = .indexAddr T x y) (hT : slE P T = some (e, sz, by')) (hx : Ev pc F x (.slf sz l.length (l.flatMap en))) (hy : Ev pc F y (.val (.int k z))) (hen : ∀ a, (en a).length = sz) (hsz : 0 < sz) (hz : pc = true → z = (j : Int)) (hj : pc = true → j < l.length) : DOp P pc o F M [] (.dpf (en (l.getD j a0))) [] := fun hp => by
 have h := q0 (M := M) ho hT hx hy hen hsz (hz hp) (hj hp) hp
 rw [show l.getD j a0 = l[j]'(hj hp) by simp [qbV, hj hp]]
 exact h
theorem Zr {α : Type} {l : List α} {j : Nat} {a0 : α} (h : j < l.length) : l.getD j a0 = l[j] := by simp [qbV, h]
theorem vF {T : TypeId} {sz n n' : Nat} {L L' : List Value} (h : n = n') (h' : L = L') : some (Blk.arr T sz n L) = some (Blk.arr T sz n' L') := by rw [h, h']
section
variable {P : Program} {s0 : St} {n : Cx}
theorem zC {F : Fr} {σ : List Nat} {M : List Blk} : ∀ {A B : Fr}, Fits F σ M A → Fits F σ M B → Fits F σ M (A ++ B)
 | [], _, _, h => h
 | _ :: _, _, ⟨h1, h2⟩, h => ⟨h1, zC h2 h⟩
theorem qI {α : Type} {c : Code} {F : Fr} {M : List Blk} {K : Cont} (hg : Gs s0 n) (dyn : α → Fr) (stat : Fr) (dynM : α → List (Nat × Blk)) (Mst : List Blk) (Pr : α → Prop) (μ : α → Nat) (x0 : α) (σ0 : List Nat) (h0 : Pr x0)
  (hσ0 : okσ n.k σ0 = true) (hF0 : Fits F σ0 M stat) (hF1 : Fits F σ0 M (dyn x0)) (hM0 : MFits σ0 nov M σ0 (upd Mst (dynM x0)))
  (round : ∀ x, Pr x → dwp P s0 n c (dyn x ++ stat) (upd Mst (dynM x)) (Kseq (Again n.k (fun x => dyn x ++ stat) (fun x => upd Mst (dynM x)) Pr μ x) K)) : dwp P s0 n (.loop c) F M K :=
 WM hg (fun x => dyn x ++ stat) (fun x => upd Mst (dynM x)) Pr μ x0 σ0 h0 hσ0 (zC hF1 hF0) hM0 round
def GF (P : Program) (s0 : St) (n : Cx) (c : Code) (F : Fr) (M : List Blk) (K : Cont) : Prop := ∀ a w, Inv s0 n F M a w → ∀ (b : Frame) (k : List Item) (cs : List Frame), b.roundOf = (wd (n.ρ s0)).round → (wd (n.ρ s0)).fn b.fn → (wd (n.ρ s0)).room (cs.length + 1 + 0) →
 ∃ e a' w', PostK s0 n K e a' w' ∧ ArrivesIn (Machine.fenced P (wd (n.ρ s0))) P (lone (b.atR a (.code c :: .inLoop c :: k)) cs w) b k cs e a' w'
theorem yK {c : Code} {F : Fr} {M : List Blk} {K : Cont} (h : GF P s0 n c F M K) : dwp P s0 n (.loop c) F M K := by
 intro a w hi b k cs hro hb hr
 obtain ⟨e, a', w', hq, harr⟩ := h a w hi b k cs hro hb hr
 exact ⟨e, a', w', hq, .of_steps (.one (fenced_calm hb hr rfl) stepR_loop) harr⟩
theorem kY {c : Code} {F : Fr} {M : List Blk} {K : Cont} (h : dwp P s0 n c F M (Kseq (fun F M => GF P s0 n c F M K) K)) : GF P s0 n c F M K := by
 intro a w hi b k cs hro hb hr
 obtain ⟨e, a₁, w₁, hq, harr⟩ := h a w hi b (.inLoop c :: k) cs hro hb hr
 cases e with
 | normal =>
  obtain ⟨F', M', hi', hl⟩ := hq
  obtain ⟨e₂, a₂, w₂, hq₂, harr₂⟩ := hl a₁ w₁ hi' b k cs hro hb hr
  exact ⟨e₂, a₂, w₂, hq₂, .of_steps (StepsIn.trans harr (.one (fenced_calm hb hr rfl) stepR_inLoop)) harr₂⟩
 | exit id => exact ⟨.exit id, a₁, w₁, hq, .pass (x := .inLoop c) rfl (fun _ _ => .inl (by simp)) harr⟩
 | goto l => exact ⟨.goto l, a₁, w₁, hq, .pass (x := .inLoop c) rfl (fun _ _ => .inl (by simp)) harr⟩
 | ret => exact ⟨.ret, a₁, w₁, hq, .pass (x := .inLoop c) rfl (fun _ _ => .inl (by simp)) harr⟩
 | panic ch => exact ⟨.panic ch, a₁, w₁, hq, .pass (x := .inLoop c) rfl (fun _ _ => .inl (by simp)) harr⟩
 | outgrown => exact hq.elim
end
end Go.Proofs.YtofklkbfkoliiaaGreat
namespace Go.Proofs.YtofklkbfkoliiaaGreat
set_option linter.unusedVariables false
set_option linter.unusedSimpArgs false
open Go.RowKit
section
variable {P : Program} {pc : Bool} {o : Oper} {F : Fr} {M : List Blk}
end
section
variable {P : Program} {pc : Bool} {o : Oper} {F : Fr} {M : List Blk}
theorem QC {α : Type} {en : α → List Value} {r : List α} {T e : TypeId} {sz by' : Nat} {x : Operand} {lo hi : Option Operand} {l h : Int} {i j : Nat} (ho : o.op = .slice T x lo hi none) (hT : slE P T = some (e, sz, by')) (hx : Ev pc F x (.slf sz r.length (r.flatMap en))) (hlo : Bd pc F lo 0 l) (hhi : Bd pc F hi r.length h)
  (hl : pc = true → l = (i : Int)) (hh : pc = true → h = (j : Int)) (hij : pc = true → i ≤ j ∧ j ≤ r.length) (hen : ∀ a, (en a).length = sz) : DOp P pc o F M [] (.slf sz ((r.drop i).take (j - i)).length (((r.drop i).take (j - i)).flatMap en)) [] := fun hp => by
 have := hij hp
 rw [show ((r.drop i).take (j - i)).length = j - i by rw [qbS, qbZ]; omega]
 exact Zn hen ho hT hx hlo hhi (hl hp) (hh hp) hij hp
theorem JD {α : Type} {en : α → List Value} {r : List α} {T e : TypeId} {sz by' : Nat} {x : Operand} {hi : Option Operand} {h : Int} {j : Nat} (ho : o.op = .slice T x none hi none) (hT : slE P T = some (e, sz, by')) (hx : Ev pc F x (.slf sz r.length (r.flatMap en))) (hhi : Bd pc F hi r.length h)
  (hh : pc = true → h = (j : Int)) (hij : pc = true → j ≤ r.length) (hen : ∀ a, (en a).length = sz) : DOp P pc o F M [] (.slf sz (r.take j).length ((r.take j).flatMap en)) [] :=
 QC (i := 0) ho hT hx (wI (z := 0)) hhi (fun _ => rfl) hh (fun hp => ⟨qb3 _, hij hp⟩) hen
theorem yi {α : Type} {en : α → List Value} {r : List α} {T e : TypeId} {sz by' : Nat} {x : Operand} {lo : Option Operand} {l : Int} {i : Nat} (ho : o.op = .slice T x lo none none) (hT : slE P T = some (e, sz, by')) (hx : Ev pc F x (.slf sz r.length (r.flatMap en))) (hlo : Bd pc F lo 0 l)
  (hl : pc = true → l = (i : Int)) (hij : pc = true → i ≤ r.length) (hen : ∀ a, (en a).length = sz) : DOp P pc o F M [] (.slf sz (r.drop i).length ((r.drop i).flatMap en)) [] := fun hp => by
 have h := QC (M := M) (j := r.length) ho hT hx hlo wI hl (fun _ => rfl) (fun hp => ⟨hij hp, qbM _⟩) hen hp
 rwa [qbT (by simp)] at h
end
theorem yc {P : Program} {f : FuncId} {args : List D} {d d' : D} {Mout : List Blk} (h : DFun P f args [] d Mout) (hv : vw [] jS Mout d = some d') : DFun P f args [] d' [] := by
 refine ⟨h.1, fun s vs hok hM hr => (h.2 s vs hok hM hr).mono ?_⟩
 rintro e w' ⟨s', rfl, ht, hor⟩
 rcases hor with ⟨d0, v, rfl, hrep, rfl, hMo⟩ | ⟨d0, v, _, _, hf⟩
 ·refine ⟨vst s' [] jS [], rfl, vq hok ht (jd [] [] trivial) (m := 0) (by rw [hM]; exact qbM _) rfl, .inl ⟨d', v, rfl, j8 ht.ok hrep d' (by rw [hMo]; exact hv), rfl, rfl⟩⟩
 ·exact hf.elim
end Go.Proofs.YtofklkbfkoliiaaGreat
namespace Go.Proofs.YtofklkbfkoliiaaGreat
set_option linter.unusedVariables false
set_option linter.unusedSimpArgs false
open Go.ChangeShapes Go.WideShapes Go.ChangeAt Go.RowKit Go.Joins Go.Deep
def st0 (W : World) : St := ⟨[], fun b => b < W.heap.size, [], W⟩
theorem AY (W : World) : Ok (st0 W) := by
 refine ⟨rfl, fun i k h hk => ?_, fun b hb => ?_, fun i j k k' h h' b hk => ?_, fun b hb => hb⟩
 ·simp [st0] at hk
 ·obtain ⟨i, k, h, hk, _⟩ := hb
  simp [st0] at hk
 ·simp [st0] at hk
theorem VN {f : FuncId} {ts : List TypeId} (h : ∀ (H : Type) (enc : TypeId × Value → H) (W : World) (base : Nat) (args : Array Value) (ds : List (DataW H)) (p : List MemPlace),
  DataW.TrodAll enc Tryz.prog W 0 (fun _ => true) true ts args.toList ds p → (∀ (j : Nat) t v, ts[j]? = some t → args[j]? = some v → Value.okWide Tryz.prog W .any base t v) →
  ∃ Ds : List D, Reps (st0 W) Ds args.toList ∧ DFun Tryz.prog f Ds [] (.val (.bool true)) []) : Walked f ts := by
 intro H enc W base args ds p hA hval
 obtain ⟨Ds, hr, hf⟩ := h H enc W base args ds p hA hval
 have := hf.2 (st0 W) args.toList (AY W) rfl hr
 rw [Array.toArray_toList] at this
 refine this.mono ?_
 rintro e w' ⟨s', rfl, ht, hor⟩
 rcases hor with ⟨d, v, rfl, hrep, rfl, _⟩ | ⟨_, _, _, _, hf⟩
 ·refine ⟨by rw [hrep.val_eq], ht.os, ht.tape, ht.output, ht.size, fun k hk => ht.keep k hk fun ⟨i, kk, h, hk, _⟩ => ?_⟩
  simp [st0] at hk
 ·exact hf.elim
theorem vf {s : St} {d : D} {v : Value} {ds : List D} {vs : List Value} (h : Rep s d v) (h' : Reps s ds vs) : Reps s (d :: ds) (v :: vs) := by
 refine ⟨by simp [h'.1], fun j e u hj hu => ?_⟩
 cases j with
 | zero => simp at hj hu; subst hj hu; exact h
 | succ j => exact h'.2 j e u (by simpa using hj) (by simpa using hu)
theorem wl {s : St} : Reps s [] [] := ⟨rfl, fun j e u hj => by simp at hj⟩
section
variable {H : Type} {enc : TypeId × Value → H} {w : World} {base b0 : Nat} {r : Reach} {spare : Nat → Bool} {held : Bool} {v : Value} {d : DataW H} {p : List MemPlace}
theorem Zs {α : Type} {W : World} {a : Option Addr} {n cap sz : Nat} {en : α → List Value} {l : List α} (hx : rowV W a n sz en l) (hc : n ≤ cap) (hm : cap ≤ maxLen) (hnil : a = none → cap = 0) (hen : ∀ a, (en a).length = sz) : Rep (st0 W) (.slf sz l.length (l.flatMap en)) (.slice a n cap) := by
 obtain ⟨rfl, hx⟩ := hx
 refine .slf (j3 hen l) hc hm hnil ?_
 rcases hx with rfl | ⟨b, off, rfl, hlt, hcell⟩
 ·exact .inl rfl
 ·refine .inr ⟨b, off, rfl, hlt, fun j u hj => ?_⟩
  show W.cell? ⟨b, off + j, none⟩ = some u
  have hjl : j < l.length * sz := by rw [← j3 hen l]; exact (qbq.1 hj).1
  have hsz : 0 < sz := by
   rcases Nat.eq_zero_or_pos sz with e | e
   ·rw [e] at hjl; omega
   ·exact e
  have hq : j / sz < l.length := (Nat.div_lt_iff_lt_mul hsz).2 hjl
  have hr := Nat.mod_lt j hsz
  have e : j = j / sz * sz + j % sz := by rw [Nat.mul_comm]; exact (Nat.div_add_mod j sz).symm
  rw [e, KA hen hq hr] at hj
  have := hcell (j / sz) hq (j % sz) hr
  rw [hj] at this
  rw [e, ← Nat.add_assoc]
  exact this
end
end Go.Proofs.YtofklkbfkoliiaaGreat
namespace Go.Proofs.YtofklkbfkoliiaaGreat
set_option linter.unusedVariables false
set_option linter.unusedSimpArgs false
open Go.RowKit
section
variable {P : Program} {s0 : St} {n : Cx}
def FitsV (F' : Fr) (σ : List Nat) (V : Nat → Bool) (M' : List Blk) : Fr → Prop
 | [] => True
 | (t, d) :: r => (lk F' t).bind (vw σ V M') = some d ∧ FitsV F' σ V M' r
theorem GG {F' : Fr} {σ : List Nat} {V : Nat → Bool} {M' : List Blk} : ∀ (F : Fr), FitsV F' σ V M' F → ∀ t d, lk F t = some d → ∃ d', lk F' t = some d' ∧ vw σ V M' d' = some d
 | [], _, t, d, h => by cases h
 | (k, x) :: r, h, t, d, hd => by
  rw [jx] at hd
  split at hd
  ·rename_i e
   subst e
   obtain rfl := qbw hd
   simpa [Option.bind_eq_some_iff] using h.1
  ·exact GG r h.2 t d hd
theorem W9 {F F' : Fr} {M M' : List Blk} {a : Act} {w : World} {σ V : List Nat} (h : Inv s0 n F' M' a w) (hg : Gs s0 n) (hσ : okσ n.k σ = true) (hF : FitsV F' σ (fun i => V.contains i) M' F) (hM : MFits σ (fun i => V.contains i) M' σ M) : Inv s0 n F M a w := by
 obtain ⟨h0, s, h1, h2, h3, h4, h5, h6⟩ := h
 have hMs := jd σ M hM
 subst h1
 refine ⟨h0, vst s σ (fun i => V.contains i) M, rfl, h2, vq h0 h3 hMs hg.le hσ, fun t d hd => ?_, h5, Gm h3.ok hMs hσ h6 hg.lt⟩
 obtain ⟨d', e1, e2⟩ := GG F hF t d hd
 exact j8 h3.ok (h4 t d' e1) d e2
theorem GH {c : Code} {F' : Fr} {M' : List Blk} {K : Cont} (hg : Gs s0 n) (σ V : List Nat) (F : Fr) (M : List Blk) (hσ : okσ n.k σ = true) (hF : FitsV F' σ (fun i => V.contains i) M' F) (hM : MFits σ (fun i => V.contains i) M' σ M)
  (h : dwp P s0 n c F M K) : dwp P s0 n c F' M' K := fun a w hi => h a w (W9 hi hg hσ hF hM)
end
section
variable {P : Program} {pc : Bool} {o : Oper} {F : Fr} {M : List Blk} {T T' : TypeId} {x y : Operand} {i n sz : Nat} {k : IntKind} {z : Int} {α : Type} {en : α → List Value} {l : List α} {j : Nat}
theorem yC (ho : o.op = .indexAddr T x y) (hT : arE P T = some (n, sz)) (hx : Ev pc F x (.loc i 0)) (hy : Ev pc F y (.val (.int k z))) (hz : pc = true → z = (j : Int)) (hj : pc = true → j < n) : DOp P pc o F M [] (.loc i (j * sz)) [] := fun hp => by
 have h := YL (M := M) ho hT hx hy (fun hp => by have := hz hp; have := hj hp; omega) hp
 rwa [qbs, show z.toNat = j by have := hz hp; omega] at h
theorem uM (a0 : α) (ho : o.op = .load T x) (hT : tyB P T = some (true, sz)) (hx : Ev pc F x (.loc i (j * sz))) (hM : M[i]? = some (.flat T' (l.flatMap en))) (hen : ∀ a, (en a).length = sz) (hj : pc = true → j < l.length) : DOp P pc o F M [i] (.val (.agg (en (l.getD j a0)).toArray)) [] := fun hp =>
 v8 ho hT hx hM (by rw [Gu hen (hj hp), Zr (hj hp)]) (hen _) hp
theorem xX {rw' : Bool} {q : α} {v : Value} (ho : o.op = .store T x y) (hT : tyB P T = some (rw', sz)) (hx : Ev pc F x (.loc i (j * sz))) (hy : Ev pc F y (.val v)) (hM : M[i]? = some (.flat T' (l.flatMap en))) (hv : v.cells.toList = en q) (h1 : (en q).all (·.oneCell') = true) (hen : ∀ a, (en a).length = sz) (hj : pc = true → j < l.length) : DOp P pc o F M [i] .junk [(i, .flat T' ((l.set j q).flatMap en))] := fun hp =>
 WW ho hT hx hy hM hv (hen q) h1 (by
  rw [j3 hen, hen]
  calc j * sz + sz = (j + 1) * sz := by rw [qcg]
   _ ≤ l.length * sz := qb6 _ (hj hp)) (Gv hen (hj hp) q) hp
theorem Zt {lo hi : Option Operand} {lz hz : Int} {p q : Nat} (ho : o.op = .slice T x lo hi none) (hT : arE P T = some (n, sz)) (hx : Ev pc F x (.dpf (l.flatMap en))) (hlo : Bd pc F lo 0 lz) (hhi : Bd pc F hi n hz) (hp' : pc = true → lz = (p : Int)) (hq : pc = true → hz = (q : Int)) (hb : pc = true → p ≤ q ∧ q ≤ n) (hl : l.length = n) (hn : n ≤ maxLen) (hen : ∀ a, (en a).length = sz) :
  DOp P pc o F M [] (.slf sz ((l.drop p).take (q - p)).length (((l.drop p).take (q - p)).flatMap en)) [] := by
 intro hp a s hok hops _
 obtain ⟨b1, b2⟩ := hb hp
 have hr := qu hp hx (by simp [ho, Op.operands]) hops
 have hlo' := wW hp hlo (fun u e => by subst e; simp [ho, Op.operands]) hops
 have hhi' := wW hp hhi (fun u e => by subst e; simp [ho, Op.operands]) hops
 rw [hp' hp] at hlo'
 rw [hq hp] at hhi'
 obtain ⟨e, i, e1, e2, e3⟩ := uF hT
 have hlen : ((l.drop p).take (q - p)).length = q - p := by rw [qbS, qbZ]; omega
 generalize hv : a.eval x = vx at hr
 cases hr with
 | @dpf b off _ hI hc =>
  have sb : ∀ (k : IntKind) (z : Nat) (m : Nat) (cd : BoundsCode), z ≤ m → (Instr.sliceBound (.int k z) m cd).run P s.w = .ok z s.w := fun k z m cd b => by
   simp [Instr.sliceBound, asIntOf, b]
  have hbs : (Instr.sliceBounds false n n (lo.map a.eval) (hi.map a.eval) none).run P s.w = .ok (p, q, n) s.w := by
   rcases hlo' with ⟨q1, q3⟩ | ⟨kl, q1⟩ <;> rcases hhi' with ⟨q2, q4⟩ | ⟨kh, q2⟩ <;> rw [q1, q2]
   ·have g1 : p = 0 := by omega
    have g2 : q = n := by omega
    simp [Instr.sliceBounds, g1, g2]
   ·have g1 : p = 0 := by omega
    simp [Instr.sliceBounds, g1, sb kh q n _ b2]
   ·have g2 : q = n := by omega
    simp [Instr.sliceBounds, g2, sb kl p n _ (by omega)]
   ·simp [Instr.sliceBounds, sb kh q n _ b2, sb kl p q _ b1]
  have hrun : (execOp a.eval o).run P s.w = .ok (.value (.slice (some (if n = p then ⟨b, off, none⟩ else (⟨b, off, none⟩ : Addr).add (p * sz))) (q - p) (n - p))) s.w := by
   unfold execOp
   simp only [ho, hv]
   refine k6 ?_
   simp [Instr.sliceAt, Instr.sureAddr, run_underlying e1, Sem.run_bind, hbs, sizeOf, typeInfo, e2, e3]
  refine qU hok hrun ?_
  rw [hlen]
  have hpart : ((l.drop p).take (q - p)).flatMap en = ((l.flatMap en).drop (p * sz)).take ((q - p) * sz) := by rw [yH hen, yI hen]
  rw [hpart]
  refine .slf (by rw [← hpart, j3 hen, hlen]) (by omega) (by omega) (fun e => by cases e) ?_
  by_cases hz0 : q - p = 0
  ·left; rw [hz0]; simp
  ·right
   rw [if_neg (by omega)]
   exact ⟨b, off + p * sz, by rw [Gj], hI, qN hc _ _⟩
end
section
variable {P : Program} {pc : Bool} {o : Oper} {F : Fr} {M : List Blk}
theorem uf {T : TypeId} {q : Nat × Nat} {Z : List Value} (ho : o.op = .build T #[]) (hT : arE P T = some q) (hZ : zrC P T = some Z) : DOp P pc o F M [] (.val (.agg Z.toArray)) [] := by
 intro hp a s hok hops _
 obtain ⟨i, z, e1, e2, e3⟩ := jA hZ
 obtain ⟨e, i', h1, h2, h3⟩ := uF (n := q.1) (sz := q.2) hT
 refine qU (v := .agg Z.toArray) hok ?_ (.val _)
 have hz0 : (zeroValue T).run P s.w = .ok z s.w := by simp [zeroValue, typeInfo, e1, e2]
 have hz1 : z.cells = Z.toArray := by rw [← e3]
 unfold execOp
 simp only [ho]
 refine k6 ?_
 simp [Instr.build, Sem.run_bind, hz0, run_underlying h1, sizeOf, typeInfo, h2, Instr.fill, hz1]
end
section
variable {P : Program} {s0 : St} {n : Cx}
end
end Go.Proofs.YtofklkbfkoliiaaGreat
namespace Go.Proofs.YtofklkbfkoliiaaGreat
set_option linter.unusedVariables false
set_option linter.unusedSimpArgs false
open Go.RowKit
section
variable {P : Program} {pc : Bool} {o : Oper} {F : Fr} {M : List Blk} {T : TypeId} {x y : Operand} {n sz : Nat} {k : IntKind} {z : Int} {α : Type} {en : α → List Value} {l : List α} {j : Nat}
end
section
variable {P : Program} {s0 : St} {n : Cx}
theorem YS {F : Fr} {M : List Blk} {a : Act} {w : World} {i : Nat} {T : TypeId} (e : TypeId) (sz : Nat) (h : Inv s0 n F M a w) (hi : M[i]? = some (.flat T [.slice none 0 0])) : Inv s0 n F ((M ++ [Blk.arr e sz 0 []]).set i (.mix T [.arr M.length])) a w := by
 obtain ⟨h0, s, rfl, rfl, h3, h4, h5, h6⟩ := h
 have t1 := gZ h3.ok
 have hlen := h3.ok.len
 have hn : (s.M ++ [Blk.hole])[s.M.length]? = some .hole := by simp
 have t2 : Tr ⟨s.β ++ [Value.nilFunc], s.I, s.M ++ [Blk.hole], s.w⟩ ⟨(s.β ++ [Value.nilFunc]).set s.M.length (.slice none 0 0), s.I, (s.M ++ [Blk.hole]).set s.M.length (.arr e sz 0 []), s.w⟩ :=
  g9 (s := ⟨s.β ++ [Value.nilFunc], s.I, s.M ++ [Blk.hole], s.w⟩) t1.ok (j := s.M.length) hn (.slice none 0 0) (.arr e sz 0 []) s.w (by simp) (fun b hb => by cases hb) (fun b _ => rfl) (fun b hb => by cases hb) (qbM _) rfl rfl rfl (World.ownsRow_nil s.w 0 e sz)
 have tt := t1.trans t2
 have hil : i < s.M.length := (qbq.1 hi).1
 have eM : (s.M ++ [Blk.hole]).set s.M.length (.arr e sz 0 []) = s.M ++ [.arr e sz 0 []] := by simp
 rw [eM] at tt
 generalize hS : (⟨(s.β ++ [Value.nilFunc]).set s.M.length (.slice none 0 0), s.I, s.M ++ [.arr e sz 0 []], s.w⟩ : St) = S at tt
 have hSM : S.M = s.M ++ [.arr e sz 0 []] := by rw [← hS]
 have hSw : S.w = s.w := by rw [← hS]
 have hMi : S.M[i]? = some (.flat T [.slice none 0 0]) := by rw [hSM, qbI hil]; exact hi
 have hβlen : s.M.length < S.β.length := by rw [← hS]; simp [hlen]
 have hβn : S.β[s.M.length]? = some (.slice none 0 0) := by rw [← hS]; simp [hlen]
 obtain ⟨hd, hβi⟩ : ∃ hd, S.β[i]? = some hd := ⟨_, qbr (by omega)⟩
 obtain ⟨b, rfl, hb⟩ := tt.ok.blk i _ _ hMi hβi
 have t3 : Tr S ⟨S.β.set i (.pointer (some ⟨b, 0, none⟩)), S.I, S.M.set i (.mix T [.arr s.M.length]), S.w⟩ := by
  have hlv : Live S b := qq hMi rfl hβi rfl
  refine kV tt.ok i S.M (.pointer (some ⟨b, 0, none⟩)) (.mix T [.arr s.M.length]) S.w rfl (fun _ _ h => .inl h) (qbq.1 hMi).1 (.inr (.inl hβi)) (by simp) ?_ (fun c hc j k h hne h1 h2 h3 h4 => ?_) (fun c hc => by cases hc; exact .inr hlv) (fun c hc => by cases hc; exact (tt.ok.lt b hlv).1) (fun _ => False) (fun _ h => h.elim) (fun _ _ _ _ => rfl) rfl rfl rfl (qbM _)
  ·refine ⟨b, [.slice none 0 0], rfl, hb, rfl, fun j d v h1 h2 => ?_⟩
   cases j with
   | zero =>
    simp at h1 h2
    subst h1 h2
    exact .arr (by rw [qbC (by omega)]; exact hβn)
   | succ j => simp at h1
  ·cases hc
   exact hne (tt.ok.inj j i k _ h _ b h1 h2 h3 h4 hMi rfl hβi rfl)
 have ttt := tt.trans t3
 refine ⟨h0, ⟨S.β.set i (.pointer (some ⟨b, 0, none⟩)), S.I, S.M.set i (.mix T [.arr s.M.length]), S.w⟩, by simp only [hSM], hSw, h3.trans ttt, fun x d hd => (h4 x d hd).mono h3.ok ttt, h5, h6.mono h3.ok ttt⟩
theorem zD {c : Code} {F : Fr} {M M' : List Blk} {K : Cont} {T : TypeId} (i : Nat) (e : TypeId) (sz : Nat) (hi : M[i]? = some (.flat T [.slice none 0 0])) (hM : (M ++ [Blk.arr e sz 0 []]).set i (.mix T [.arr M.length]) = M') (h : dwp P s0 n c F M' K) : dwp P s0 n c F M K := by
 subst hM
 exact fun a w hv => h a w (YS e sz hv hi)
theorem VO {α : Type} {c : Code} {F : Fr} {M : List Blk} {K : Cont} (J : α → Fr) (JM : α → List Blk) (Pr : α → Prop) (μ : α → Nat) (x0 : α) (h0 : Pr x0)
  (hin : ∀ a w, Inv s0 n F M a w → Inv s0 n (J x0) (JM x0) a w)
  (round : ∀ x, Pr x → dwp P s0 n c (J x) (JM x) (Kseq (fun F' M' => ∃ y, Pr y ∧ μ y < μ x ∧ ∀ a w, Inv s0 n F' M' a w → Inv s0 n (J y) (JM y) a w) K)) : GF P s0 n c F M K := by
 intro a0 w0 hi0
 intro b k cs hro hb hr
 have key : ∀ m x a w, μ x = m → Pr x → Inv s0 n (J x) (JM x) a w → ∃ e a' w', PostK s0 n K e a' w' ∧ ArrivesIn (Machine.fenced P (wd (n.ρ s0))) P (lone (b.atR a (.code c :: .inLoop c :: k)) cs w) b k cs e a' w' := by
  intro m
  induction m using Nat.strongRecOn with
  | _ m ih =>
   intro x a w hm hp hi
   obtain ⟨e, a₁, w₁, hq, harr⟩ := round x hp a w hi b (.inLoop c :: k) cs hro hb hr
   cases e with
   | normal =>
    obtain ⟨F', M', hi', y, hy, hlt, hback⟩ := hq
    obtain ⟨e₂, a₂, w₂, hq₂, harr₂⟩ := ih (μ y) (hm ▸ hlt) y a₁ w₁ rfl hy (hback _ _ hi')
    exact ⟨e₂, a₂, w₂, hq₂, .of_steps (StepsIn.trans harr (.one (fenced_calm hb hr rfl) stepR_inLoop)) harr₂⟩
   | exit id => exact ⟨.exit id, a₁, w₁, hq, .pass (x := .inLoop c) rfl (fun _ _ => .inl (by simp)) harr⟩
   | goto l => exact ⟨.goto l, a₁, w₁, hq, .pass (x := .inLoop c) rfl (fun _ _ => .inl (by simp)) harr⟩
   | ret => exact ⟨.ret, a₁, w₁, hq, .pass (x := .inLoop c) rfl (fun _ _ => .inl (by simp)) harr⟩
   | panic ch => exact ⟨.panic ch, a₁, w₁, hq, .pass (x := .inLoop c) rfl (fun _ _ => .inl (by simp)) harr⟩
   | outgrown => exact ⟨.outgrown, a₁, w₁, hq, .pass (x := .inLoop c) rfl (fun _ _ => .inl (by simp)) harr⟩
 exact key _ x0 a0 w0 rfl h0 (hin _ _ hi0)
theorem AZ {α : Type} {c : Code} {F : Fr} {M : List Blk} {K : Cont} (hg : Gs s0 n) (dyn : α → Fr) (stat : Fr) (dynM : α → List (Nat × Blk)) (Mst : List Blk) (Pr : α → Prop) (μ : α → Nat) (x0 : α) (σ0 : List Nat) (h0 : Pr x0)
  (hσ0 : okσ n.k σ0 = true) (hF0 : Fits F σ0 M stat) (hF1 : Fits F σ0 M (dyn x0)) (hM0 : MFits σ0 nov M σ0 (upd Mst (dynM x0)))
  (round : ∀ x, Pr x → dwp P s0 n c (dyn x ++ stat) (upd Mst (dynM x)) (Kseq (Again n.k (fun x => dyn x ++ stat) (fun x => upd Mst (dynM x)) Pr μ x) K)) : GF P s0 n c F M K := by
 refine VO (fun x => dyn x ++ stat) (fun x => upd Mst (dynM x)) Pr μ x0 h0 (fun a w hi => xR hi hg hσ0 (zC hF1 hF0) hM0) fun x hx => Gg (round x hx) ?_
 intro e F' M' hk
 cases e with
 | normal => obtain ⟨y, σ, h1, h2, h3, h4, h5⟩ := hk; exact ⟨y, h1, h2, fun a w hi => xR hi hg h3 h4 h5⟩
 | exit id => exact hk
 | goto l => exact hk
 | ret => exact hk
 | panic d => exact hk
end
section
variable {α : Type} [DecidableEq α] {P : Program} {K E T : TypeId} {en : α → List Value} {pc : Bool} {o : Oper} {F : Fr} {M : List Blk} {x y z : Operand}
end
end Go.Proofs.YtofklkbfkoliiaaGreat
