/- Rows made by make, and copied into; parts of arrays with their room cut; A function that is deferred, and recovers, whose one region draws its order: each of the orders by itself; A region that draws its order, where several operations look at what one of them turns, ahead of it or behind it, and read the same. Conditions: the kernel's look at its edges; Functions without a body that touch one cell (package sync/atomic), or mark; a function that is deferred with its arguments; deferred functions that do not recover. Conditions: what such a call's run is; Arguments whose elements are slices themselves, opened, as deep as their types go.  but the kernel's look at the types; Rows of one's own that hold data: made, measured, looked into; parts of rows of one's own, measured, looked into; Single operations of programs: rows that are turned to their own type, rows made whole and left so, array. No condition. -/
import Derived.Test.YtofklkbfkoliiaaGreatV2
import Derived.Laws.IdiomCopy
import Derived.Laws.LoneSync
import Derived.Test.YtofklkbfkoliiaaGreatRows
set_option maxRecDepth 100000
open List renaming getElem?_eq_some_iff → qbq, getElem?_eq_getElem → qbr, length_append → qbz, getElem?_set_ne → qbC, cons_append → qbD, nil_append → qbF, getElem?_set_self → qbG, replicate → qbH, getElem?_append_left → qbI, flatMap_cons → qbJ, getElem?_append_right → qbO, length_take → qbS, eq_nil_of_length_eq_zero → qbU, length_cons → qbW, all_eq_true → qbX, append_assoc → qbY, length_drop → qbZ, mem_cons_self → qb1, getElem?_eq_none → qb2, mem_cons_of_mem → qb4, range → qb5, mem_of_getElem? → qb7, getElem_mem → qb9, getElem?_map → qca, getElem_of_mem → qcc, getElem?_drop → qcd, length_map → qcf
open Nat renaming zero_add → qbs, le_of_ble_eq_true → qbA, le_refl → qbM, zero_le → qb3, mul_le_mul_right → qb6, succ_mul → qcg, blt → qcj
open Bool renaming and_eq_true → qbu, or_eq_false_iff → qbv, not_eq_true' → qbx, not_eq_false' → qby, or_eq_true → qbE
open Option.some renaming inj → qbw
open Go.IntWalk renaming i64_in → qbB
open Option renaming map_eq_some_iff → qbL
open Array renaming replicate → qb8
open Int renaming toNat_natCast → qcb
namespace Go.Proofs.YtofklkbfkoliiaaGreat
set_option linter.unusedVariables false
set_option linter.unusedSimpArgs false
open Go.RowKit
section
variable {P : Program} {pc : Bool} {o : Oper} {F : Fr} {M : List Blk} {T e : TypeId} {by' : Nat} {x y : Operand}
theorem A0 (j n : Nat) {k k' : IntKind} {z z' : Int} (z0 : Value) (ho : o.op = .makeSlice T x y) (hT : slE P T = some (e, 1, by')) (hZ : zrC P e = some [z0]) (hx : Ev pc F x (.val (.int k z))) (hy : Ev pc F y (.val (.int k' z'))) (hz : pc = true → z = (n : Int)) (hz' : pc = true → z' = (n : Int)) (hj : M[j]? = some .hole) (hb : pc = true → by' * n ≤ 281474976710656 ∧ n ≤ 9223372036854775807) :
  DOp P pc o F M [j] (.arr j) [(j, .arr e 1 n (qbH n z0))] := by
 intro hp a s hok hops hfp
 obtain ⟨e1, ti, e2, e3, e4⟩ := kS hT
 obtain ⟨ti', zv, q1, q2, q3⟩ := jA hZ
 rw [e2] at q1
 obtain rfl := qbw q1
 have h1 := (qu hp hx (by simp [ho, Op.operands]) hops).val_eq
 have h2 := (qu hp hy (by simp [ho, Op.operands]) hops).val_eq
 rw [hz hp] at h1
 rw [hz' hp] at h2
 obtain ⟨b1, b2⟩ := hb hp
 have hj' : s.M[j]? = some .hole := by rw [hfp j (by simp)]; exact hj
 have hjl : j < s.β.length := by rw [hok.len]; exact (qbq.1 hj').1
 have hb3 : (ti.bytes : Int) * (n : Int) ≤ 281474976710656 := by
  have h : ((ti.bytes * n : Nat) : Int) ≤ 281474976710656 := by rw [e4]; omega
  rwa [Int.natCast_mul] at h
 have hrun := run_make (P := P) s.w T e ti zv e1 e2 q2 k k' n n (by omega) (Int.le_refl _) hb3 (by omega)
 simp only [qcb] at hrun
 have hc : zv.cells = #[z0] := by
  have := congrArg List.toArray q3
  simpa using this
 have hrow := World.ownsRow_lit (base := 0) (e := e) (size := ti.size) s.w (madeCells zv.cells (n * ti.size)) n (qb3 _) (by unfold maxLen; omega) (size_madeCells _ _)
 rw [hc, e3, Nat.mul_one, toList_madeCells_one] at hrow
 rw [hc, e3, Nat.mul_one] at hrun
 refine ja (s' := ⟨s.β.set j (.slice (some ⟨s.w.heap.size, 0, none⟩) n n), s.I, s.M.set j (.arr e 1 n (qbH n z0)), _⟩) (v := .slice (some ⟨s.w.heap.size, 0, none⟩) n n) ?_ (g9 hok hj' _ _ _ (by simp) (fun b hb => by cases hb; rfl) (fun b h => Below.heap_alloc _ _ _ h) (fun b hb => by cases hb; simp) (by simp) rfl rfl rfl hrow) rfl (.arr (by simp [hjl]))
 unfold execOp
 simp only [ho, h1, h2]
 exact k6 hrun
theorem A1 (j n : Nat) {sz : Nat} {k k' : IntKind} {z z' : Int} {Z : List Value} (ho : o.op = .makeSlice T x y) (hT : slE P T = some (e, sz, by')) (hZ : zrC P e = some Z) (hx : Ev pc F x (.val (.int k z))) (hy : Ev pc F y (.val (.int k' z'))) (hz : pc = true → z = 0) (hz' : pc = true → z' = (n : Int)) (hj : M[j]? = some .hole) (hb : pc = true → by' * n ≤ 281474976710656 ∧ n ≤ 9223372036854775807) :
  DOp P pc o F M [j] (.arr j) [(j, .arr e sz 0 [])] := by
 intro hp a s hok hops hfp
 obtain ⟨e1, ti, e2, e3, e4⟩ := kS hT
 obtain ⟨ti', zv, q1, q2, q3⟩ := jA hZ
 rw [e2] at q1
 obtain rfl := qbw q1
 have h1 := (qu hp hx (by simp [ho, Op.operands]) hops).val_eq
 have h2 := (qu hp hy (by simp [ho, Op.operands]) hops).val_eq
 rw [hz hp] at h1
 rw [hz' hp] at h2
 obtain ⟨b1, b2⟩ := hb hp
 have hj' : s.M[j]? = some .hole := by rw [hfp j (by simp)]; exact hj
 have hjl : j < s.β.length := by rw [hok.len]; exact (qbq.1 hj').1
 have hb3 : (ti.bytes : Int) * (n : Int) ≤ 281474976710656 := by
  have h : ((ti.bytes * n : Nat) : Int) ≤ 281474976710656 := by rw [e4]; omega
  rwa [Int.natCast_mul] at h
 have hrun := run_make (P := P) s.w T e ti zv e1 e2 q2 k k' 0 n (Int.le_refl _) (by omega) hb3 (by omega)
 simp only [qcb, Int.toNat_zero] at hrun
 have hrow := World.ownsRow_made (base := 0) (e := e) (size := ti.size) s.w (madeCells zv.cells (n * ti.size)) n (qb3 _) (by unfold maxLen; omega) (size_madeCells _ _)
 rw [e3] at hrow hrun
 refine ja (s' := ⟨s.β.set j (.slice (some ⟨s.w.heap.size, 0, none⟩) 0 n), s.I, s.M.set j (.arr e sz 0 []), _⟩) (v := .slice (some ⟨s.w.heap.size, 0, none⟩) 0 n) ?_ (g9 hok hj' _ _ _ (by simp) (fun b hb => by cases hb; rfl) (fun b h => Below.heap_alloc _ _ _ h) (fun b hb => by cases hb; simp) (by simp) rfl rfl rfl hrow) rfl (.arr (by simp [hjl]))
 unfold execOp
 simp only [ho, h1, h2]
 exact k6 hrun
theorem A2 {s : St} (hok : Ok s) {i p sz n n' c b : Nat} {T' : TypeId} {L C : List Value} (hM' : s.M[i]? = some (.arr T' sz n L)) (h : s.β[i]? = some (.slice (some ⟨b, 0, none⟩) n' c)) (hfit : p + C.length ≤ L.length) :
  Tr s ⟨s.β, s.I, s.M.set i (.arr T' sz n (jX L p C)), s.w.setCells b p C⟩ ∧ (∀ j, j < C.length → (s.w.cell? ⟨b, p + j, none⟩).isSome = true) ∧ (∀ j, j < C.length → s.w.frozen? ⟨b, p + j, none⟩ = false) := by
 have hk' : s.w.ownsRow 0 T' sz _ n L := hok.blk i _ _ hM' h
 rcases hk'.2 with ⟨e1, e2⟩ | ⟨g, cap, cur, e1, e2, e3, e4, e5, e6, e7⟩
 ·cases e1
 ·cases e1
  have hle := qb6 sz e4
  have hlL := hk'.1
  have hcell := qi e3 0
  have hcurlen : cur.toList.length = c * sz := by simpa using e6
  have hβ : s.β.set i (.slice (some ⟨b, 0, none⟩) n c) = s.β := by
   apply List.ext_getElem?
   intro k
   by_cases e : i = k
   ·subst e; rw [qbG (qbq.1 h).1, h]
   ·rw [qbC e]
  refine ⟨?_, fun j hj => ?_, fun j hj => by simp [World.frozen?, e3]⟩
  ·have ht := yP (k' := .arr T' sz n (jX L p C)) hok hM' rfl h rfl p C ?_
   ·rwa [hβ] at ht
   ·have hsl := gy C cur.toList p
    refine ⟨by rw [gy]; exact hlL, .inr ⟨b, c, (jX cur.toList p C).toArray, rfl, e2, kW b C p s.w cur.toList T' (by simpa using e3), e4, e5, by simp [hsl]; simpa using e6, ?_⟩⟩
    rw [gr C cur.toList p (by omega), gr C L p hfit]
    have hcut : cur.toList = L ++ cur.toList.drop L.length := by
     have := List.take_append_drop (n * sz) cur.toList
     rw [e7, ← hlL] at this
     exact this.symm
    generalize cur.toList.drop L.length = R at hcut
    rw [hcut]
    have t1 : (L ++ R).take p = L.take p := List.take_append_of_le_length (by omega)
    have t2 : (L ++ R).drop (p + C.length) = L.drop (p + C.length) ++ R := List.drop_append_of_le_length (by omega)
    rw [t1, t2, ← hlL, ← qbY]
    refine List.take_left' ?_
    simp; omega
  ·have := hcell (p + j) _ (by simpa using qbr (by simp; omega : p + j < cur.toList.length))
   rw [qbs] at this
   rw [this]; rfl
theorem GI (L : List Value) (p : Nat) : jX L p [] = L := by cases L <;> rfl
theorem A3 {a : Act} {s : St} {T2 : TypeId} {i p n m N : Nat} {d : D} {L L2 : List Value} {fp : List Nat} (hok : Ok s) (hfp : ∀ k ∈ i :: fp, s.M[k]? = M[k]?) (hrx : Rep s (.own i 1 p n) (a.eval x)) (hry : Rep s d (a.eval y)) (ho : o.op = .call { callee := .builtin .copy, args := #[x, y], argTypes := #[T, T2] }) (hT : slE P T = some (e, 1, by')) (hsrc : SrcD M fp d m 1 L2) (hM : M[i]? = some (.arr e 1 N L)) (h1 : L2.all (·.oneCell') = true) :
  DGives P s (fun s' v => s'.M = upd s.M [(i, .arr e 1 N (jX L p (L2.take (min m n))))] ∧ Rep s' (.val (.int .i64 ((min m n : Nat) : Int))) v) ((execOp a.eval o).run P s.w) := by
 obtain ⟨e1, ti, e2, e3, e4⟩ := kS hT
 have hM' : s.M[i]? = some (.arr e 1 N L) := by rw [hfp i (by simp)]; exact hM
 obtain ⟨hl2, a2, c2, hv2, hso⟩ := hsrc s _ hok (fun k hk => hfp k (by simp [hk])) hry
 rw [Nat.mul_one] at hl2
 have hs1 : (P.info? e).map (·.size) = some 1 := by rw [e2]; simp [e3]
 have hil : i < s.M.length := (qbq.1 hM').1
 generalize hv : a.eval x = vx at hrx
 have none_ : ∀ (ad : Option Addr) c, vx = .slice ad n c → min m n = 0 → DGives P s (fun s' v => s'.M = upd s.M [(i, .arr e 1 N (jX L p (L2.take (min m n))))] ∧ Rep s' (.val (.int .i64 ((min m n : Nat) : Int))) v) ((execOp a.eval o).run P s.w) := by
  intro ad c hvx h0
  subst hvx
  have hr := run_copy_none (P := P) s.w T T2 o.type e ad a2 n c m c2 e1 hs1 h0
  rw [h0, List.take_zero, GI]
  refine ja (s' := s) (v := goInt 0) (kR ho (fun cs => rfl) (by simpa [hv, hv2] using hr)) (Tr.refl hok) ?_ (.val _)
  show s.M = s.M.set i _
  have : s.M[i] = .arr e 1 N L := (qbq.1 hM').2
  rw [← this, List.set_getElem_self]
 by_cases h0 : min m n = 0
 ·cases hrx with
  | own h ha hN hz hn hc => exact none_ _ _ rfl h0
  | ownnil h => exact none_ _ _ rfl h0
 ·cases hrx with
  | @own _ _ _ _ N' cap c b ad h ha hN hz hn hc =>
   obtain ⟨e0, e5, _, _, _, _⟩ := xd hok hM' h
   subst e0
   rw [Nat.mul_one] at e5
   have had : ad = some ⟨b, p * 1, none⟩ := ha.resolve_left (by omega)
   rw [Nat.mul_one] at had
   subst had
   obtain ⟨ad2, rfl, hcells⟩ : ∃ ad, a2 = some ad ∧ ∀ (j : Nat) u, L2[j]? = some u → s.w.cell? (ad.add j) = some u := by
    rcases hso with ⟨_, h, _⟩ | h
    ·omega
    ·exact h
   have hC : (L2.take (min m n)).length = min m n := by rw [qbS]; omega
   obtain ⟨t1, t2, t3⟩ := A2 (p := p) (C := L2.take (min m n)) hok hM' h (by omega)
   have hr := run_copy_cells (P := P) s.w T T2 o.type e b p n c ad2 m c2 (L2.take (min m n)) e1 hs1 hC (fun j v hj => hcells j v (by
     rw [List.getElem?_take] at hj
     split at hj
     ·exact hj
     ·cases hj)) t2 t3 (fun v hv => qbX.1 h1 v (List.mem_of_mem_take hv))
   rw [hC] at hr
   exact ja (v := goInt ((min m n : Nat) : Int)) (kR ho (fun cs => rfl) (by simpa [hv, hv2] using hr)) t1 rfl (.val _)
  | ownnil h => omega
theorem Ua {T2 : TypeId} {i p n m N : Nat} {d : D} {L L2 : List Value} {fp : List Nat} (ho : o.op = .call { callee := .builtin .copy, args := #[x, y], argTypes := #[T, T2] }) (hT : slE P T = some (e, 1, by')) (hx : Ev pc F x (.own i 1 p n)) (hy : Ev pc F y d) (hsrc : SrcD M fp d m 1 L2) (hM : M[i]? = some (.arr e 1 N L)) (h1 : pc = true → L2.all (·.oneCell') = true) :
  DOp P pc o F M (i :: fp) (.val (.int .i64 ((min m n : Nat) : Int))) [(i, .arr e 1 N (jX L p (L2.take (min m n))))] := by
 intro hp a s hok hops hfp
 exact A3 hok hfp (qu hp hx (by simp [ho, Op.operands, Call.operands]) hops) (qu hp hy (by simp [ho, Op.operands, Call.operands]) hops) ho hT hsrc hM (h1 hp)
end
section
variable {P : Program} {pc : Bool} {o : Oper} {F : Fr} {M : List Blk} {T T' : TypeId} {x y : Operand} {k k' : IntKind} {p q : Int}
theorem Ub (p : Int) (j : Nat) : p.fdiv (2 ^ j) = p / 2 ^ j := Int.fdiv_eq_ediv_of_nonneg _ (Int.le_of_lt (Int.pow_pos (by decide)))
theorem Uc (j : Nat) (ho : o.op = .binOp .shr T x y T') (hx : Ev pc F x (.val (.int k p))) (hy : Ev pc F y (.val (.int k' q))) (hq : pc = true → q = (j : Int) ∧ j ≤ k.bits) : DOp P pc o F M [] (.val (.int k (p / 2 ^ j))) [] := by
 refine wH hx hy (by simp [ho, Op.operands]) fun hp a w e1 e2 => ?_
 obtain ⟨h1, h2⟩ := hq hp
 subst h1
 unfold execOp
 simp only [ho, e1, e2]
 refine k6 ?_
 have hg : (eqGuard .shr T x y (.int k p) (.int k' (j : Int))).run P w = .ok () w := by unfold eqGuard; rfl
 rw [Sem.run_bind, hg]
 simp only [Result.andThen, binOp, Op.shift]
 rw [if_neg (by omega), qcb, Nat.min_eq_left h2]
 simp [Ub]
theorem A4 (j : Nat) (ho : o.op = .binOp .shl T x y T') (hx : Ev pc F x (.val (.int k p))) (hy : Ev pc F y (.val (.int k' q))) (hq : pc = true → q = (j : Int) ∧ j ≤ k.bits) : DOp P pc o F M [] (.val (.int k (k.wrap (p * 2 ^ j)))) [] := by
 refine wH hx hy (by simp [ho, Op.operands]) fun hp a w e1 e2 => ?_
 obtain ⟨h1, h2⟩ := hq hp
 subst h1
 unfold execOp
 simp only [ho, e1, e2]
 refine k6 ?_
 have hg : (eqGuard .shl T x y (.int k p) (.int k' (j : Int))).run P w = .ok () w := by unfold eqGuard; rfl
 rw [Sem.run_bind, hg]
 simp only [Result.andThen, binOp, Op.shift]
 rw [if_neg (by omega), qcb, Nat.min_eq_left h2]
 simp
def orZ (k : IntKind) (p q : Int) : Int := k.wrap (BitVec.ofInt k.bits p ||| BitVec.ofInt k.bits q).toNat
theorem A5 (ho : o.op = .binOp .or T x y T') (hx : Ev pc F x (.val (.int k p))) (hy : Ev pc F y (.val (.int k q))) : DOp P pc o F M [] (.val (.int k (orZ k p q))) [] := gJ ho hx hy fun w => ⟨by unfold eqGuard; rfl, by simp [binOp, Op.intBits, orZ]⟩
theorem A6 {n b j : Nat} (hb : b < 2 ^ j) (hn : n * 2 ^ j + b < 18446744073709551616) : orZ .u64 ((n : Int) * 2 ^ j) b = (n : Int) * 2 ^ j + b := by
 have hn2 : n * 2 ^ j < 18446744073709551616 := by omega
 have e1 : ((n : Int) * 2 ^ j) = ((n * 2 ^ j : Nat) : Int) := by push_cast; rfl
 have e2 : (BitVec.ofInt 64 ((n * 2 ^ j : Nat) : Int) ||| BitVec.ofInt 64 (b : Int)).toNat = n * 2 ^ j + b := by
  rw [BitVec.ofInt_natCast, BitVec.ofInt_natCast, BitVec.toNat_or, BitVec.toNat_ofNat, BitVec.toNat_ofNat, Nat.mod_eq_of_lt (by omega), Nat.mod_eq_of_lt (by omega)]
  have := Nat.shiftLeft_add_eq_or_of_lt hb n
  rw [Nat.shiftLeft_eq] at this
  exact this.symm
 rw [e1]
 show IntKind.u64.wrap ((BitVec.ofInt 64 ((n * 2 ^ j : Nat) : Int) ||| BitVec.ofInt 64 (b : Int)).toNat : Int) = _
 rw [e2, IntWalk.u64_in _ (by omega)]
 push_cast
 rfl
end
section
variable {P : Program} {pc : Bool} {o : Oper} {F : Fr} {M : List Blk} {T : TypeId} {x lo hi mx : Operand} {n sz : Nat} {α : Type} {en : α → List Value} {l : List α} {k k1 k2 : IntKind} {lz hz mz : Int}
theorem Ud (p : Nat) (ho : o.op = .slice T x (some lo) (some hi) (some mx)) (hT : arE P T = some (n, sz)) (hx : Ev pc F x (.dpf (l.flatMap en))) (hlo : Ev pc F lo (.val (.int k lz))) (hhi : Ev pc F hi (.val (.int k1 hz))) (hmx : Ev pc F mx (.val (.int k2 mz))) (hp' : pc = true → lz = (p : Int)) (hq : pc = true → hz = (n : Int)) (hm : pc = true → mz = (n : Int)) (hb : pc = true → p ≤ n) (hl : l.length = n) (hn : n ≤ maxLen) (hen : ∀ a, (en a).length = sz) :
  DOp P pc o F M [] (.slf sz (l.drop p).length ((l.drop p).flatMap en)) [] := by
 intro hp a s hok hops _
 have b1 := hb hp
 have hr := qu hp hx (by simp [ho, Op.operands]) hops
 have h1 := (qu hp hlo (by simp [ho, Op.operands]) hops).val_eq
 have h2 := (qu hp hhi (by simp [ho, Op.operands]) hops).val_eq
 have h3 := (qu hp hmx (by simp [ho, Op.operands]) hops).val_eq
 rw [hp' hp] at h1
 rw [hq hp] at h2
 rw [hm hp] at h3
 obtain ⟨e, i, e1, e2, e3⟩ := uF hT
 have hlen : (l.drop p).length = n - p := by rw [qbZ]; omega
 generalize hv : a.eval x = vx at hr
 cases hr with
 | @dpf b off _ hI hc =>
  have sb : ∀ (k : IntKind) (z : Nat) (m : Nat) (cd : BoundsCode), z ≤ m → (Instr.sliceBound (.int k z) m cd).run P s.w = .ok z s.w := fun k z m cd b => by
   simp [Instr.sliceBound, asIntOf, b]
  have hbs : (Instr.sliceBounds false n n (some (a.eval lo)) (some (a.eval hi)) (some (a.eval mx))).run P s.w = .ok (p, n, n) s.w := by
   rw [h1, h2, h3]
   simp [Instr.sliceBounds, sb k p n _ b1, sb k1 n n _ (qbM _), sb k2 n n _ (qbM _)]
  have hrun : (execOp a.eval o).run P s.w = .ok (.value (.slice (some (if n = p then ⟨b, off, none⟩ else (⟨b, off, none⟩ : Addr).add (p * sz))) (n - p) (n - p))) s.w := by
   unfold execOp
   simp only [ho, hv]
   refine k6 ?_
   simp [Instr.sliceAt, Instr.sureAddr, run_underlying e1, Sem.run_bind, hbs, sizeOf, typeInfo, e2, e3]
  refine qU hok hrun ?_
  rw [hlen]
  have hpart : (l.drop p).flatMap en = (l.flatMap en).drop (p * sz) := by rw [yH hen]
  have hfl : ((l.drop p).flatMap en).length = (n - p) * sz := by rw [j3 hen, hlen]
  refine .slf hfl (qbM _) (by omega) (fun e => by cases e) ?_
  by_cases hz0 : n - p = 0
  ·left
   exact qbU (by rw [hfl, hz0]; simp)
  ·right
   rw [if_neg (by omega)]
   refine ⟨b, off + p * sz, by rw [Gj], hI, ?_⟩
   rw [hpart]
   intro j v hj
   rw [qcd] at hj
   rw [Nat.add_assoc]
   exact hc _ v hj
end
section
variable {P : Program} {pc : Bool} {o : Oper} {F : Fr} {M : List Blk} {T e : TypeId} {by' n : Nat} {ds : List D} {Z : List Value}
def D.isSlf : D → Bool
 | .slf _ _ _ => true
 | _ => false
theorem QD : ∀ {ds : List D}, ds.all D.isSlf = true → D.nlL ds = true
 | [], _ => rfl
 | d :: ds, h => by
  rw [List.all_cons, qbu] at h
  have h2 := QD h.2
  cases d with
  | slf sz n L => simp [D.nlL, D.nl, h2]
  | _ => cases h.1
theorem GJ {s : St} {d : D} {v : Value} (h : Rep s d v) (hd : d.isSlf = true) : v.cells = #[v] := by
 cases h <;> first | rfl | cases hd
theorem YT {ps : List (Nat × Operand)} (ho : o.op = .buildSlice T n ps.toArray) (hT : slE P T = some (e, 1, by')) (hZ : zrC P e = some Z) (hi : ps.map (·.1) = List.range' 0 n) (hv : EvL pc F (ps.map (·.2)) ds) (hs : ds.all D.isSlf = true) (hn : n ≤ 16777216) :
  DOp P pc o F M [] (.slm 1 n ds) [] := by
 intro hp a s hok hops _
 obtain ⟨r1, r2⟩ := gv (a := a) (s := s) hp _ _ hv (fun x hx => hops x (by rw [ho]; simpa [Op.operands] using hx))
 obtain ⟨vs, hvs⟩ : ∃ vs, vs = (ps.map (·.2)).map a.eval := ⟨_, rfl⟩
 rw [← hvs] at r1 r2
 have hcell : ∀ v ∈ vs, v.cells = #[v] := fun v hv' => by
  obtain ⟨j, hj, rfl⟩ := qcc hv'
  have hj2 : j < ds.length := by omega
  exact GJ (r2 j _ _ (qbr hj2) (qbr hj)) (qbX.1 hs _ (qb9 hj2))
 have hlen : vs.length = n := by
  rw [hvs, qcf, qcf]
  have := congrArg List.length hi
  simpa using this
 have hflat : ∀ us : List Value, (∀ v ∈ us, v.cells = #[v]) → (us.flatMap fun v => v.cells.toList) = us := fun us h => by
  induction us with
  | nil => rfl
  | cons u us ih => rw [qbJ, h u (qb1 ..), ih fun v hv => h v (qb4 _ hv)]; rfl
 have hrun := gc (P := P) (w := s.w) ho hT hZ hi hvs.symm (fun v hv => by rw [hcell v hv]; rfl) (by omega)
 rw [hflat vs hcell] at hrun
 have ht := vX hok (.cells vs.toArray e)
 refine ja (s' := ⟨s.β, fun b => s.I b ∨ b = s.w.heap.size, s.M, _⟩) hrun ht rfl (.slm (QD hs) (by omega) (qbM _) (by unfold maxLen; omega) (fun e => by cases e) r1 (fun j d v h1 h2 => (r2 j d v h1 h2).mono hok ht) (.inr ⟨_, 0, rfl, .inr rfl, ?_⟩))
 simpa using qi (heap_alloc_new s.w _) 0
theorem Ue : ∀ {l : List D} {j : Nat} {d : D}, D.nlL l = true → l[j]? = some d → d.nl = true
 | [], j, d, _, h => by simp at h
 | a :: l, j, d, h, hj => by
  unfold D.nlL at h
  rw [qbu] at h
  cases j with
  | zero => simp at hj; subst hj; exact h.1
  | succ j => exact Ue h.2 (by simpa using hj)
theorem gd {x y : Operand} {k : IntKind} {z : Int} {d : D} (j : Nat) (ho : o.op = .indexAddr T x y) (hT : slE P T = some (e, 1, by')) (hx : Ev pc F x (.slm 1 n ds)) (hy : Ev pc F y (.val (.int k z))) (hz : pc = true → z = (j : Int)) (hd : ds[j]? = some d) : DOp P pc o F M [] (.dpm [d]) [] := by
 intro hp a s hok hops _
 have hr := qu hp hx (by simp [ho, Op.operands]) hops
 have h2 := (qu hp hy (by simp [ho, Op.operands]) hops).val_eq
 have hjl : j < ds.length := (qbq.1 hd).1
 have hz' := hz hp
 generalize hv : a.eval x = vx at hr
 cases hr with
 | @slm _ _ cap ad _ vs hnl hl hn hc ha hvl h hm =>
  rcases hm with hm | ⟨b, q, rfl, hI, hcl⟩
  ·rw [hm] at hjl; simp at hjl
  ·have hrun := gq (P := P) (w := s.w) ho hT hv h2 (by omega) (by omega)
   rw [Addr.add_mid] at hrun
   have hjv : j < vs.length := by omega
   refine qU hok hrun (.dpm (vs := [vs[j]]) ?_ hI (fun i v hi => ?_) rfl (fun i d' v h1 h2 => ?_))
   ·unfold D.nlL
    rw [Ue hnl hd]; rfl
   ·cases i with
    | zero =>
     simp at hi
     subst hi
     have e : q + z.toNat * 1 + 0 = q + j := by omega
     rw [e]
     exact hcl j _ (qbr hjv)
    | succ i => simp at hi
   ·cases i with
    | zero =>
     simp at h1 h2
     subst h1 h2
     exact h j _ _ hd (qbr hjv)
    | succ i => simp at h1
end
section
variable {P : Program} {pc : Bool} {o : Oper} {F : Fr} {M : List Blk}
def D.oc : D → Bool
 | .slf _ _ _ => true
 | .slm _ _ _ => true
 | .arr _ => true
 | .fn _ _ _ => true
 | .farr _ _ => true
 | .floc _ _ _ => true
 | .val u => u.oneCell'
 | _ => false
theorem YU {s : St} {d : D} {v : Value} (h : Rep s d v) (hd : d.oc = true) : v.oneCell' = true := by
 cases h with
 | val v => exact hd
 | slf => rfl
 | slm => rfl
 | arr => rfl
 | fn => rfl
 | farr => rfl
 | floc => rfl
 | _ => cases hd
theorem xg {T : TypeId} {ps : List (Nat × Operand)} {vs : List Value} {offs : List (Nat × Nat)} {Z R : List Value} {a : Act} {w : World} (ho : o.op = .build T ps.toArray) (hT : fdL P T = some offs) (hZ : zrC P T = some Z) (hvs : (ps.map (·.2)).map a.eval = vs)
  (hB : wb offs Z.length ((ps.map (·.1)).zip (vs.map fun v => v.cells.toList)) = true) (hR : vS offs Z ((ps.map (·.1)).zip (vs.map fun v => v.cells.toList)) = R) : (execOp a.eval o).run P w = .ok (.value (.agg R.toArray)) w := by
 obtain ⟨i, z, e1, e2, e3⟩ := jA hZ
 unfold fdL at hT
 split at hT
 ·rename_i fs hu
  have hparts : (ps.toArray.map fun (i, x) => (i, a.eval x)).toList = (ps.map (·.1)).zip vs := by
   rw [← hvs]
   simp only [List.map_toArray]
   clear hB hR hvs ho
   induction ps with
   | nil => rfl
   | cons p ps ih => simp only [List.map_cons, List.zip_cons_cons]; rw [← ih]
  have hz : ((ps.map (·.1)).zip vs).map (fun p => (p.1, p.2.cells.toList)) = (ps.map (·.1)).zip (vs.map fun v => v.cells.toList) := by
   rw [List.zip_map_right]
   rfl
  have hpl : (fs.mapM fun f => (do pure (f.offset, ← sizeOf f.type) : Sem (Nat × Nat))).run P w = .ok offs.toArray w := by
   rw [Array.mapM_eq_mapM_toList, Sem.run_map, zy (P := P) (w := w) _ _ (fun f b hb => ?_) fs.toList offs hT]
   ·rfl
   ·simp only [qbL] at hb
    obtain ⟨j, hj, rfl⟩ := hb
    simp [sizeOf, typeInfo, hj]
  have hf := wc (offs := offs) ((ps.map (·.1)).zip vs) z.cells (by rw [hz, ← Array.length_toList, e3]; exact hB)
  rw [hz, e3, hR] at hf
  unfold execOp
  simp only [ho]
  refine k6 ?_
  have hz0 : (zeroValue T).run P w = .ok z w := by simp [zeroValue, typeInfo, e1, e2]
  simp only [Instr.build, Sem.run_bind, hz0, run_underlying hu, Result.andThen_ok, hpl, hparts, hf, Sem.run_pure]
 ·cases hT
theorem JE {T : TypeId} {x : Operand} {d : D} {offs : List (Nat × Nat)} {z0 : Value} {Z : List Value} (ho : o.op = .build T #[(0, x)]) (hT : fdL P T = some ((0, 1) :: offs)) (hZ : zrC P T = some (z0 :: Z)) (hx : Ev pc F x d) (hd : d.isSlf = true) : DOp P pc o F M [] (.agg (d :: Z.map .val)) [] := by
 intro hp a s hok hops _
 have hr := qu hp hx (by simp [ho, Op.operands]) hops
 have hc := GJ hr hd
 have hrun := xg (P := P) (ps := [(0, x)]) (vs := [a.eval x]) (a := a) (w := s.w) (R := a.eval x :: Z) ho hT hZ rfl (by simp [wb, hc]) (by simp [vS, hc, jX])
 refine qU hok hrun (.agg (by simp) fun j e v h1 h2 => ?_)
 cases j with
 | zero => simp at h1 h2; subst h1 h2; exact hr
 | succ j =>
  simp at h1 h2
  rw [h2] at h1
  simp at h1
  subst h1
  exact .val _
theorem JF {T : TypeId} {x : Operand} {ds : List D} {Z : List Value} (ho : o.op = .build T #[(0, x)]) (hx : Ev pc F x (.agg ds)) (hT : fdL P T = some [(0, ds.length)]) (hZ : zrC P T = some Z) (hl : Z.length = ds.length) : DOp P pc o F M [] (.agg ds) [] := by
 intro hp a s hok hops _
 have hr := qu hp hx (by simp [ho, Op.operands]) hops
 generalize hv : a.eval x = vx at hr
 cases hr with
 | @agg _ vs hvl h =>
  have hrun := xg (P := P) (ps := [(0, x)]) (vs := [.agg vs.toArray]) (a := a) (w := s.w) (R := vs) ho hT hZ (by simp [hv]) (by simp [wb, Value.cells, hvl, hl]) (by
   simp only [List.map_cons, List.map_nil, List.zip_cons_cons, List.zip_nil_left, vS, List.getElem?_cons_zero, Value.cells]
   exact uG (by omega))
  exact qU hok hrun (.agg hvl h)
theorem qd {T : TypeId} {x : Operand} {ds : List D} (j : Nat) (ho : o.op = .box T x) (hx : Ev pc F x (.agg ds)) (hj : M[j]? = some .hole) : DOp P pc o F M [j] (.loc j 0) [(j, .mix T ds)] := by
 intro hp a s hok hops hfp
 have hr := qu hp hx (by simp [ho, Op.operands]) hops
 have hj' : s.M[j]? = some .hole := by rw [hfp j (by simp)]; exact hj
 have hjl : j < s.β.length := by rw [hok.len]; exact (qbq.1 hj').1
 have hβ : s.β[j]? = some .nilFunc := by
  have e : s.β[j]? = some s.β[j] := qbr hjl
  have : s.β[j] = .nilFunc := hok.blk j .hole _ hj' e
  rw [e, this]
 generalize hv : a.eval x = vx at hr
 cases hr with
 | @agg _ vs hvl h =>
  have ht : Tr s ⟨s.β.set j (.pointer (some ⟨s.w.heap.size, 0, none⟩)), s.I, s.M.set j (.mix T ds), s.w.alloc (.cells vs.toArray T)⟩ := by
   refine g9 hok hj' _ _ _ (by simp) (fun b hb => by simpa [hb] using (qbw hb).symm) (fun b h => Below.heap_alloc _ _ _ h) (fun b hb => ?_) (by simp) rfl rfl rfl ⟨_, vs, rfl, heap_alloc_new s.w _, hvl, fun k e v hk hv => ?_⟩
   ·cases hb; simp
   ·refine Rep.mono' (s := s) (s' := ⟨s.β.set j (.pointer (some ⟨s.w.heap.size, 0, none⟩)), s.I, s.M.set j (.mix T ds), s.w.alloc (.cells vs.toArray T)⟩) (fun i h hi hne => ?_) (fun _ h => h) (fun b hI => Below.heap_alloc _ _ _ (hok.il b hI)) (h k e v hk hv)
    show (s.β.set j _)[i]? = some h
    by_cases e : j = i
    ·subst e; rw [hi] at hβ; exact absurd (qbw hβ) hne
    ·rw [qbC e]; exact hi
  refine ja (v := .pointer (some ⟨s.w.heap.size, 0, none⟩)) ?_ ht rfl (xU hjl rfl)
  unfold execOp
  simp only [ho, hv]
  rfl
theorem kw {T T' : TypeId} {x y : Operand} {i k : Nat} {rw' : Bool} {ds : List D} {L : List Value} (ho : o.op = .store T x y) (hT : tyB P T = some (rw', k)) (hx : Ev pc F x (.loc i 0)) (hy : Ev pc F y (.agg ds)) (hM : M[i]? = some (.flat T' L)) (hk : ds.length = k) (hfit : ds.length = L.length) (h1 : ds.all D.oc = true) : DOp P pc o F M [i] .junk [(i, .mix T' ds)] := by
 intro hp a s hok hops hfp
 have hr := qu hp hx (by simp [ho, Op.operands]) hops
 have hry := qu hp hy (by simp [ho, Op.operands]) hops
 have hM' : s.M[i]? = some (.flat T' L) := by rw [hfp i (by simp)]; exact hM
 generalize hv : a.eval x = vx at hr
 generalize hvy : a.eval y = vy at hry
 cases hr with
 | @loc _ _ b h =>
  cases hry with
  | @agg _ vs hvl hd =>
   obtain ⟨b', e1, e2⟩ := hok.blk i _ _ hM' h
   cases e1
   have hcell := qi e2 0
   have hoc : ∀ u ∈ vs, u.oneCell' = true := fun u hu => by
    obtain ⟨j, hj, rfl⟩ := qcc hu
    have hj2 : j < ds.length := by omega
    exact YU (hd j _ _ (qbr hj2) (qbr hj)) (qbX.1 h1 _ (qb9 hj2))
   have hrun := ya (P := P) (w := s.w) (C := vs) ho hT hv hvy rfl (by omega) (fun j hj => by
     have hp' : j < L.length := by omega
     have := hcell j L[j] (by simp [hp'])
     rw [qbs] at this
     rw [qbs, this]; rfl) (fun j hj => by simp [World.frozen?, e2]) hoc
   have hβ : s.β.set i (.pointer (some ⟨b, 0, none⟩)) = s.β := by
    apply List.ext_getElem?
    intro k
    by_cases e : i = k
    ·subst e; rw [qbG (qbq.1 h).1, h]
    ·rw [qbC e]
   refine vA (s' := ⟨s.β.set i (.pointer (some ⟨b, 0, none⟩)), s.I, s.M.set i (.mix T' ds), s.w.setCells b 0 vs⟩) hrun (yP hok hM' rfl h rfl 0 _ ?_) rfl
   have hall : jX L 0 vs = vs := uG (by omega)
   have hblk := kW b vs 0 s.w L T' e2
   rw [hall] at hblk
   refine ⟨b, vs, rfl, hblk, hvl, fun j e v hj hv' => ?_⟩
   refine Rep.mono' (s := s) (s' := ⟨s.β.set i (.pointer (some ⟨b, 0, none⟩)), s.I, s.M.set i (.mix T' ds), s.w.setCells b 0 vs⟩) (fun k x hk _ => by show (s.β.set i _)[k]? = _; rw [hβ]; exact hk) (fun _ h => h) (fun b' hI => kX b _ 0 s.w b' fun e => ?_) (hd j e v hj hv')
   subst e
   exact (hok.lt b' (qq hM' rfl h rfl)).2 hI
end
section
variable {P : Program} {pc : Bool} {o : Oper} {F : Fr} {M : List Blk}
def ptT (P : Program) (T : TypeId) : Option TypeId := match P.underlying T with
 | some (.pointer e) => some e
 | _ => none
theorem uN {P : Program} {T e : TypeId} (h : ptT P T = some e) : P.underlying T = some (.pointer e) := by
 unfold ptT at h
 split at h
 ·rename_i e' h1; cases h; exact h1
 ·cases h
theorem QE {T T' e : TypeId} {x : Operand} {i q : Nat} (ho : o.op = .binOp .eql T x (.const (.pointer none)) T') (hT : ptT P T = some e) (hx : Ev pc F x (.loc i q)) : DOp P pc o F M [] (.val (.bool false)) [] := by
 intro hp a s hok hops _
 have hr := qu hp hx (by simp [ho, Op.operands]) hops
 generalize hv : a.eval x = vx at hr
 cases hr with
 | @loc _ _ b h =>
  refine qU (v := .bool false) hok ?_ (.val _)
  unfold execOp
  simp only [ho, hv]
  refine k6 ?_
  have hc : a.eval (.const (.pointer none)) = .pointer none := rfl
  rw [hc]
  have hg : (eqGuard .eql T x (.const (.pointer none)) (.pointer (some ⟨b, q, none⟩)) (.pointer none)).run P s.w = .ok () s.w := by unfold eqGuard; rfl
  rw [Sem.run_bind, hg]
  have he := run_equal_pointer_nil (P := P) s.w T (some ⟨b, q, none⟩) (by rw [show P.pointee T = e by simp [Program.pointee, uN hT]]; exact uN hT)
  simp only [Result.andThen, binOp, Sem.run_bind, he]
  rfl
end
section
variable {P : Program} {pc : Bool} {o : Oper} {F : Fr} {M : List Blk}
theorem QF {α : Type} {en : α → List Value} {r : List α} {T e : TypeId} {sz by' : Nat} {x hi mx : Operand} {k k' : IntKind} {h h' : Int} {j : Nat} (ho : o.op = .slice T x none (some hi) (some mx)) (hT : slE P T = some (e, sz, by')) (hx : Ev pc F x (.slf sz r.length (r.flatMap en))) (hhi : Ev pc F hi (.val (.int k h))) (hmx : Ev pc F mx (.val (.int k' h')))
  (hh : pc = true → h = (j : Int)) (hm : pc = true → h' = (j : Int)) (hj : pc = true → j ≤ r.length) (hen : ∀ a, (en a).length = sz) : DOp P pc o F M [] (.slf sz (r.take j).length ((r.take j).flatMap en)) [] := by
 intro hp a s hok hops _
 have hr := qu hp hx (by simp [ho, Op.operands]) hops
 have e1 := (qu hp hhi (by simp [ho, Op.operands]) hops).val_eq
 have e2 := (qu hp hmx (by simp [ho, Op.operands]) hops).val_eq
 rw [hh hp] at e1
 rw [hm hp] at e2
 have hjl := hj hp
 obtain ⟨q1, ti, q2, q3, q4⟩ := kS hT
 have hlen : (r.take j).length = j := by rw [qbS]; omega
 generalize hv : a.eval x = vx at hr
 cases hr with
 | @slf _ _ cap ad _ hl hn hc ha hL =>
  have hjc : j ≤ cap := by omega
  have hrun : (execOp a.eval o).run P s.w = .ok (.value (.slice ad j j)) s.w := by
   unfold execOp
   simp only [ho, hv, Option.map_some, Option.map_none, e1, e2]
   refine k6 ?_
   have hj0 : (0 : Int) ≤ (j : Int) ∧ (j : Int) ≤ (cap : Int) := by omega
   simp [Instr.sliceAt, Instr.slice, run_underlying q1, Sem.run_bind, Instr.sliceBounds, Instr.sliceBound, asIntOf, hjc, sizeOf, typeInfo, q2, Addr.add_zero']
  refine qU hok hrun ?_
  rw [hlen]
  refine .slf (by rw [j3 hen, hlen]) (qbM _) (by omega) (fun e => by have := ha e; omega) ?_
  rcases hL with hL | ⟨b, q, e, hI, hcl⟩
  ·left
   have : (r.take j).flatMap en = (r.flatMap en).take (j * sz) := by rw [yI hen]
   rw [this, hL]; simp
  ·right
   refine ⟨b, q, e, hI, ?_⟩
   have : (r.take j).flatMap en = (r.flatMap en).take (j * sz) := by rw [yI hen]
   rw [this]
   have h5 := qN hcl 0 (j * sz)
   simpa using h5
end
end Go.Proofs.YtofklkbfkoliiaaGreat
namespace Go.Proofs.YtofklkbfkoliiaaGreat
set_option linter.unusedVariables false
set_option linter.unusedSimpArgs false
open Go.RowKit
def Uf (md : Region.Mode) (ops : Array Oper) : Nat → Array Bool → List (List Nat)
 | 0, _ => [[]]
 | f + 1, listed => match Region.ready md ops listed with
  | [] => [[]]
  | i :: r => (i :: r).flatMap fun j => (Uf md ops f (listed.setIfInBounds j true)).map (j :: ·)
theorem QG {md : Region.Mode} {ops : Array Oper} : ∀ (f t : Nat) (listed : Array Bool), Region.linearise.go md ops f t listed [] ∈ Uf md ops f listed
 | 0, t, listed => by simp [Region.linearise.go, Uf]
 | f + 1, t, listed => by
  simp only [Region.linearise.go]
  change (match (Region.ready md ops listed)[t % (Region.ready md ops listed).length]? with
   | some i => Region.linearise.go md ops f (t / (Region.ready md ops listed).length) (listed.setIfInBounds i true) [i]
   | none => [].reverse) ∈ _
  unfold Uf
  cases hr : Region.ready md ops listed with
  | nil => simp
  | cons x xs =>
   have hlt : t % (x :: xs).length < (x :: xs).length := Nat.mod_lt _ (by simp)
   rw [qbr hlt]
   simp only []
   rw [linearise_go_acc, List.reverse_singleton, List.singleton_append]
   exact List.mem_flatMap.2 ⟨_, qb9 hlt, List.mem_map.2 ⟨_, QG f _ _, rfl⟩⟩
def Ug (ops : Array Oper) : List (List Nat) := Uf .any ops ops.size (qb8 ops.size false)
theorem YV {P : Program} {ops : Array Oper} (hm : P.follows .mixedOrders = true) (t : Nat) : Region.schedule (P.follows .mixedOrders) ops t ∈ Ug ops := by
 simp only [Region.schedule, hm, Bool.true_or, if_true]
 exact QG _ _ _
def GK (ops : Array Oper) (L : List Nat) : List Oper := L.filterMap (ops[·]?)
theorem zE {G : Fence} {k : Nat} {P : Program} {ops : Array Oper} {Q : Exit → Act → World → Prop} : ∀ L : List Nat, wpOpsIn G k P ops Q L = wpListIn G k P ops Q (GK ops L)
 | [] => by funext a w; rfl
 | i :: L => by
  funext a w
  have ih := zE (G := G) (k := k) (P := P) (ops := ops) (Q := Q) L
  cases ho : ops[i]? with
  | none => simp only [wpOpsIn, GK, List.filterMap_cons, ho]; exact congrFun (congrFun ih a) w
  | some o => simp only [wpOpsIn, GK, List.filterMap_cons, ho, wpListIn]; rw [ih]; rfl
theorem VP {P : Program} {ops : Array Oper} {Q : Exit → Act → World → Prop} {b : Frame} {k : List Item} {cs : List Frame} {tail : List Nat} (hro : b.roundOf = none)
  (hQ : ∀ e a w, Q e a w → e = .normal) (l : List Nat) :
  ∀ (a : Act) (w : World), wpOpsIn (wd none) 0 P ops Q l a w →
   ∃ a' w', Q .normal a' w' ∧ StepsIn (Machine.fenced P Fence.wide) P (lone (b.atR a (.inRegion ops (l ++ tail) :: k)) cs w) (lone (b.atR a' (.inRegion ops tail :: k)) cs w') := by
 induction l with
 | nil => exact fun a w h => ⟨a, w, h, StepsIn.refl _⟩
 | cons i rest ih =>
  intro a w h
  simp only [wpOpsIn] at h
  rw [qbD]
  cases ho : ops[i]? with
  | none =>
   simp only [ho] at h
   obtain ⟨a', w', hq, hs'⟩ := ih a w h
   have hs := stepR_op_skip (P := P) (b := b) (a := a) (k := k) (cs := cs) (w := w) (ops := ops) (i := i) (rest := rest ++ tail) (by simp [ho])
   simp only [ho, Option.bind_none, Act.put] at hs
   exact ⟨a', w', hq, .head (fenced_wide _ _) hs hs'⟩
  | some o =>
   simp only [ho] at h
   by_cases hw : Region.wanted o (yielded ops a.tmps) = true
   ·simp only [hw, if_true, Oper.wpIn] at h
    obtain ⟨_, h⟩ := h
    rw [show (wd none).round = none from rfl] at h
    simp only [Oper.uponIn] at h
    have hg := stepGR_op (P := P) (b := b) (k := k) (cs := cs) (w := w) (rest := rest ++ tail) ho hw
    rw [hro] at hg
    have hfin : ∀ v, (b.atR a (.inRegion ops (i :: (rest ++ tail)) :: k)).finish v = b.atR (a.put o.dst v) (.inRegion ops (rest ++ tail) :: k) := by
     intro v; rw [Frame.finish_atR, ho]; rfl
    split at h
    ·rename_i v w' hr'
     have hr'' : (o.semAt none a.eval).run P w = .ok (.value v) w' := hr'
     obtain ⟨a', w'', hq, hs'⟩ := ih _ _ h
     refine ⟨a', w'', hq, .head (fenced_wide _ _) (step_lone_go ?_) hs'⟩
     rw [hg, ← hfin]; simp [stepG.apply, hr'']
    ·rename_i w' hr'
     have hr'' : (o.semAt none a.eval).run P w = .ok .skip w' := hr'
     obtain ⟨a', w'', hq, hs'⟩ := ih _ _ h
     refine ⟨a', w'', hq, .head (fenced_wide _ _) (step_lone_go ?_) hs'⟩
     rw [hg, ← hfin]; simp [stepG.apply, hr'']
    ·rename_i d w' hr'
     have hr'' : (o.semAt none a.eval).run P w = .ok (.defer d) w' := hr'
     obtain ⟨a', w'', hq, hs'⟩ := ih _ _ h
     refine ⟨a', w'', hq, .head (fenced_wide _ _) (step_lone_go ?_) hs'⟩
     have : ({ b.atR a (.inRegion ops (i :: (rest ++ tail)) :: k) with defers := d :: a.defers } : Frame).finish undef =
       b.atR ({ a with defers := d :: a.defers }.put o.dst undef) (.inRegion ops (rest ++ tail) :: k) := by
      have := Frame.finish_atR b { a with defers := d :: a.defers } ops i (rest ++ tail) k undef
      rw [ho] at this; exact this
     rw [hg]; simp only [stepG.apply, Sem.runT_eq, hr'', GStep.bare_after]
     exact congrArg (fun fr => GStep.go { frame := fr, callers := cs, status := .running, dying := none } w') this
    ·rename_i f args w' hr'
     have hr'' : (o.semAt none a.eval).run P w = .ok (.enter f args) w' := hr'
     obtain ⟨hn, hF, h⟩ := h
     obtain ⟨e, w'', fr, hR, hsteps, hfn, hleave⟩ := h (b.atR a (.inRegion ops (i :: (rest ++ tail)) :: k) :: cs) (yg _ _)
     have henter : step P (lone (b.atR a (.inRegion ops (i :: (rest ++ tail)) :: k)) cs w) =
       .next (lone (Frame.enter P f args .normal) (b.atR a (.inRegion ops (i :: (rest ++ tail)) :: k) :: cs) w') :=
      step_lone_go (by rw [hg]; simp [stepG.apply, hr'', Frame.atR])
     cases e with
     | returned v =>
      obtain ⟨a', w₃, hq, hs'⟩ := ih _ _ hR
      refine ⟨a', w₃, hq, .head (fenced_wide _ _) henter (StepsIn.trans (hsteps.mono fun _ _ => fenced_wide _ _) (.head (fenced_wide _ _) ?_ hs'))⟩
      rw [← hfin]; exact step_leave_returned hleave
     | panicked chain => cases hQ _ _ _ hR
     | outgrown => obtain ⟨a₀, w₀, hq⟩ := hR; cases hQ _ _ _ hq
    ·rename_i row args w' hr'
     have hr'' : (o.semAt none a.eval).run P w = .ok (.row row args) w' := hr'
     obtain ⟨hn, h⟩ := h
     obtain ⟨v, w'', hR, hsteps⟩ := h (b.atR a (.inRegion ops (i :: (rest ++ tail)) :: k)) cs (yg _ _)
     have henter : step P (lone (b.atR a (.inRegion ops (i :: (rest ++ tail)) :: k)) cs w) =
       .next (lone (Frame.ofRow P row args .normal) (b.atR a (.inRegion ops (i :: (rest ++ tail)) :: k) :: cs) w') :=
      step_lone_go (by rw [hg]; simp [stepG.apply, hr'', Frame.atR])
     obtain ⟨a', w₃, hq, hs'⟩ := ih _ _ hR
     refine ⟨a', w₃, hq, .head (fenced_wide _ _) henter ?_⟩
     rw [← hfin] at hs'; exact StepsIn.trans (hsteps.mono fun _ _ => fenced_wide _ _) hs'
    ·rename_i l f tmps assign body w' hr'
     have hr'' : (o.semAt none a.eval).run P w = .ok (.round l f tmps assign body) w' := hr'
     obtain ⟨hn, _, h⟩ := h
     obtain ⟨e, w'', hR, hsteps⟩ := h (b.atR a (.inRegion ops (i :: (rest ++ tail)) :: k)) cs (yg _ _)
     have henter : step P (lone (b.atR a (.inRegion ops (i :: (rest ++ tail)) :: k)) cs w) =
       .next (lone (Frame.round l f tmps assign body .normal) (b.atR a (.inRegion ops (i :: (rest ++ tail)) :: k) :: cs) w') :=
      step_lone_go (by rw [hg]; simp [stepG.apply, hr'', Frame.atR])
     cases e with
     | returned v =>
      obtain ⟨a', w₃, hq, hs'⟩ := ih _ _ hR
      refine ⟨a', w₃, hq, .head (fenced_wide _ _) henter ?_⟩
      rw [← hfin] at hs'
      have hsteps : StepsIn _ P _ _ := hsteps
      exact StepsIn.trans (hsteps.mono fun _ _ => fenced_wide _ _) hs'
     | panicked chain => cases hQ _ _ _ hR
     | outgrown => obtain ⟨a₀, w₀, hq⟩ := hR; cases hQ _ _ _ hq
    ·rename_i v w' hr'
     cases hQ _ _ _ h
    ·exact h.elim
   ·simp only [hw, if_false, Bool.false_eq_true] at h
    obtain ⟨_, h⟩ := h
    obtain ⟨a', w', hq, hs'⟩ := ih _ _ h
    have hs := stepR_op_skip (P := P) (b := b) (a := a) (k := k) (cs := cs) (w := w) (ops := ops) (i := i) (rest := rest ++ tail)
     (by simp [ho]; simpa using hw)
    simp only [ho, Option.bind_some] at hs
    exact ⟨a', w', hq, .head (fenced_wide _ _) hs hs'⟩
def Kn (Q : Fr → List Blk → Prop) : Cont
 | .normal, F, M => Q F M
 | _, _, _ => False
theorem VQ {fn : Func} {args : List D} {N m : Nat} {s : St} {vs : List Value} (hn : fn.ntmps = N) (hle : Nat.ble args.length N = true) (hok : Ok s) (hr : Reps s args vs) :
  Inv s ⟨N, none, m, [], false⟩ (fr0 0 args) s.M { tmps := vs.toArray ++ qb8 (fn.ntmps - vs.toArray.size) undef, defers := [] } { s.w with drawn := s.w.drawn + 1 } := by
 obtain ⟨hl, hr⟩ := hr
 have hle := qbA hle
 generalize ha : ({ tmps := vs.toArray ++ qb8 (fn.ntmps - vs.toArray.size) undef, defers := [] } : Act) = a0
 have hsize : a0.tmps.size = N := by subst ha; simp; omega
 have hslot : ∀ t d, lk (fr0 0 args) t = some d → Rep s d (ju a0 t) := by
  intro t d hd
  obtain ⟨_, h2⟩ := xc args 0 t d hd
  simp only [Nat.sub_zero] at h2
  have hlt : t < args.length := (qbq.1 h2).1
  have hv : vs[t]? = some vs[t] := qbr (by omega)
  have : ju a0 t = vs[t] := by
   subst ha
   unfold ju
   simp only [Array.getD_eq_getD_getElem?]
   rw [Array.getElem?_append_left (by simp; omega)]
   simp [show t < vs.length by omega]
  rw [this]
  exact hr t d _ h2 hv
 have hst := wB hok { s.w with drawn := s.w.drawn + 1 } rfl rfl rfl rfl
 refine ⟨hok, ⟨s.β, s.I, s.M, { s.w with drawn := s.w.drawn + 1 }⟩, rfl, rfl, hst, fun t d hd => (hslot t d hd).mono hok hst, hsize, ?_⟩
 rw [← ha]
 exact .nil
theorem GL {P : Program} {f : FuncId} {fn : Func} {id : Nat} {ops : Array Oper} {o : Oper} {args : List D} {F0 : Fr} {Min Mout : List Blk} {pn : Option D} {dr : D} {N t : Nat} (m r : Nat) (Ls : List (List Nat)) (hmx : P.follows .mixedOrders = true) (hcb : yW P f = true) (hf : P.funcs[f]? = some fn)
  (hc : fn.body = some (.region id ops true)) (hn : fn.ntmps = N) (hle : Nat.ble args.length N = true) (hF : fr0 0 args = F0) (hm : Min.length = m) (hor : ops[r]? = some o) (hLs : Ug ops = Ls)
  (ho : o.op = .call { callee := .builtin .recover, args := #[], argTypes := #[] }) (hg : o.guard = none) (hd : o.dst = some t) (ht : qcj t N = true)
  (h : ∀ s0 : St, s0.M.length ≤ m → ∀ L ∈ Ls, ∃ L1 L2, L = L1 ++ r :: L2 ∧ Walk P s0 ⟨N, none, m, [], false⟩ ops (GK ops L1) F0 Min
   (Kn fun F M => Walk P s0 ⟨N, none, m, [], false⟩ ops (GK ops L2) ((t, zA pn) :: F) M (Kret P fn m [] (fun d M => d = dr ∧ M = Mout) (fun _ _ => False)))) :
  DDef P f args Min pn none Mout := by
 subst hF
 subst hLs
 refine ⟨hcb, fun s vs u hok hM hr hmode => ⟨trivial, fun c0 cs hu hroom => ?_⟩⟩
 subst hu
 subst hm
 have hlen : s.M.length ≤ Min.length := by rw [hM]; exact qbM _
 let b : Frame := { (default : Frame) with fn := f, kind := .deferred, roundOf := none }
 have henter : Frame.enter P f vs.toArray .deferred = b.atR { tmps := vs.toArray ++ qb8 (fn.ntmps - vs.toArray.size) undef, defers := [] } [.code (.region id ops true)] := by
  simp [Frame.enter, Frame.atR, hf, hc, b]
 rw [henter]
 obtain ⟨L1, L2, hL, hw1⟩ := h s hlen _ (YV (ops := ops) hmx (s.w.tape s.w.drawn (.order b.fn id)))
 have hi := VQ (m := Min.length) hn hle hok hr
 rw [hM] at hi
 have h1 := hw1 _ _ hi
 rw [show Cx.ρ ⟨N, none, Min.length, [], false⟩ s = none from rfl, ← zE] at h1
 obtain ⟨a1, w1, hq1, hs1⟩ := VP (b := b) (k := []) (cs := c0 :: cs) (tail := r :: L2) rfl (fun e a w hq => by
  cases e with
  | normal => rfl
  | ret => obtain ⟨_, _, _, hk⟩ := hq; exact hk.elim
  | exit id => obtain ⟨_, _, _, hk⟩ := hq; exact hk.elim
  | goto l => obtain ⟨_, _, _, hk⟩ := hq; exact hk.elim
  | panic ch => obtain ⟨_, _, _, _, hk⟩ := hq; exact hk.elim
  | outgrown => exact hq.elim) L1 _ _ h1
 obtain ⟨F, M, ⟨h0, s1, q1, q2, q3, q4, q5, q6⟩, hk⟩ := hq1
 obtain ⟨hrec, hset⟩ := ve hmode
 have hi2 : Inv s ⟨N, none, Min.length, [], false⟩ ((t, zA pn) :: F) M (a1.put o.dst (yQ c0.mode).1) w1 := by
  refine ⟨h0, s1, q1, q2, q3, ?_, by rw [ga]; exact q5, by rw [yy]; exact q6⟩
  rw [hd]
  exact FOk.put (s := s1) (F := F) q4 (by rw [q5]; exact Nat.blt_eq.mp ht) (hrec.mono hok q3)
 have h2 := hk _ _ hi2
 rw [show Cx.ρ ⟨N, none, Min.length, [], false⟩ s = none from rfl, ← zE] at h2
 obtain ⟨e, a', w', hq, harr⟩ := wp_opsIn _ _ _ h2 b [] ({ c0 with mode := (yQ c0.mode).2 } :: cs) rfl trivial (yg _ _)
 refine uI (P := P) (b := b) hok hlen hf rfl rfl rfl hset hq (ArrivesIn.of_steps (.head (fenced_wide _ _) stepR_region_draw ?_) harr)
 rw [hL]
 refine StepsIn.trans hs1 (.one (fenced_wide _ _) ?_)
 exact zz (P := P) (b := b) (a := a1) (k := []) (c0 := c0) (cs := cs) (w := w1) (ops := ops) (i := r) (rest := L2) (o := o) rfl rfl hor hg ho
theorem Uh {s : St} {v : Value} (sz : Nat) (h : Rep s (.val (.slice none 0 0)) v) : Rep s (.slf sz 0 []) v := by
 cases h; exact .slf (by simp) (qbM _) (qb3 _) (fun _ => rfl) (.inl rfl)
theorem Ui {pc : Bool} {F : Fr} {x : Operand} (sz : Nat) (h : Ev pc F x (.val (.slice none 0 0))) : Ev pc F x (.slf sz 0 []) := by
 obtain ⟨d, h1, h2⟩ := h
 exact ⟨d, h1, fun s v hp hr => Uh sz (h2 s v hp hr)⟩
section
variable {P : Program} {pc : Bool} {o : Oper} {F : Fr} {M : List Blk}
theorem GM {T T' e : TypeId} {x : Operand} {l : List D} (ho : o.op = .binOp .eql T x (.const (.pointer none)) T') (hT : ptT P T = some e) (hx : Ev pc F x (.dpm l)) : DOp P pc o F M [] (.val (.bool false)) [] := by
 intro hp a s hok hops _
 have hr := qu hp hx (by simp [ho, Op.operands]) hops
 generalize hv : a.eval x = vx at hr
 cases hr with
 | @dpm b q _ _ _ _ _ _ _ =>
  refine qU (v := .bool false) hok ?_ (.val _)
  unfold execOp
  simp only [ho, hv]
  refine k6 ?_
  have hc : a.eval (.const (.pointer none)) = .pointer none := rfl
  rw [hc]
  have hg : (eqGuard .eql T x (.const (.pointer none)) (.pointer (some ⟨b, q, none⟩)) (.pointer none)).run P s.w = .ok () s.w := by unfold eqGuard; rfl
  rw [Sem.run_bind, hg]
  have he := run_equal_pointer_nil (P := P) s.w T (some ⟨b, q, none⟩) (by rw [show P.pointee T = e by simp [Program.pointee, uN hT]]; exact uN hT)
  simp only [Result.andThen, binOp, Sem.run_bind, he]
  rfl
theorem xY {f q : Nat} {T : TypeId} {x : Operand} {l : List D} (ho : o.op = .fieldAddr T x f) (hT : fdO P T f = some q) (hx : Ev pc F x (.dpm l)) : DOp P pc o F M [] (.dpm (l.drop q)) [] := by
 intro hp a s hok hops hfp
 have hr := qu hp hx (by simp [ho, Op.operands]) hops
 generalize hv : a.eval x = vx at hr
 cases hr with
 | @dpm b c _ vs hnl hI hc hl h =>
  refine qU hok (wV ho hT hv) (.dpm (vs := vs.drop q) (vb q hnl) hI (fun j v hj => ?_) (by simp [hl]) fun j d v hj hv => ?_)
  ·rw [qcd] at hj
   rw [Nat.add_assoc]
   exact hc _ v hj
  ·rw [qcd] at hj hv
   exact h _ d v hj hv
end
end Go.Proofs.YtofklkbfkoliiaaGreat
namespace Go.Proofs.YtofklkbfkoliiaaGreat
set_option linter.unusedVariables false
set_option linter.unusedSimpArgs false
open Go.RowKit
def QH (ops : Array Oper) (bj : Nat) (S : List Nat) (sj i j : Nat) (oi oj : Oper) (fi fj : List Nat × List Nat) : Bool :=
 bj.testBit i || !(g8 oi.dst.toList (gn ops oj) || g8 (gn ops oi) oj.dst.toList || (g8 fi.2 fj.1 && !(i == sj && S.contains j)) || (g8 fi.1 fj.2 && !(S.contains i && j == sj)))
def QI (S : List Nat) (sj : Nat) (fpS : List Nat) (n : Nat) (l : List Oper) (fps : List (List Nat × List Nat)) : Bool :=
 let bs := zt l []
 (fps.length == l.length && (qb5 l.length).all fun j =>
  match l[j]?, fps[j]? with
  | some oj, some fj => oj.after.all (fun e => !Region.binds .any e || qcj e.on j) && Jp n oj.dst && gC oj.op && fj.2.all (fun x => fj.1.contains x) && (qb5 j).all fun i =>
   match l[i]?, fps[i]? with
   | some oi, some fi => QH l.toArray (bs.getD j 0) S sj i j oi oj fi fj
   | _, _ => false
  | _, _ => false) && ((qb5 l.length).all fun j => match fps[j]? with
   | some fj => j == sj || !(g8 fj.2 fpS) || (qcj sj j && gF l sj j && S.all fun i => gF l i j)
   | none => false) && qcj sj l.length
def Lex3 (P : Program) (ops : Array Oper) (S : List Nat) (sj : Nat) (fpS : List Nat) (M0 Ma : List Blk) : Nat → List Oper → List (List Nat × List Nat) → Fr → List Blk → (Fr → List Blk → Prop) → Prop
 | _, [], _, F, M, Q => Q F M
 | _, _ :: _, [], _, _, _ => False
 | k, o :: rest, (fp, wi) :: fps, F, M, Q => ∃ pc d wr, Gd ops o F pc ∧ DOp P pc o F M fp d wr ∧ wr.map (·.1) = wi ∧ (o.guard.isSome = true → wr = []) ∧ ((k ∈ S → (∀ x ∈ fp, x ∈ fpS) ∧ wr = [] ∧ DOp P pc o F M0 fp d [] ∧ DOp P pc o F Ma fp d []) ∧ (k = sj → ∀ x ∈ fpS, (upd M0 wr)[x]? = Ma[x]?)) ∧ Lex3 P ops S sj fpS M0 Ma (k + 1) rest fps (putF o.dst (gdd o pc d) F) (upd M wr) Q
theorem KI {P : Program} {ops : Array Oper} {S : List Nat} {sj : Nat} {fpS : List Nat} {M0 Ma : List Blk} {Q : Fr → List Blk → Prop} : ∀ (l : List Oper) (fps : List (List Nat × List Nat)) (F : Fr) (M : List Blk) (b : Nat), fps.length = l.length → Lex3 P ops S sj fpS M0 Ma b l fps F M Q →
  ∃ E : List Rc, E.length = l.length ∧ Q (Fup l E F l.length) (Mup E M l.length) ∧ ∀ (k : Nat) o f, l[k]? = some o → fps[k]? = some f → ∃ pc d r, E[k]? = some r ∧ r.d = gdd o pc d ∧ Gd ops o (Fup l E F k) pc ∧ DOp P pc o (Fup l E F k) (Mup E M k) f.1 d r.wr ∧ r.wr.map (·.1) = f.2 ∧ (o.guard.isSome = true → r.wr = []) ∧
   (b + k ∈ S → (∀ x ∈ f.1, x ∈ fpS) ∧ r.wr = [] ∧ DOp P pc o (Fup l E F k) M0 f.1 d [] ∧ DOp P pc o (Fup l E F k) Ma f.1 d []) ∧ (b + k = sj → ∀ x ∈ fpS, (upd M0 r.wr)[x]? = Ma[x]?)
 | [], [], F, M, b, _, h => ⟨[], rfl, h, fun k o f hk => by simp at hk⟩
 | o :: l, (fp, wi) :: fps, F, M, b, hl, h => by
  obtain ⟨pc, d, wr, h1, h2, h3, h4, ⟨g1, g2⟩, h5⟩ := h
  obtain ⟨E, e1, e2, e3⟩ := KI l fps _ _ (b + 1) (by simpa using hl) h5
  have fup : ∀ k, Fup (o :: l) (⟨gdd o pc d, wr⟩ :: E) F (k + 1) = Fup l E (putF o.dst (gdd o pc d) F) k := by
   intro k
   induction k with
   | zero => rfl
   | succ k ih =>
    rw [Fup]
    simp only [List.getElem?_cons_succ]
    rw [ih]
    conv => rhs; rw [Fup]
  have mup : ∀ k, Mup (⟨gdd o pc d, wr⟩ :: E) M (k + 1) = Mup E (upd M wr) k := by
   intro k
   induction k with
   | zero => rfl
   | succ k ih =>
    rw [Mup]
    simp only [List.getElem?_cons_succ]
    rw [ih]
    conv => rhs; rw [Mup]
  refine ⟨⟨gdd o pc d, wr⟩ :: E, by simp [e1], by rw [qbW, fup, mup]; exact e2, fun k p f hk hf => ?_⟩
  cases k with
  | zero =>
   simp at hk hf
   subst hk; subst hf
   exact ⟨pc, d, _, rfl, rfl, h1, h2, h3, h4, g1, g2⟩
  | succ k =>
   rw [fup, mup, show b + (k + 1) = b + 1 + k by omega]
   simpa using e3 k p f (by simpa using hk) (by simpa using hf)
 | [], _ :: _, _, _, _, hl, _ => by simp at hl
 | _ :: _, [], _, _, _, hl, _ => by simp at hl
section
variable {P : Program} {ops : Array Oper} {S : List Nat} {sj k : Nat} {fpS : List Nat} {M0 Ma : List Blk} {o : Oper} {rest : List Oper} {fp wi : List Nat} {fps : List (List Nat × List Nat)} {F : Fr} {M M1 : List Blk} {Q : Fr → List Blk → Prop} {d : D} {wr : List (Nat × Blk)} {t : Nat}
theorem QJ (hk : (S.contains k || k == sj) = false) (hg : o.guard = none) (h : DOp P true o F M fp d wr) (hw : wr.map (·.1) = wi)
  (hq : Lex3 P ops S sj fpS M0 Ma (k + 1) rest fps (putF o.dst d F) (upd M wr) Q) : Lex3 P ops S sj fpS M0 Ma k (o :: rest) ((fp, wi) :: fps) F M Q := by
 simp only [qbv, beq_eq_false_iff_ne] at hk
 have hk1 : k ∉ S := fun h => by have := hk.1; simp [h] at this
 unfold Lex3
 refine ⟨true, d, wr, gd_n hg, h, hw, fun h => ?_, ⟨fun e => absurd e hk1, fun e => absurd e hk.2⟩, ?_⟩
 ·rw [hg] at h; cases h
 ·unfold gdd; rw [hg]; exact hq
theorem Uj (hk : (S.contains k || k == sj) = false) (hg : o.guard = none) (hd : o.dst = some t) (h : DOp P true o F M fp d [])
  (hq : Lex3 P ops S sj fpS M0 Ma (k + 1) rest fps ((t, d) :: F) M Q) : Lex3 P ops S sj fpS M0 Ma k (o :: rest) ((fp, []) :: fps) F M Q := QJ hk hg h rfl (by rw [hd]; exact hq)
theorem A7 (hk : (S.contains k || k == sj) = false) (hg : o.guard = none) (hd : o.dst = some t) (h : DOp P true o F M fp d wr) (hw : wr.map (·.1) = wi) (hM : upd M wr = M1)
  (hq : Lex3 P ops S sj fpS M0 Ma (k + 1) rest fps ((t, d) :: F) M1 Q) : Lex3 P ops S sj fpS M0 Ma k (o :: rest) ((fp, wi) :: fps) F M Q := QJ hk hg h hw (by rw [hd, hM]; exact hq)
theorem A8 (hk : (S.contains k && !(k == sj)) = true) (hf : (fp.all fun x => fpS.contains x) = true) (hg : o.guard = none) (hd : o.dst = some t) (h : DOp P true o F M fp d []) (h0 : DOp P true o F M0 fp d []) (h' : DOp P true o F Ma fp d [])
  (hq : Lex3 P ops S sj fpS M0 Ma (k + 1) rest fps ((t, d) :: F) M Q) : Lex3 P ops S sj fpS M0 Ma k (o :: rest) ((fp, []) :: fps) F M Q := by
 simp only [qbu, qbx, beq_eq_false_iff_ne] at hk
 unfold Lex3
 refine ⟨true, d, [], gd_n hg, h, rfl, fun _ => rfl, ⟨fun _ => ⟨fun x hx => by simpa using qbX.1 hf x hx, rfl, h0, h'⟩, fun e => absurd e hk.2⟩, ?_⟩
 unfold gdd; rw [hg, hd]; exact hq
theorem A9 (hk : (k == sj && !(S.contains k)) = true) (hg : o.guard = none) (hd : o.dst = some t) (h : DOp P true o F M fp d wr) (hw : wr.map (·.1) = wi) (hM : upd M wr = M1) (hM' : ∀ x ∈ fpS, (upd M0 wr)[x]? = Ma[x]?)
  (hq : Lex3 P ops S sj fpS M0 Ma (k + 1) rest fps ((t, d) :: F) M1 Q) : Lex3 P ops S sj fpS M0 Ma k (o :: rest) ((fp, wi) :: fps) F M Q := by
 simp only [qbu, qbx, beq_iff_eq] at hk
 have hk1 : k ∉ S := fun h => by have := hk.2; simp [h] at this
 unfold Lex3
 refine ⟨true, d, wr, gd_n hg, h, hw, fun h => ?_, ⟨fun e => absurd e hk1, fun _ => hM'⟩, ?_⟩
 ·rw [hg] at h; cases h
 ·unfold gdd; rw [hg, hd, hM]; exact hq
theorem Uk (h : Q F M) : Lex3 P ops S sj fpS M0 Ma k [] [] F M Q := h
end
theorem VR {P : Program} {s0 : St} {n : Cx} {id : Nat} {l : List Oper} {F : Fr} {M : List Blk} {K : Cont} (S : List Nat) (sj : Nat) (fpS : List Nat) (Ma : List Blk) (fps : List (List Nat × List Nat)) (hMaB : Ma.length = M.length) (hm : P.follows .mixedOrders = true) (hB : QI S sj fpS n.n l fps = true) (h : Lex3 P l.toArray S sj fpS M Ma 0 l fps F M (fun F M => K .normal F M)) :
  dwp P s0 n (.region id l.toArray true) F M K := by
 intro a w hi
 refine wpIn_region_any hm ?_
 simp only [QI, qbu, beq_iff_eq, qbX, List.mem_range] at hB
 obtain ⟨⟨⟨hlen, hB⟩, hmid0⟩, hsj⟩ := hB
 have hsj := Nat.blt_eq.mp hsj
 obtain ⟨E, e1, e2, e3'⟩ := KI l fps F M 0 hlen h
 have e3 : ∀ (k : Nat) o f, l[k]? = some o → fps[k]? = some f → ∃ pc d r, E[k]? = some r ∧ r.d = gdd o pc d ∧ Gd l.toArray o (Fup l E F k) pc ∧ DOp P pc o (Fup l E F k) (Mup E M k) f.1 d r.wr ∧ r.wr.map (·.1) = f.2 ∧ (o.guard.isSome = true → r.wr = []) := fun k o f h1 h2 => by
  obtain ⟨pc, d, r, q1, q2, q3, q4, q5, q6, _⟩ := e3' k o f h1 h2
  exact ⟨pc, d, r, q1, q2, q3, q4, q5, q6⟩
 have at_ : ∀ k, k < l.length → ∃ o f, l[k]? = some o ∧ fps[k]? = some f := fun k hk => ⟨l[k], fps[k], qbr hk, qbr (by omega)⟩
 have hone : ∀ (j : Nat) o f, l[j]? = some o → fps[j]? = some f → (∀ e ∈ o.after.toList, Region.binds .any e = true → e.on < j) ∧ Jp n.n o.dst = true ∧ gC o.op = true ∧ (∀ x ∈ f.2, x ∈ f.1) ∧ ∀ (i : Nat) oi fi, i < j → l[i]? = some oi → fps[i]? = some fi → gF l i j = true ∨ (g8 oi.dst.toList (gn l.toArray o) = false ∧ g8 (gn l.toArray oi) o.dst.toList = false ∧ (g8 fi.2 f.1 = false ∨ (i = sj ∧ j ∈ S)) ∧ (g8 fi.1 f.2 = false ∨ (i ∈ S ∧ j = sj))) := by
  intro j o f ho hf
  have hj : j < l.length := (qbq.1 ho).1
  have h1 := hB j hj
  rw [ho, hf] at h1
  simp only [qbu, qbX, List.mem_range] at h1
  obtain ⟨⟨⟨⟨h1, h2⟩, hnd⟩, h3⟩, h4⟩ := h1
  refine ⟨fun e he hb => ?_, h2, hnd, fun x hx => by simpa using h3 x hx, fun i oi fi hij hoi hfi => ?_⟩
  ·have := Array.all_eq_true_iff_forall_mem.1 h1 e (by simpa using he)
   rw [hb] at this
   exact Nat.blt_eq.mp (by simpa using this)
  ·have h5 := h4 i hij
   rw [hoi, hfi] at h5
   simp only [QH, qbE, qbx, qbv, Bool.and_eq_false_iff, qby, qbu, beq_iff_eq, List.contains_iff_mem] at h5
   rcases h5 with h5 | ⟨⟨⟨q1, q2⟩, q3⟩, q4⟩
   ·exact .inl h5
   ·exact .inr ⟨q1, q2, q3, q4⟩
 have meet_no : ∀ {x : List Nat} {y : List Nat} {t : Nat}, g8 x y = false → t ∈ x → t ∈ y → False := by
  intro x y t hm hx hy
  simp only [g8, List.any_eq_false] at hm
  exact hm t hx (by simpa using hy)
 have hM0 : ∃ s : St, s.M = M := by obtain ⟨_, s, h1, _⟩ := hi; exact ⟨s, h1⟩
 have main : ∀ (f : Nat) (listed : Array Bool) (b : Act) (s : St), Ok s0 → listed.size = l.length → unl listed l.length = f → Tr s0 s →
   (∀ t d, lkS l E F (fun k => listed.getD k false) t l.length = some d → Rep s d (ju b t)) → s.M.length = M.length → (∀ i, i < M.length → s.M[i]? = yn E M (fun k => listed.getD k false) i l.length) →
   b.tmps.size = n.n → DfOk s0 s n.mks n.U b.defers → (∀ j i, listed.getD j false = true → j < l.length → gF l i j = true → listed.getD i false = true) →
   wpAnyIn (wd (n.ρ s0)) 0 P .any l.toArray (PostK s0 n K) f listed b s.w := by
  intro f
  induction f with
  | zero =>
   intro listed b s h0 hs hu ht hF hMl hM hn hd _
   have hall := v7 _ hu
   refine ⟨?_, ?_⟩
   ·cases hr : Region.ready .any l.toArray listed with
    | nil => rfl
    | cons i r =>
     have hi : i ∈ Region.ready .any l.toArray listed := by rw [hr]; exact qb1 ..
     obtain ⟨h1, o, h2, _⟩ := mem_ready.1 hi
     have hil : i < l.length := by simpa using (Array.getElem?_eq_some_iff.1 h2).1
     rw [yX hs hil, hall i hil] at h1
     cases h1
   ·refine ⟨_, _, ⟨h0, s, ?_, rfl, ht, ?_, hn, hd⟩, e2⟩
    ·refine List.ext_getElem? fun i => ?_
     by_cases hi : i < M.length
     ·rw [hM i hi, w9 i hi]
      exact jF _ fun j r hj _ _ => hall j hj
     ·rw [qb2 (by omega), qb2 (by rw [Mup_len]; omega)]
    ·intro t d hd'
     rw [w8] at hd'
     refine hF t d ?_
     rw [← hd']
     exact j5 _ fun j o hj _ _ => hall j hj
  | succ f ih =>
   intro listed b s h0 hs hu ht hF hMl hM hn hd hcl
   refine ⟨fun hnone => ?_, fun i hi => ?_⟩
   ·exfalso
    obtain ⟨i, h1, h2, h3⟩ := uD l.length (listed := listed) (by omega)
    obtain ⟨o, fi, ho, hfi⟩ := at_ i h1
    obtain ⟨g1, _⟩ := hone i o fi ho hfi
    have : i ∈ Region.ready .any l.toArray listed := mem_ready.2 ⟨by rw [yX hs h1]; exact h2, o, by simpa using ho, fun e he hb => h3 _ (g1 e (by simpa using he) hb)⟩
    rw [hnone] at this
    cases this
   ·obtain ⟨hun, o, ho, hall⟩ := mem_ready.1 hi
    have ho' : l[i]? = some o := by simpa using ho
    have hil : i < l.length := (qbq.1 ho').1
    rw [yX hs hil] at hun
    obtain ⟨fi, hfi⟩ : ∃ fi, fps[i]? = some fi := ⟨fps[i], qbr (by omega)⟩
    obtain ⟨pc, d, r, hr, hrd, hg, hop, hwi, hgw, hsoft, _⟩ := e3' i o fi ho' hfi
    rw [qbs] at hsoft
    obtain ⟨g1, g2, hnd, g3, g4⟩ := hone i o fi ho' hfi
    have done : ∀ j, gF l j i = true → listed.getD j false = true := by
     intro j hj
     obtain ⟨e, he, hb, hcase⟩ := w7 ho' hj
     have h1 := hall e (by simpa using he) hb
     rcases hcase with rfl | ⟨h2, h3⟩
     ·exact h1
     ·exact hcl e.on j h1 (by omega) h3
    have undone : ∀ j, j < l.length → gF l i j = true → listed.getD j false = false := by
     intro j hj h1
     cases e : listed.getD j false with
     | false => rfl
     | true => rw [hcl j i e hj h1] at hun; cases hun
    have tset : ∀ t, t ∈ gn l.toArray o → lkS l E F (fun k => listed.getD k false) t l.length = lkS l E F (fun _ => true) t i := by
     intro t ht
     rw [yh i l.length (by omega) fun j oj h1 h2 hj hjd => ?_]
     ·refine j5 i fun j oj hj hoj hjd => ?_
      obtain ⟨fj, hfj⟩ : ∃ fj, fps[j]? = some fj := ⟨fps[j], qbr (by omega)⟩
      rcases g4 j oj fj hj hoj hfj with h1 | h1
      ·exact done j h1
      ·exact (meet_no h1.1 (by simp [hjd]) ht).elim
     ·by_cases e : j = i
      ·subst e; exact hun
      ·obtain ⟨fj, hfj⟩ : ∃ fj, fps[j]? = some fj := ⟨fps[j], qbr (by omega)⟩
       rcases (hone j oj fj hj hfj).2.2.2.2 i o fi (by omega) ho' hfi with h3 | h3
       ·exact undone j h2 h3
       ·exact (meet_no h3.2.1 ht (by simp [hjd])).elim
    have wmem0 : ∀ x, x ∈ fi.1 → ∀ (j : Nat) rj fj, E[j]? = some rj → fps[j]? = some fj → j < l.length → (vv rj.wr x).isSome = true → x ∈ fj.2 := by
     intro x _ j rj fj hrj hfj hj hw
     obtain ⟨oj, _, hoj, _⟩ := at_ j hj
     obtain ⟨_, _, r', hr', _, _, _, hw', _⟩ := e3 j oj fj hoj hfj
     rw [hrj] at hr'
     obtain rfl := qbw hr'
     rw [← hw']
     refine Classical.byContradiction fun hno => ?_
     rw [jL _ _ hno] at hw
     cases hw
    have msetS : i ∈ S → ∀ x, x ∈ fi.1 → x < M.length → yn E M (fun k => listed.getD k false) x l.length = if listed.getD sj false = true then Ma[x]? else M[x]? := by
     intro hiS x hx hxl
     obtain ⟨hsub, hwr, _, _⟩ := hsoft hiS
     have hxS := hsub x hx
     have hoth : ∀ (j : Nat) rj, j ≠ sj → j < l.length → E[j]? = some rj → (vv rj.wr x).isSome = true → sj < j ∧ listed.getD j false = false := by
      intro j rj hne hjl hrj hw
      obtain ⟨oj, fj, hoj, hfj⟩ := at_ j hjl
      have hxw := wmem0 x hx j rj fj hrj hfj hjl hw
      have h7 := hmid0 j hjl
      rw [hfj] at h7
      simp only [qbE, qbx, qbu, beq_iff_eq, qbX] at h7
      rcases h7 with (h7 | h7) | ⟨⟨h7, h8⟩, h9⟩
      ·exact absurd h7 hne
      ·exact (meet_no h7 hxw hxS).elim
      ·exact ⟨Nat.blt_eq.mp h7, undone j hjl (h9 i hiS)⟩
     by_cases hl : listed.getD sj false = true
     ·rw [if_pos hl, jM (sj + 1) l.length (by omega) fun j rj h1 h2 hrj hw => (hoth j rj (by omega) h2 hrj hw).2]
      obtain ⟨oj, fj, hoj, hfj⟩ := at_ sj hsj
      obtain ⟨_, _, rj, hrj, _, _, _, _, _, _, hj⟩ := e3' sj oj fj hoj hfj
      have hj := hj (qbs _) x hxS
      have hlow : yn E M (fun k => listed.getD k false) x sj = M[x]? := by
       rw [jM 0 sj (by omega) fun j r' h1 h2 hr' hw => absurd (hoth j r' (by omega) (by omega) hr' hw).1 (by omega)]
       rfl
      unfold yn
      rw [hrj]
      simp only
      rw [if_pos hl, hlow]
      rw [← wF _ _ _ hxl]; exact hj
     ·rw [if_neg hl, jM 0 l.length (by omega) fun j rj h1 h2 hrj hw => by
       by_cases e : j = sj
       ·subst e; simpa using hl
       ·exact (hoth j rj e h2 hrj hw).2]
      rfl
    have mset : i ∉ S → ∀ x, x ∈ fi.1 → yn E M (fun k => listed.getD k false) x l.length = yn E M (fun _ => true) x i := by
     intro hsf x hx
     have wmem : ∀ (j : Nat) rj fj, E[j]? = some rj → fps[j]? = some fj → j < l.length → (vv rj.wr x).isSome = true → x ∈ fj.2 := by
      intro j rj fj hrj hfj hj hw
      obtain ⟨oj, _, hoj, _⟩ := at_ j hj
      obtain ⟨_, _, r', hr', _, _, _, hw', _⟩ := e3 j oj fj hoj hfj
      rw [hrj] at hr'
      obtain rfl := qbw hr'
      rw [← hw']
      refine Classical.byContradiction fun hno => ?_
      rw [jL _ _ hno] at hw
      cases hw
     rw [jM i l.length (by omega) fun j rj h1 h2 hrj hw => ?_]
     ·refine jF i fun j rj hj hrj hw => ?_
      obtain ⟨oj, fj, hoj, hfj⟩ := at_ j (by omega)
      rcases g4 j oj fj hj hoj hfj with h1 | h1
      ·exact done j h1
      ·rcases h1.2.2.1 with h1 | h1
       ·exact (meet_no h1 (wmem j rj fj hrj hfj (by omega) hw) hx).elim
       ·exact absurd h1.2 hsf
     ·by_cases e : j = i
      ·subst e; exact hun
      ·obtain ⟨oj, fj, hoj, hfj⟩ := at_ j (by omega)
       rcases (hone j oj fj hoj hfj).2.2.2.2 i o fi (by omega) ho' hfi with h3 | h3
       ·exact undone j h2 h3
       ·rcases h3.2.2.2 with h4 | h4
        ·exact (meet_no h4 hx (wmem j rj fj hrj hfj h2 hw)).elim
        ·exact absurd h4.1 hsf
    have hslot : ∀ t d, t ∈ o.looksAt l.toArray → lk (Fup l E F i) t = some d → Rep s d (ju b t) := by
     intro t d' ht hd'
     refine hF t d' ?_
     rw [tset t (List.mem_append_left _ ht), ← w8]
     exact hd'
    have next : ∀ (s' : St) (v : Value), Tr s s' → s'.M = upd s.M r.wr → Rep s' r.d v → wpAnyIn (wd (n.ρ s0)) 0 P .any l.toArray (PostK s0 n K) f (listed.setIfInBounds i true) (b.put o.dst v) s'.w := by
     intro s' v ht' hM' hrep
     have hset : ∀ k, (listed.setIfInBounds i true).getD k false = if i = k then true else listed.getD k false := fun k => uE _ _ _ (by rw [hs]; exact hil)
     refine ih _ _ s' h0 (by simp [hs]) ?_ (ht.trans ht') ?_ (by rw [hM', wD, hMl]) ?_ (by rw [ga]; exact hn) (by rw [yy]; exact hd.mono ht.ok ht') ?_
     ·have := xS (by rw [hs]; exact hil) hun l.length
      rw [if_pos hil] at this
      omega
     ·intro t d' hd'
      by_cases htd : o.dst = some t
      ·have e : lkS l E F (fun k => (listed.setIfInBounds i true).getD k false) t l.length = some r.d := by
        rw [yh (i + 1) l.length (by omega) fun j oj h1 h2 hj hjd => ?_]
        ·unfold lkS
         rw [ho', hr]
         simp only
         rw [if_pos ⟨by rw [hset, if_pos rfl], htd⟩]
        ·rw [hset, if_neg (by omega)]
         obtain ⟨fj, hfj⟩ : ∃ fj, fps[j]? = some fj := ⟨fps[j], qbr (by omega)⟩
         rcases (hone j oj fj hj hfj).2.2.2.2 i o fi (by omega) ho' hfi with h3 | h3
         ·exact undone j h2 h3
         ·exact (meet_no (t := t) h3.2.1 (List.mem_append_right _ (by simp [htd])) (by simp [hjd])).elim
       rw [e] at hd'
       obtain rfl := qbw hd'
       have hsz : t < b.tmps.size := by
        rw [htd] at g2
        rw [hn]
        exact Nat.blt_eq.mp g2
       rw [htd, yM, if_pos ⟨rfl, hsz⟩]
       exact hrep
      ·have e : ju (b.put o.dst v) t = ju b t := by
        cases hod : o.dst with
        | none => rfl
        | some x => rw [yM, if_neg (fun q => htd (by rw [hod, q.1]))]
       rw [e]
       refine (hF t d' ?_).mono ht.ok ht'
       rw [← hd']
       refine j5 _ fun j oj hj hoj hjd => ?_
       rw [hset]
       by_cases ej : i = j
       ·subst ej
        rw [ho'] at hoj
        obtain rfl := qbw hoj
        exact absurd hjd htd
       ·rw [if_neg ej]
     ·intro x hx
      rw [hM', wF _ _ _ (by omega), hM x hx]
      cases hw : vv r.wr x with
      | none =>
       rw [Option.none_or]
       refine jF _ fun j rj hj hrj hwj => ?_
       rw [hset]
       by_cases ej : i = j
       ·subst ej
        rw [hr] at hrj
        obtain rfl := qbw hrj
        rw [hw] at hwj; cases hwj
       ·rw [if_neg ej]
      | some k =>
       rw [Option.some_or]
       have hxw : x ∈ fi.2 := by
        rw [← hwi]
        refine Classical.byContradiction fun hno => ?_
        rw [jL _ _ hno] at hw
        cases hw
       rw [jM (i + 1) l.length (by omega) fun j rj h1 h2 hrj hwj => ?_]
       ·unfold yn
        rw [hr]
        simp only
        rw [if_pos (by rw [hset, if_pos rfl]), hw, Option.some_or]
       ·rw [hset, if_neg (by omega)]
        obtain ⟨oj, fj, hoj, hfj⟩ := at_ j (by omega)
        rcases (hone j oj fj hoj hfj).2.2.2.2 i o fi (by omega) ho' hfi with h3 | h3
        ·exact undone j h2 h3
        ·rcases h3.2.2.2 with h4 | h4
         rotate_left
         ·rw [← hwi, (hsoft h4.1).2.1] at hxw
          cases hxw
         refine (meet_no h4 (g3 x hxw) ?_).elim
         obtain ⟨_, _, r', hr', _, _, _, hw', _⟩ := e3 j oj fj hoj hfj
         rw [hrj] at hr'
         obtain rfl := qbw hr'
         rw [← hw']
         refine Classical.byContradiction fun hno => ?_
         rw [jL _ _ hno] at hwj
         cases hwj
     ·intro j k hj hjl hk
      rw [hset] at hj ⊢
      by_cases e : i = k
      ·rw [if_pos e]
      ·rw [if_neg e]
       by_cases ej : i = j
       ·subst ej; exact done k hk
       ·rw [if_neg ej] at hj
        exact hcl j k hj hjl hk
    unfold wpOpIn
    rw [ho]
    simp only
    rw [wE hg hslot]
    cases pc with
    | true =>
     rw [if_pos rfl]
     have hlook : ∀ x ∈ o.op.operands, ∀ d', ev (Fup l E F i) x = some d' → Rep s d' (b.eval x) := fun x hx d' hd' => by
      cases x with
      | tmp t => exact hslot t d' (List.mem_append_left _ (List.mem_filterMap.2 ⟨.tmp t, by simpa using hx, rfl⟩)) hd'
      | const v => obtain rfl := qbw hd'; exact .val v
      | func g => obtain rfl := qbw hd'; exact Rep.fn (vs := []) (us := []) rfl rfl (fun j d v h => by simp at h) (fun j d v h => by simp at h)
      | global g => obtain rfl := qbw hd'; exact .val _
     have hgive : DGives P s (fun s' v => s'.M = upd s.M r.wr ∧ Rep s' d v) ((execOp b.eval o).run P s.w) := by
      by_cases hsf : i ∈ S
      ·obtain ⟨_, hwr, hop1, hop2⟩ := hsoft hsf
       rw [hwr]
       by_cases hl : listed.getD sj false = true
       ·refine hop2 rfl b s ht.ok hlook fun x hx => ?_
        by_cases hxl : x < M.length
        ·rw [hM x hxl, msetS hsf x hx hxl, if_pos hl]
        ·rw [qb2 (by omega), qb2 (by rw [hMaB]; omega)]
       ·refine hop1 rfl b s ht.ok hlook fun x hx => ?_
        by_cases hxl : x < M.length
        ·rw [hM x hxl, msetS hsf x hx hxl, if_neg hl]
        ·rw [qb2 (by omega), qb2 (by omega)]
      ·refine hop rfl b s ht.ok hlook fun x hx => ?_
       by_cases hxl : x < M.length
       ·rw [hM x hxl, w9 x hxl, mset hsf x hx]
       ·rw [qb2 (by omega), qb2 (by rw [Mup_len]; omega)]
     refine vd hnd hgive fun s' v ht' ⟨q1, q2⟩ => next s' v ht' q1 ?_
     ·rw [hrd]
      unfold gdd
      split
      ·exact q2
      ·exact .opt (fun _ => q2) (fun h => by cases h)
    | false =>
     rw [if_neg (by simp)]
     have hgs : o.guard.isSome = true := by
      unfold Gd at hg
      cases e : o.guard with
      | none => rw [e] at hg; cases hg
      | some x => rfl
     refine ⟨fun _ _ => trivial, next s undef (Tr.refl ht.ok) (by rw [hgw hgs]; rfl) ?_⟩
     rw [hrd]
     unfold gdd
     split
     ·rename_i e; rw [e] at hgs; cases hgs
     ·exact .opt (fun h => by cases h) (fun _ => rfl)
 obtain ⟨h0, s, h1, h2, h3, h4, h5, h6⟩ := hi
 subst h1 h2
 have hst := wB h3.ok { s.w with drawn := s.w.drawn + 1 } rfl rfl rfl rfl
 have hno : ∀ k, (qb8 l.toArray.size false).getD k false = false := fun k => by
  simp only [Array.getD_eq_getD_getElem?, Array.getElem?_replicate]
  split <;> rfl
 have := main l.length (qb8 l.toArray.size false) a ⟨s.β, s.I, s.M, { s.w with drawn := s.w.drawn + 1 }⟩ h0 (by simp) (by
   have := wG l.toArray.size l.length (by simp)
   exact this) (h3.trans hst) (fun t d hd => ?_) rfl (fun i hi => ?_) h5 (h6.mono h3.ok hst) (fun j i hj => by rw [hno] at hj; cases hj)
 ·simpa using this
 ·rw [yh 0 l.length (by omega) fun j o _ _ _ _ => hno j] at hd
  exact (h4 t d hd).mono h3.ok hst
 ·rw [jM 0 l.length (by omega) fun j r _ _ _ _ => hno j]
  rfl
end Go.Proofs.YtofklkbfkoliiaaGreat
namespace Go.Proofs.YtofklkbfkoliiaaGreat
set_option linter.unusedVariables false
set_option linter.unusedSimpArgs false
open Go.RowKit
section
variable {P : Program} {pc : Bool} {o : Oper} {F : Fr} {M : List Blk}
end
section
variable {P : Program} {s0 : St} {n : Cx}
end
section
variable {P : Program} {pc : Bool} {o : Oper} {F : Fr} {M : List Blk}
theorem zF : ∀ {l : List D} (k : Nat), D.nlL l = true → D.nlL (l.take k) = true
 | _, 0, _ => by simp [D.nlL]
 | [], _ + 1, _ => rfl
 | d :: l, k + 1, h => by
  rw [D.nlL, qbu] at h
  rw [List.take_succ_cons, D.nlL, h.1, zF k h.2]
  rfl
theorem Zu {T e : TypeId} {sz by' n : Nat} {x : Operand} {lo hi : Option Operand} {L : List D} {l h : Int} (ho : o.op = .slice T x lo hi none) (hT : slE P T = some (e, sz, by')) (hx : Ev pc F x (.slm sz n L)) (hlo : Bd pc F lo 0 l) (hhi : Bd pc F hi n h)
  (hb : pc = true → 0 ≤ l ∧ l ≤ h ∧ h ≤ n) : DOp P pc o F M [] (.slm sz (h.toNat - l.toNat) ((L.drop (l.toNat * sz)).take ((h.toNat - l.toNat) * sz))) [] := by
 intro hp a s hok hops _
 obtain ⟨b1, b2, b3⟩ := hb hp
 have hr := qu hp hx (by simp [ho, Op.operands]) hops
 generalize hv : a.eval x = vx at hr
 cases hr with
 | @slm _ _ cap ad _ vs hnl hl hn hc ha hvl hel hL =>
  refine qU hok (yb ho hT hv (wW hp hlo (fun u e => by subst e; simp [ho, Op.operands]) hops) (wW hp hhi (fun u e => by subst e; simp [ho, Op.operands]) hops) b1 b2 b3 hn) ?_
  have hlen : ((L.drop (l.toNat * sz)).take ((h.toNat - l.toNat) * sz)).length = (h.toNat - l.toNat) * sz := by
   rw [qbS, qbZ, hl, ← Nat.mul_sub_right_distrib]
   exact Nat.min_eq_left (qb6 _ (by omega))
  refine .slm (vs := (vs.drop (l.toNat * sz)).take ((h.toNat - l.toNat) * sz)) (zF _ (vb _ hnl)) hlen (by omega) (by omega) (fun e => ?_) (by rw [qbS, qbZ, qbS, qbZ, hvl]) (fun j d v h1 h2 => ?_) ?_
  ·split at e
   ·omega
   ·cases ad with
    | none => have := ha rfl; omega
    | some ad => cases e
  ·rw [List.getElem?_take] at h1 h2
   split at h1
   ·rename_i hj
    rw [if_pos hj] at h2
    rw [qcd] at h1 h2
    exact hel _ d v h1 h2
   ·cases h1
  ·rcases hL with rfl | ⟨b, q, rfl, hI, hcl⟩
   ·left; simp
   ·by_cases hz : cap = l.toNat
    ·left
     have : h.toNat - l.toNat = 0 := by omega
     rw [this]; simp
    ·right
     rw [if_neg hz]
     exact ⟨b, q + l.toNat * sz, by rw [Option.map_some, Addr.add_mid], hI, qN hcl _ _⟩
theorem vG {α β : Type} {en : α → List β} {sz : Nat} (hen : ∀ a, (en a).length = sz) : ∀ (l : List α) (k : Nat), (l.flatMap en).drop (k * sz) = (l.drop k).flatMap en
 | l, 0 => by simp
 | [], k + 1 => by simp
 | a :: l, k + 1 => by
  rw [qbJ, List.drop_succ_cons, ← vG hen l k, qcg, Nat.add_comm (k * sz), ← List.drop_drop, List.drop_left' (hen a)]
theorem ug {α β : Type} {en : α → List β} {sz : Nat} (hen : ∀ a, (en a).length = sz) : ∀ (l : List α) (k : Nat), (l.flatMap en).take (k * sz) = (l.take k).flatMap en
 | l, 0 => by simp
 | [], k + 1 => by simp
 | a :: l, k + 1 => by
  rw [qbJ, List.take_succ_cons, qbJ, ← ug hen l k, qcg, Nat.add_comm (k * sz), List.take_add, List.take_left' (hen a), List.drop_left' (hen a)]
theorem Ul {α : Type} {mk : α → List D} {r : List α} {T e : TypeId} {sz by' : Nat} {x : Operand} {lo hi : Option Operand} {l h : Int} {i j : Nat} (ho : o.op = .slice T x lo hi none) (hT : slE P T = some (e, sz, by')) (hx : Ev pc F x (.slm sz r.length (r.flatMap mk))) (hlo : Bd pc F lo 0 l) (hhi : Bd pc F hi r.length h)
  (hl : pc = true → l = (i : Int)) (hh : pc = true → h = (j : Int)) (hij : pc = true → i ≤ j ∧ j ≤ r.length) (hmk : ∀ a, (mk a).length = sz) : DOp P pc o F M [] (.slm sz ((r.drop i).take (j - i)).length (((r.drop i).take (j - i)).flatMap mk)) [] := fun hp => by
 have h1 := hij hp
 have := Zu (P := P) (M := M) ho hT hx hlo hhi (fun hp => by have := hl hp; have := hh hp; omega) hp
 rw [hl hp, hh hp, qcb, qcb, vG hmk, ug hmk] at this
 rw [show ((r.drop i).take (j - i)).length = j - i by rw [qbS, qbZ]; omega]
 exact this
theorem GN {α : Type} {mk : α → List D} {r : List α} {T e : TypeId} {sz by' : Nat} {x : Operand} {hi : Option Operand} {h : Int} {j : Nat} (ho : o.op = .slice T x none hi none) (hT : slE P T = some (e, sz, by')) (hx : Ev pc F x (.slm sz r.length (r.flatMap mk))) (hhi : Bd pc F hi r.length h)
  (hh : pc = true → h = (j : Int)) (hij : pc = true → j ≤ r.length) (hmk : ∀ a, (mk a).length = sz) : DOp P pc o F M [] (.slm sz (r.take j).length ((r.take j).flatMap mk)) [] :=
 Ul (i := 0) ho hT hx (wI (z := 0)) hhi (fun _ => rfl) hh (fun hp => ⟨qb3 _, hij hp⟩) hmk
theorem jO {α : Type} {mk : α → D} {l : List α} {j : Nat} (h : j < l.length) : (l.flatMap fun a => [mk a])[j]? = some (mk l[j]) := by
 have e : ∀ l : List α, (l.flatMap fun a => [mk a]) = l.map mk := fun l => by
  induction l with
  | nil => rfl
  | cons a l ih => rw [qbJ, List.map_cons, ih]; rfl
 rw [e, qca, qbr h]; rfl
end
end Go.Proofs.YtofklkbfkoliiaaGreat
namespace Go.Proofs.YtofklkbfkoliiaaGreat
set_option linter.unusedVariables false
set_option linter.unusedSimpArgs false
open Go.ChangeShapes Go.WideShapes Go.ChangeAt Go.RowKit Go.Joins Go.Deep
def Opens (P : Program) (w : World) {α : Type} (t : TypeId) (mk : α → List D) (ok : α → Prop) : Prop :=
 ∀ (H : Type) (enc : TypeId × Value → H) (base : Nat) (spare : Nat → Bool) (held : Bool) (n : Nat) (cs : List Value) (x : DataW H × List MemPlace), DataW.trod enc P w base spare held n t cs = some x → ∃ a, ok a ∧ Reps (st0 w) (mk a) cs
section
variable {P : Program} {w : World}
theorem KJ {s : St} {d1 d2 : List D} {v1 v2 : List Value} (h1 : Reps s d1 v1) (h2 : Reps s d2 v2) : Reps s (d1 ++ d2) (v1 ++ v2) := by
 refine ⟨by simp [h1.1, h2.1], fun j d v hd hv => ?_⟩
 by_cases hj : j < d1.length
 ·rw [qbI hj] at hd
  rw [qbI (by rw [h1.1]; exact hj)] at hv
  exact h1.2 j d v hd hv
 ·rw [qbO (by omega)] at hd
  rw [qbO (by rw [h1.1]; omega), h1.1] at hv
  exact h2.2 _ d v hd hv
theorem zG {α : Type} {t : TypeId} {ps : List Prim} (f : Nat) (en : α → List Value) (ok : α → Prop) (hP : ∀ cs, gG ps cs → ∃ a, ok a ∧ cs = en a) (hf : xw P f t = some ps) : Opens P w t (fun a => (en a).map .val) ok := by
 intro H enc base spare held n cs x hx
 obtain ⟨a, hok, rfl⟩ := hP cs (KE f _ _ _ _ _ hf hx)
 refine ⟨a, hok, by simp, fun j d v hd hv => ?_⟩
 rw [qca, hv] at hd
 obtain rfl := qbw hd
 exact .val v
theorem VS {α : Type} {t e : TypeId} {ps : List Prim} (f : Nat) (en : α → List Value) (ok : α → Prop) (hP : ∀ cs, gG ps cs → ∃ a, ok a ∧ cs = en a) (ht : P.underlying t = some (.slice e)) (hf : xw P f e = some ps) (hc : P.cellsOf e = ps.length) (hpos : 0 < ps.length)
  (hen : ∀ a, (en a).length = ps.length) : Opens P w t (fun l : List α => [.slf ps.length l.length (l.flatMap en)]) (fun l => ∀ a ∈ l, ok a) := by
 intro H enc base spare held n cs x hx
 have hone : ∃ a len cap, cs = [.slice a len cap] := by
  rcases open_slice ht hx with ⟨hcs, _⟩ | ⟨a, len', cap', _, _, _, _, hcs, _⟩
  ·exact ⟨_, _, _, hcs⟩
  ·exact ⟨_, _, _, hcs⟩
 obtain ⟨a, len, cap, rfl⟩ := hone
 obtain ⟨l, h1, h2, h3, h4, h5⟩ := W1 f en ok hP ht hf hc hpos (d := x.1) (p := x.2) (show DataW.Trod enc P w base spare held t (.slice a len cap) x.1 x.2 from ⟨n, hx⟩)
 exact ⟨l, h2, vf (Zs h1 h3 h4 h5 hen) wl⟩
theorem KK {α : Type} {s : St} {mk : α → List D} : ∀ (l : List α) (css : List (List Value)), css.length = l.length → (∀ (i : Nat) (h : i < l.length) (h2 : i < css.length), Reps s (mk l[i]) css[i]) → Reps s (l.flatMap mk) css.flatten
 | [], [], _, _ => wl
 | a :: l, cs :: css, hl, h => by
  rw [qbJ, List.flatten_cons]
  exact KJ (h 0 (by simp) (by simp)) (KK l css (by simpa using hl) fun i h1 h2 => h (i + 1) (by simpa using h1) (by simpa using h2))
 | [], _ :: _, h, _ => by simp at h
 | _ :: _, [], h, _ => by simp at h
theorem QK : ∀ {a b : List D}, D.nlL a = true → D.nlL b = true → D.nlL (a ++ b) = true
 | [], _, _, h => h
 | d :: a, b, h, h' => by
  rw [D.nlL, qbu] at h
  rw [qbD, D.nlL, h.1, QK h.2 h']
  rfl
theorem GO {α : Type} {mk : α → List D} (h : ∀ a, D.nlL (mk a) = true) : ∀ l : List α, D.nlL (l.flatMap mk) = true
 | [] => rfl
 | a :: l => by rw [qbJ]; exact QK (h a) (GO h l)
theorem KL {α β : Type} {en : α → List β} {sz : Nat} (hen : ∀ a, (en a).length = sz) : ∀ l : List α, (l.flatMap en).length = l.length * sz
 | [] => by simp
 | a :: l => by rw [qbJ, qbz, hen, KL hen l, qbW, qcg]; omega
theorem zH {α : Type} {t e : TypeId} {sz : Nat} {mk : α → List D} {ok : α → Prop} (he : Opens P w e mk ok) (ht : P.underlying t = some (.slice e)) (hc : P.cellsOf e = sz) (hpos : 0 < sz) (hmk : ∀ a, (mk a).length = sz) (hnl : ∀ a, D.nlL (mk a) = true) :
  Opens P w t (fun l : List α => [.slm sz l.length (l.flatMap mk)]) (fun l => ∀ a ∈ l, ok a) := by
 intro H enc base spare held n cs x hx
 rcases open_slice ht hx with ⟨hcs, _⟩ | ⟨a, len, cap, m, n', D', Pl, hcs, _, hl, hm, hmm, _, hel⟩
 ·subst hcs
  exact ⟨[], by simp, vf (.slm (vs := []) rfl (by simp) (qbM _) (qb3 _) (fun _ => rfl) rfl (fun j d v hd => by simp at hd) (.inl rfl)) wl⟩
 ·subst hcs
  have hlm : len ≤ m := by rw [hmm]; split <;> omega
  rw [hc] at hel
  obtain ⟨l, hll, hp⟩ := Gy len (fun i (c : α × List Value) => ok c.1 ∧ Reps (st0 w) (mk c.1) c.2 ∧ w.cells? base (a.add (i * sz)) sz = some c.2) (by
   intro i hi
   obtain ⟨cs, h1, h2⟩ := hel i (by omega)
   obtain ⟨c, hok, hr⟩ := he H enc base spare held _ cs _ h2
   exact ⟨(c, cs), hok, hr, h1⟩)
  refine ⟨l.map (·.1), fun c hcm => ?_, vf ?_ wl⟩
  ·obtain ⟨q, hq, rfl⟩ := List.mem_map.1 hcm
   obtain ⟨i, hi, rfl⟩ := qcc hq
   exact (hp i hi).1
  ·have hreps : Reps (st0 w) ((l.map (·.1)).flatMap mk) (l.map (·.2)).flatten := KK _ _ (by simp) fun i h1 h2 => by
    simp only [List.getElem_map]
    exact (hp i (by simpa using h1)).2.1
   have hlen : (l.map (·.1)).length = len := by simp [hll]
   have hflat : ((l.map (·.1)).flatMap mk).length = len * sz := by rw [KL hmk, hlen]
   have hcslen : ∀ i (h : i < l.length), (l[i].2).length = sz := fun i h => ((World.cells?_some (hp i h).2.2).2.1)
   rw [hlen]
   refine .slm (vs := (l.map (·.2)).flatten) (GO hnl _) hflat hl hm (fun e => by cases e) hreps.1 hreps.2 ?_
   by_cases h0 : l = []
   ·left; subst h0; rfl
   ·right
    have hlp : 0 < l.length := List.length_pos_iff.2 h0
    obtain ⟨b, off, spot⟩ := a
    have hg := World.cells?_some (hp 0 hlp).2.2
    have hc0 := hg.2.2 0 hpos
    rw [qbr (by rw [hg.2.1]; exact hpos)] at hc0
    replace hc0 : ∃ v0, w.cell? (((⟨b, off, spot⟩ : Addr).add (0 * sz)).add 0) = some v0 := ⟨_, hc0⟩
    obtain ⟨v0, hc0⟩ := hc0
    have hs := World.cell?_spot hc0
    have hspot : spot = none := by simpa [Addr.add] using hs
    subst hspot
    have hpl : ∀ o k, (⟨b, o, none⟩ : Addr).add k = ⟨b, o + k, none⟩ := fun o k => by simp [Addr.add]
    rw [hpl, hpl] at hc0
    refine ⟨b, off, rfl, World.block_lt_of_cell? _ _ hc0, fun j u hj => ?_⟩
    show w.cell? ⟨b, off + j, none⟩ = some u
    have hfl : ∀ q : α × List Value, q ∈ l → q.2.length = sz := fun q hq => by
     obtain ⟨i, hi, rfl⟩ := qcc hq
     exact hcslen i hi
    have key : ∀ (l' : List (α × List Value)), (∀ q ∈ l', q.2.length = sz) → ∀ j u, ((l'.map (·.2)).flatten)[j]? = some u → ∃ (i : Nat) (h : i < l'.length), j / sz = i ∧ (l'[i].2)[j % sz]? = some u := by
     intro l'
     induction l' with
     | nil => intro _ j u h; simp at h
     | cons q l' ih =>
      intro hq j u h
      have hq0 := hq q (qb1 ..)
      rw [List.map_cons, List.flatten_cons] at h
      by_cases hj : j < sz
      ·rw [qbI (by omega)] at h
       exact ⟨0, by simp, Nat.div_eq_of_lt hj, by rw [Nat.mod_eq_of_lt hj]; exact h⟩
      ·rw [qbO (by omega), hq0] at h
       obtain ⟨i, hi, e1, e2⟩ := ih (fun q' hq' => hq q' (qb4 _ hq')) _ _ h
       refine ⟨i + 1, by simpa using hi, ?_, ?_⟩
       ·rw [← e1, ← Nat.add_div_right _ hpos, Nat.sub_add_cancel (by omega)]
       ·rw [Nat.mod_eq_sub_mod (by omega)]
        simpa using e2
    obtain ⟨i, hi, e1, e2⟩ := key l hfl j u hj
    have hr := Nat.mod_lt j hpos
    have h3 := (World.cells?_some (hp i hi).2.2).2.2 (j % sz) hr
    rw [hpl, hpl, e2] at h3
    have e : i * sz + j % sz = j := by rw [← e1, Nat.mul_comm]; exact Nat.div_add_mod j sz
    rw [Nat.add_assoc, e] at h3
    exact h3
end
theorem Um {H : Type} {enc : TypeId × Value → H} {w : World} {base : Nat} {spare : Nat → Bool} {held : Bool} {α : Type} {t : TypeId} {mk : α → D} {ok : α → Prop} {v : Value} {d : DataW H} {p : List MemPlace} (ho : Opens Tryz.prog w t (fun a => [mk a]) ok) (hv : v.cells = #[v]) (h : DataW.Trod enc Tryz.prog w base spare held t v d p) :
  ∃ a, ok a ∧ Rep (st0 w) (mk a) v := by
 obtain ⟨fuel, hfu⟩ := h
 obtain ⟨a, hok, hr⟩ := ho H enc base spare held _ _ _ hfu
 rw [hv] at hr
 exact ⟨a, hok, hr.2 0 _ _ rfl rfl⟩
end Go.Proofs.YtofklkbfkoliiaaGreat
namespace Go.Proofs.YtofklkbfkoliiaaGreat
set_option linter.unusedVariables false
set_option linter.unusedSimpArgs false
open Go.RowKit
section
variable {P : Program} {pc : Bool} {o : Oper} {F : Fr} {M : List Blk}
theorem VT {s : St} (hok : Ok s) {i : Nat} {T' : TypeId} {sz n n' c b : Nat} {l : List D} (h1 : s.M[i]? = some (.arx T' sz n l)) (h2 : s.β[i]? = some (.slice (some ⟨b, 0, none⟩) n' c)) : n' = n ∧ l.length = n * sz ∧ n ≤ c ∧ c ≤ maxLen ∧ ∃ vs : List Value, vs.length = l.length ∧ kc s.w b 0 vs ∧ ∀ (j : Nat) d v, l[j]? = some d → vs[j]? = some v → Rep s d v := by
 obtain ⟨vs, hk, q3, q4⟩ := hok.blk i _ _ h1 h2
 rcases hk.2 with ⟨e1, e2⟩ | ⟨g, cap, cur, e1, e2, e3, e4, e5, e6, e7⟩
 ·cases e1
 ·cases e1
  have hc0 := qN (qi e3 0) 0 (n * sz)
  exact ⟨rfl, by rw [← q3]; exact hk.1, e4, e5, vs, q3, by simpa [e7] using hc0, q4⟩
theorem Zv {T T' : TypeId} {x : Operand} {q : TypeId × Nat × Nat} {i sz n : Nat} {l : List D} (ho : o.op = .call { callee := .builtin .len, args := #[x], argTypes := #[T] }) (hT : slE P T = some q) (hx : Ev pc F x (.arr i)) (hM : M[i]? = some (.arx T' sz n l)) : DOp P pc o F M [i] (.val (.int .i64 n)) [] := by
 intro hp a s hok hops hfp
 obtain ⟨e1, _⟩ := kS hT
 have hr := qu hp hx (by simp [ho, Op.operands, Call.operands]) hops
 generalize hv : a.eval x = vx at hr
 cases hr with
 | arr h =>
  have hM' : s.M[i]? = some (.arx T' sz n l) := by rw [hfp i (by simp)]; exact hM
  obtain ⟨vs, hk, _⟩ := hok.blk i _ _ hM' h
  refine qU hok (kR ho (fun cs => rfl) ?_) (.val (.int .i64 n))
  rcases hk.2 with ⟨e2, e3⟩ | ⟨g, cap, cur, e2, _⟩
  ·cases e2; simp [Builtin.len_, hv, run_underlying e1, goInt, e3]
  ·cases e2; simp [Builtin.len_, hv, run_underlying e1, goInt]
theorem ge {T T' e : TypeId} {x y : Operand} {i sz by' n : Nat} {l : List D} {k : IntKind} {z : Int} (j : Nat) (ho : o.op = .indexAddr T x y) (hT : slE P T = some (e, sz, by')) (hx : Ev pc F x (.arr i)) (hy : Ev pc F y (.val (.int k z))) (hM : M[i]? = some (.arx T' sz n l)) (hz : pc = true → z = (j : Int)) (hj : pc = true → j < n) : DOp P pc o F M [i] (.aloc i (j * sz)) [] := by
 intro hp a s hok hops hfp
 have hr := qu hp hx (by simp [ho, Op.operands]) hops
 have h2 := (qu hp hy (by simp [ho, Op.operands]) hops).val_eq
 have hz := hz hp
 have hj := hj hp
 subst hz
 generalize hv : a.eval x = vx at hr
 cases hr with
 | @arr _ ad n' c hb =>
  have hM' : s.M[i]? = some (.arx T' sz n l) := by rw [hfp i (by simp)]; exact hM
  obtain ⟨vs, hk, _⟩ := hok.blk i _ _ hM' hb
  rcases hk.2 with ⟨e1, e2⟩ | ⟨g, cap, cur, e1, e2, e3, e4, e5, e6, e7⟩
  ·exfalso; omega
  ·cases e1
   refine qU hok (gq ho hT hv h2 (by omega) (by omega)) ?_
   rw [Addr.add_mid, qbs, qcb]
   exact .aloc hb
theorem wm {T T' : TypeId} {x : Operand} {i p k sz n : Nat} {l : List D} {d : D} (ho : o.op = .load T x) (hT : tyB P T = some (false, k)) (hx : Ev pc F x (.aloc i p)) (hM : M[i]? = some (.arx T' sz n l)) (hR : l[p]? = some d) : DOp P pc o F M [i] d [] := by
 intro hp a s hok hops hfp
 have hr := qu hp hx (by simp [ho, Op.operands]) hops
 generalize hv : a.eval x = vx at hr
 cases hr with
 | @aloc _ _ n' c b h =>
  obtain ⟨_, hl, _, _, vs, q3, hc, q4⟩ := VT hok (by rw [hfp i (by simp)]; exact hM) h
  have hpl : p < l.length := (qbq.1 hR).1
  have hv' : vs[p]? = some vs[p] := qbr (by omega)
  exact qU hok (gp ho hT hv (by simpa using hc p _ hv')) (q4 p d _ hR hv')
theorem Un {T e : TypeId} {n by' : Nat} {Z : List Value} {ps : List (Nat × Operand)} {ds : List D} (j : Nat) (h1 : ∀ (s : St) d v, d ∈ ds → Rep s d v → v.cells = #[v]) (ho : o.op = .buildSlice T n ps.toArray) (hT : slE P T = some (e, 1, by')) (hZ : zrC P e = some Z) (hi : ps.map (·.1) = List.range' 0 n) (hv : EvL pc F (ps.map (·.2)) ds) (hn : n ≤ 16777216) (hj : M[j]? = some .hole) :
  DOp P pc o F M [j] (.arr j) [(j, .arx e 1 n ds)] := by
 intro hp a s hok hops hfp
 obtain ⟨r1, r2⟩ := gv (a := a) (s := s) hp _ _ hv (fun x hx => hops x (by rw [ho]; simpa [Op.operands] using hx))
 obtain ⟨vs, hvs⟩ : ∃ vs, vs = (ps.map (·.2)).map a.eval := ⟨_, rfl⟩
 rw [← hvs] at r1 r2
 have hcell : ∀ v ∈ vs, v.cells = #[v] := fun v hv' => by
  obtain ⟨j, hj, rfl⟩ := qcc hv'
  have hj2 : j < ds.length := by omega
  exact h1 s _ _ (qb9 hj2) (r2 j _ _ (qbr hj2) (qbr hj))
 have hlen : vs.length = n := by
  rw [hvs, qcf, qcf]
  have := congrArg List.length hi
  simpa using this
 have hflat : ∀ us : List Value, (∀ v ∈ us, v.cells = #[v]) → (us.flatMap fun v => v.cells.toList) = us := fun us h => by
  induction us with
  | nil => rfl
  | cons u us ih => rw [qbJ, h u (qb1 ..), ih fun v hv => h v (qb4 _ hv)]; rfl
 have hrun := gc (P := P) (w := s.w) ho hT hZ hi hvs.symm (fun v hv => by rw [hcell v hv]; rfl) (by omega)
 rw [hflat vs hcell] at hrun
 have hj' : s.M[j]? = some .hole := by rw [hfp j (by simp)]; exact hj
 have hjl : j < s.β.length := by rw [hok.len]; exact (qbq.1 hj').1
 have hmono := vX hok (.cells vs.toArray e)
 refine ja (s' := ⟨s.β.set j (.slice (some ⟨s.w.heap.size, 0, none⟩) n n), s.I, s.M.set j (.arx e 1 n ds), _⟩) hrun (g9 hok hj' _ _ _ (by simp) (fun b hb => by cases hb; rfl) (fun b h => Below.heap_alloc _ _ _ h) (fun b hb => by cases hb; simp) (by simp) rfl rfl rfl ?_) rfl (.arr (by simp [hjl]))
 have hrow := World.ownsRow_lit (base := 0) (e := e) (size := 1) s.w vs.toArray n (qb3 _) (by unfold maxLen; omega) (by simp [hlen])
 refine ⟨vs, by simpa using hrow, r1, fun j' d v h2 h3 => ?_⟩
 refine Rep.mono' (s := s) (s' := ⟨s.β.set j (.slice (some ⟨s.w.heap.size, 0, none⟩) n n), s.I, s.M.set j (.arx e 1 n ds), s.w.alloc (.cells vs.toArray e)⟩) (fun i h hi hne => ?_) (fun _ h => h) (fun b hb => Below.heap_alloc _ _ _ (hok.il b hb)) (r2 j' d v h2 h3)
 by_cases e' : i = j
 ·subst e'
  exact absurd (hok.blk i _ h hj' hi) hne
 ·rw [qbC (Ne.symm e')]; exact hi
end
end Go.Proofs.YtofklkbfkoliiaaGreat
namespace Go.Proofs.YtofklkbfkoliiaaGreat
set_option linter.unusedVariables false
set_option linter.unusedSimpArgs false
open Go.RowKit
theorem JG {s : St} (ho : Ok s) {j g : Nat} {k : Blk} {h : Value} (hM : s.M[j]? = some k) (hl : k.live = true) (hh : s.β[j]? = some h) (hbb : hb h = some g) (w' : World)
  (hkeep : ∀ b, b ≠ g → w'.heap[b]? = s.w.heap[b]?) (hsz : w'.heap.size = s.w.heap.size) (hos : w'.os = s.w.os) (htape : w'.tape = s.w.tape) (hout : w'.output = s.w.output) :
  Tr s ⟨s.β, fun b => s.I b ∨ b = g, s.M.set j .gone, w'⟩ := by
 have hnd : ∀ (i : Nat) h, s.β[i]? = some h → h ≠ .nilFunc → s.β[i]? = some h := fun _ _ h _ => h
 replace hbb : jo k h g := Qw (ho.blk j k h hM hh) hbb
 have hlg : Live s g := qq hM hl hh hbb
 have hg := ho.lt g hlg
 have imm : ∀ b, s.I b → w'.heap[b]? = s.w.heap[b]? := fun b hI => hkeep b fun e => by subst e; exact hg.2 hI
 have old : ∀ (i : Nat) k', (s.M.set j .gone)[i]? = some k' → k'.live = true → i ≠ j ∧ s.M[i]? = some k' := by
  intro i k' h1 h2
  by_cases e : i = j
  ·subst e
   rw [qbG (by have := (qbq.1 hM).1; exact this)] at h1
   cases h1; cases h2
  ·rw [qbC (Ne.symm e)] at h1
   exact ⟨e, h1⟩
 have ne : ∀ (i : Nat) k' h' b, i ≠ j → s.M[i]? = some k' → k'.live = true → s.β[i]? = some h' → jo k' h' b → b ≠ g := by
  intro i k' h' b e h1 h2 h3 h4 e2
  subst e2
  exact e (ho.inj i j k' k h' h b h1 h2 h3 h4 hM hl hh hbb)
 have lv : ∀ b, Live ⟨s.β, fun b => s.I b ∨ b = g, s.M.set j .gone, w'⟩ b → Live s b ∧ b ≠ g := by
  rintro b ⟨i, k', h', h1, h2, h3, h4⟩
  obtain ⟨e, a⟩ := old i k' h1 h2
  exact ⟨qq a h2 h3 h4, ne i k' h' b e a h2 h3 h4⟩
 refine ⟨⟨by simp [ho.len], fun i k' h' h1 h2 => ?_, fun b hb => ?_, ?_, fun b hI => ?_⟩, jI hnd, fun _ h => .inl h, fun b h => ?_, fun b hb hn => hkeep b fun e => by subst e; exact hn hlg, fun b h => .inr (lv b h).1, hos, htape, hout, by simp [hsz]⟩
 ·cases hk : k'.live with
  | false =>
   cases k' with
   | gone => trivial
   | hole =>
    by_cases e : i = j
    ·subst e
     rw [qbG (by have := (qbq.1 hM).1; exact this)] at h1
     cases h1
    ·rw [qbC (Ne.symm e)] at h1
     exact ho.blk i _ h' h1 h2
   | _ => cases hk
  | true =>
   obtain ⟨e, a⟩ := old i k' h1 hk
   exact BlkOk.mono (s := s) (s' := ⟨s.β, fun b => s.I b ∨ b = g, s.M.set j .gone, w'⟩) hnd (fun _ h => .inl h) imm (ho.blk i k' h' a h2) fun b hl' hb' => hkeep b (ne i k' h' b e a hl' h2 hb')
 ·obtain ⟨h1, h2⟩ := lv b hb
  obtain ⟨h3, h4⟩ := ho.lt b h1
  exact ⟨by show b < w'.heap.size; omega, fun h => h.elim h4 h2⟩
 ·intro i i2 k1 k2 h1 h2 b a1 a2 a3 a4 c1 c2 c3 c4
  obtain ⟨_, a1⟩ := old i k1 a1 a2
  obtain ⟨_, c1⟩ := old i2 k2 c1 c2
  exact ho.inj i i2 k1 k2 h1 h2 b a1 a2 a3 a4 c1 c2 c3 c4
 ·show b < w'.heap.size
  rcases hI with h | h
  ·have := ho.il b h; omega
  ·omega
 ·rcases h with h | h
  ·exact .inl h
  ·subst h; exact .inr (.inr hlg)
section
variable {P : Program} {pc : Bool} {o : Oper} {F : Fr} {M : List Blk} {T e : TypeId} {by' : Nat} {x y : Operand}
theorem DOp.cast {d d' : D} {fp : List Nat} {wr : List (Nat × Blk)} (h : DOp P pc o F M fp d wr) (e : d = d') : DOp P pc o F M fp d' wr := e ▸ h
theorem QL (n : Nat) {k k' : IntKind} {z z' : Int} (z0 : Value) (ho : o.op = .makeSlice T x y) (hT : slE P T = some (e, 1, by')) (hZ : zrC P e = some [z0]) (hx : Ev pc F x (.val (.int k z))) (hy : Ev pc F y (.val (.int k' z'))) (hz : pc = true → z = (n : Int)) (hz' : pc = true → z' = (n : Int)) (hb : pc = true → by' * n ≤ 281474976710656 ∧ n ≤ 9223372036854775807) :
  DOp P pc o F M [] (.slf 1 n (qbH n z0)) [] := by
 intro hp a s hok hops hfp
 obtain ⟨e1, ti, e2, e3, e4⟩ := kS hT
 obtain ⟨ti', zv, q1, q2, q3⟩ := jA hZ
 rw [e2] at q1
 obtain rfl := qbw q1
 have h1 := (qu hp hx (by simp [ho, Op.operands]) hops).val_eq
 have h2 := (qu hp hy (by simp [ho, Op.operands]) hops).val_eq
 rw [hz hp] at h1
 rw [hz' hp] at h2
 obtain ⟨b1, b2⟩ := hb hp
 have hb3 : (ti.bytes : Int) * (n : Int) ≤ 281474976710656 := by
  have h : ((ti.bytes * n : Nat) : Int) ≤ 281474976710656 := by rw [e4]; omega
  rwa [Int.natCast_mul] at h
 have hrun := run_make (P := P) s.w T e ti zv e1 e2 q2 k k' n n (by omega) (Int.le_refl _) hb3 (by omega)
 simp only [qcb] at hrun
 have hc : zv.cells = #[z0] := by
  have := congrArg List.toArray q3
  simpa using this
 rw [hc, e3, Nat.mul_one] at hrun
 refine ja (s' := ⟨s.β, fun b => s.I b ∨ b = s.w.heap.size, s.M, _⟩) (v := .slice (some ⟨s.w.heap.size, 0, none⟩) n n) ?_ (vX hok (.cells (madeCells #[z0] n) e)) rfl (.slf (by simp) (qbM _) (by unfold maxLen; omega) (fun e => by cases e) (.inr ⟨_, 0, rfl, .inr rfl, ?_⟩))
 ·unfold execOp
  simp only [ho, h1, h2]
  exact k6 hrun
 ·have := qi (heap_alloc_new s.w (.cells (madeCells #[z0] n) e)) 0
  simpa [toList_madeCells_one] using this
end
end Go.Proofs.YtofklkbfkoliiaaGreat
namespace Go.Proofs.YtofklkbfkoliiaaGreat
set_option linter.unusedVariables false
set_option linter.unusedSimpArgs false
open Go.RowKit
section
variable {P : Program} {s0 : St} {n : Cx}
theorem YW {F : Fr} {M : List Blk} {a : Act} {w : World} {t : Nat} (e : TypeId) (sz : Nat) (h : Inv s0 n F M a w) (ht : lk F t = some (.val (.slice none 0 0))) : Inv s0 n ((t, .arr M.length) :: F) (M ++ [.arx e sz 0 []]) a w := by
 obtain ⟨h0, s, rfl, rfl, h3, h4, h5, h6⟩ := h
 have t1 := gZ h3.ok
 have hlen := h3.ok.len
 have hn : (s.M ++ [Blk.hole])[s.M.length]? = some .hole := by simp
 have t2 : Tr ⟨s.β ++ [Value.nilFunc], s.I, s.M ++ [Blk.hole], s.w⟩ ⟨(s.β ++ [Value.nilFunc]).set s.M.length (.slice none 0 0), s.I, (s.M ++ [Blk.hole]).set s.M.length (.arx e sz 0 []), s.w⟩ :=
  g9 (s := ⟨s.β ++ [Value.nilFunc], s.I, s.M ++ [Blk.hole], s.w⟩) t1.ok (j := s.M.length) hn (.slice none 0 0) (.arx e sz 0 []) s.w (by simp) (fun b hb => by cases hb) (fun b _ => rfl) (fun b hb => by cases hb) (qbM _) rfl rfl rfl ⟨[], World.ownsRow_nil s.w 0 e sz, rfl, fun j d v h => by simp at h⟩
 have tt := t1.trans t2
 refine ⟨h0, ⟨(s.β ++ [Value.nilFunc]).set s.M.length (.slice none 0 0), s.I, (s.M ++ [Blk.hole]).set s.M.length (.arx e sz 0 []), s.w⟩, by simp, rfl, h3.trans tt, fun x d hd => ?_, h5, h6.mono h3.ok tt⟩
 rw [jx] at hd
 split at hd
 ·rename_i e'
  subst e'
  obtain rfl := qbw hd
  have := (h4 t _ ht).val_eq
  rw [this]
  exact .arr (by simp [hlen])
 ·exact (h4 x d hd).mono h3.ok tt
theorem YX {c : Code} {F : Fr} {M M' : List Blk} {K : Cont} (t : Nat) (e : TypeId) (sz : Nat) {m : Nat} (ht : lk F t = some (.val (.slice none 0 0))) (hm : M.length = m) (hM : M ++ [.arx e sz 0 []] = M') (h : dwp P s0 n c ((t, .arr m) :: F) M' K) : dwp P s0 n c F M K := by
 subst hm hM
 exact fun a w hi => h a w (YW e sz hi ht)
theorem Uo {F : Fr} {M : List Blk} {a : Act} {w : World} {t i : Nat} {e : TypeId} {sz m : Nat} {l : List D} (h : Inv s0 n F M a w) (ht : lk F t = some (.arr i)) (hM : M[i]? = some (.arx e sz m l)) (hnl : D.nlL l = true) : Inv s0 n ((t, .slm sz m l) :: F) (M.set i .gone) a w := by
 obtain ⟨h0, s, rfl, rfl, h3, h4, h5, h6⟩ := h
 have hr := h4 t _ ht
 generalize hv : ju a t = v at hr
 cases hr with
 | @arr _ ad n' c hβ =>
  obtain ⟨vs, hk, q3, q4⟩ := h3.ok.blk i _ _ hM hβ
  rcases hk.2 with ⟨e1, e2⟩ | ⟨g, cap, cur, e1, e2, e3', e4, e5, e6, e7⟩
  ·cases e1; subst e2
   have hl0 : l = [] := qbU (by rw [← q3, hk.1, Nat.zero_mul])
   have tt : Tr s ⟨s.β, s.I, s.M.set i .gone, s.w⟩ := by
    have hnd : ∀ (i : Nat) h, s.β[i]? = some h → h ≠ .nilFunc → s.β[i]? = some h := fun _ _ h _ => h
    have old : ∀ (j : Nat) k, (s.M.set i .gone)[j]? = some k → k = .gone ∨ s.M[j]? = some k := fun j k hj => by
     by_cases e : i = j
     ·subst e
      rw [qbG (qbq.1 hM).1] at hj
      exact .inl (qbw hj).symm
     ·rw [qbC e] at hj; exact .inr hj
    have lv : ∀ b, Live ⟨s.β, s.I, s.M.set i .gone, s.w⟩ b → Live s b := by
     rintro b ⟨j, k, h, h1, h2, h3, h4⟩
     rcases old j k h1 with rfl | h1
     ·cases h2
     ·exact qq h1 h2 h3 h4
    refine ⟨⟨by simp [h3.ok.len], fun j k h h1 h2 => ?_, fun b hb => h3.ok.lt b (lv b hb), ?_, h3.ok.il⟩, jI hnd, fun _ h => h, fun _ h => .inl h, fun _ _ _ => rfl, fun b h => .inr (lv b h), rfl, rfl, rfl, qbM _⟩
    ·rcases old j k h1 with rfl | h1
     ·trivial
     ·exact BlkOk.mono (s := s) (s' := ⟨s.β, s.I, s.M.set i .gone, s.w⟩) hnd (fun _ h => h) (fun _ _ => rfl) (h3.ok.blk j k h h1 h2) (fun _ _ _ => rfl)
    ·intro j j2 k k2 x x2 b a1 a2 a3 a4 c1 c2 c3 c4
     rcases old j k a1 with rfl | a1
     ·cases a2
     ·rcases old j2 k2 c1 with rfl | c1
      ·cases c2
      ·exact h3.ok.inj j j2 k k2 x x2 b a1 a2 a3 a4 c1 c2 c3 c4
   refine ⟨h0, ⟨s.β, s.I, s.M.set i .gone, s.w⟩, rfl, rfl, h3.trans tt, fun x d hd => ?_, h5, h6.mono h3.ok tt⟩
   rw [jx] at hd
   split at hd
   ·rename_i e'
    subst e'
    obtain rfl := qbw hd
    rw [hv]
    subst hl0
    exact .slm (vs := []) rfl (by simp) (qbM _) (qb3 _) (fun _ => rfl) rfl (fun j d v h => by simp at h) (.inl rfl)
   ·exact (h4 x d hd).mono h3.ok tt
  ·cases e1
   have tt := JG h3.ok hM rfl hβ rfl s.w (fun _ _ => rfl) rfl rfl rfl rfl
   refine ⟨h0, ⟨s.β, fun b => s.I b ∨ b = g, s.M.set i .gone, s.w⟩, rfl, rfl, h3.trans tt, fun x d hd => ?_, h5, h6.mono h3.ok tt⟩
   rw [jx] at hd
   split at hd
   ·rename_i e'
    subst e'
    obtain rfl := qbw hd
    rw [hv]
    refine .slm (vs := vs) hnl (by rw [← q3]; exact hk.1) e4 e5 (fun e => by cases e) q3 (fun j d v hj hv => (q4 j d v hj hv).mono h3.ok tt) (.inr ⟨g, 0, rfl, .inr rfl, ?_⟩)
    have hc := qN (qi e3' 0) 0 (m * sz)
    show kc s.w g 0 vs
    simpa [e7] using hc
   ·exact (h4 x d hd).mono h3.ok tt
theorem Up {c : Code} {F : Fr} {M M' : List Blk} {K : Cont} (t : Nat) {i : Nat} {e : TypeId} {sz m : Nat} {l : List D} (hnl : D.nlL l = true) (ht : lk F t = some (.arr i)) (hM : M[i]? = some (.arx e sz m l)) (hM' : M.set i .gone = M') (h : dwp P s0 n c ((t, .slm sz m l) :: F) M' K) : dwp P s0 n c F M K := by
 subst hM'
 exact fun a w hi => h a w (Uo hi ht hM hnl)
end
section
variable {P : Program} {pc : Bool} {o : Oper} {F : Fr} {M : List Blk}
theorem Zw {s : St} {d : D} {v : Value} (h : Rep s d v) (hd : d.isSlf = true) : v.oneCell' = true := by
 cases h <;> first | rfl | cases hd
theorem QM {T e : TypeId} {by' n m i j : Nat} {x y : Operand} {l l2 : List D} {Z : List Value} (ho : o.op = .call { callee := .builtin .append, args := #[x, y], argTypes := #[T, T] }) (hT : slE P T = some (e, 1, by')) (hZ : zrC P e = some Z) (hZl : Z.length = 1)
  (hx : Ev pc F x (.arr i)) (hy : Ev pc F y (.slm 1 m l2)) (hM : M[i]? = some (.arx e 1 n l)) (hj : M[j]? = some .hole) (h1 : l2.all D.isSlf = true) (hbd : pc = true → (n + m) * by' ≤ 140737488355328 ∧ n + m ≤ 140737488355328) :
  DOp P pc o F M [i, j] (.arr j) [(i, .gone), (j, .arx e 1 (n + m) (l ++ l2))] := by
 intro hp a s hok hops hfp
 obtain ⟨e1, ti, e2, e3, e4⟩ := kS hT
 obtain ⟨ti', z, q1, q2, q3⟩ := jA hZ
 rw [e2] at q1
 obtain rfl := qbw q1
 obtain ⟨b1, b2⟩ := hbd hp
 have hM' : s.M[i]? = some (.arx e 1 n l) := by rw [hfp i (by simp)]; exact hM
 have hj' : s.M[j]? = some .hole := by rw [hfp j (by simp)]; exact hj
 have hij : i ≠ j := fun h => by subst h; rw [hM'] at hj'; cases hj'
 have hjl : j < s.β.length := by rw [hok.len]; exact (qbq.1 hj').1
 have hrx := qu hp hx (by simp [ho, Op.operands, Call.operands]) hops
 have hry := qu hp hy (by simp [ho, Op.operands, Call.operands]) hops
 generalize hv : a.eval x = vx at hrx
 generalize hvy : a.eval y = vy at hry
 cases hry with
 | @slm _ _ cap2 a2 _ vs2 hnl2 hl2 hn2 hc2 ha2 hvl2 hel2 hm2 =>
 have hso : SrcOk s (.slice a2 m cap2) m vs2 := by
  refine ⟨a2, cap2, rfl, ?_⟩
  cases a2 with
  | none =>
   have := ha2 rfl
   exact .inl ⟨rfl, by omega, this, qbU (by rw [hvl2, hl2, show m = 0 by omega])⟩
  | some ad =>
   refine .inr ⟨ad, rfl, fun k u hk => ?_⟩
   rcases hm2 with e | ⟨b, q, e, hI, hcl⟩
   ·rw [e] at hvl2
    rw [qbU hvl2] at hk
    simp at hk
   ·cases e
    rw [Addr.add_mid]
    exact hcl k u hk
 have hone : ∀ u ∈ vs2, u.oneCell' = true := fun u hu => by
  obtain ⟨k, hk, rfl⟩ := qcc hu
  have hk2 : k < l2.length := by omega
  exact Zw (hel2 k _ _ (qbr hk2) (qbr hk)) (qbX.1 h1 _ (qb9 hk2))
 cases hrx with
 | @arr _ ad n' c hβ =>
  obtain ⟨vs, hk, hvl, hel⟩ := hok.blk i _ _ hM' hβ
  obtain ⟨h', w', r1, r2, r3, r4⟩ := yA (P := P) (ty := o.type) (m := m) e1 e2 e3 e4 q2 (by rw [← hZl, ← q3]; simp) hk (by rw [hvl2]; exact hl2) hso hone (by unfold maxLen; omega) b1
  have hs' : (h' = .slice none 0 0) ∨ ∃ a n c, h' = .slice (some a) n c := by
   rcases r2.2 with ⟨q, _⟩ | ⟨g, cap, cur, q, _⟩
   ·exact .inl q
   ·exact .inr ⟨_, _, _, q⟩
  have hs0 : (Value.slice ad n' c = .slice none 0 0) ∨ ∃ a n k, Value.slice ad n' c = .slice (some a) n k := by
   rcases hk.2 with ⟨q, _⟩ | ⟨g, cap, cur, q, _⟩
   ·exact .inl q
   ·exact .inr ⟨_, _, _, q⟩
  have o1 := wa hs'
  have o0 := wa hs0
  have hblk : s.w.heap.size ≤ w'.heap.size := r3.size
  have hβj : s.β[j]? = some .nilFunc := by
   have q : s.β[j]? = some s.β[j] := qbr hjl
   have : s.β[j] = .nilFunc := hok.blk j .hole _ hj' q
   rw [q, this]
  have from_ : ∀ b, hb h' = some b → s.w.heap.size ≤ b ∨ (hb (Value.slice ad n' c) = some b) := by
   intro b hbb
   rw [o1] at hbb
   rcases r4 b hbb with h | h
   ·exact .inr (by rw [o0]; exact h)
   ·exact .inl h
  have hnd' : ∀ (k : Nat) h, s.β[k]? = some h → h ≠ .nilFunc → (s.β.set j h')[k]? = some h := fun k h hk' hne => by
   by_cases e : j = k
   ·subst e; rw [hβj] at hk'; exact absurd (qbw hk').symm hne
   ·rw [qbC e]; exact hk'
  have imm' : ∀ b, s.I b → w'.heap[b]? = s.w.heap[b]? := fun b hI => r3.block b (hok.il b hI) fun h => by
   rw [← o0] at h
   exact (hok.lt b (qq hM' rfl hβ h.symm)).2 hI
  have hblkx : BlkOk ⟨s.β.set j h', s.I, (s.M.set i .gone).set j (.arx e 1 (n + m) (l ++ l2)), w'⟩ h' (.arx e 1 (n + m) (l ++ l2)) := by
   refine ⟨vs ++ vs2, r2, by simp [hvl, hvl2], fun k d v hk1 hk2 => ?_⟩
   by_cases hlt : k < l.length
   ·rw [qbI hlt] at hk1
    rw [qbI (by omega)] at hk2
    exact Rep.mono' (s' := ⟨s.β.set j h', s.I, (s.M.set i .gone).set j (.arx e 1 (n + m) (l ++ l2)), w'⟩) hnd' (fun _ h => h) imm' (hel k d v hk1 hk2)
   ·rw [qbO (by omega)] at hk1 hk2
    rw [hvl] at hk2
    exact Rep.mono' (s' := ⟨s.β.set j h', s.I, (s.M.set i .gone).set j (.arx e 1 (n + m) (l ++ l2)), w'⟩) hnd' (fun _ h => h) imm' (hel2 _ d v hk1 hk2)
  have ht : Tr s ⟨s.β.set j h', s.I, (s.M.set i .gone).set j (.arx e 1 (n + m) (l ++ l2)), w'⟩ := by
   refine kV hok j (s.M.set i .gone) h' _ w' (by simp) (fun k kb hkb => ?_) (by rw [← hok.len]; exact hjl) (.inl hβj) (by rcases hs' with rfl | ⟨_, _, _, rfl⟩ <;> simp) hblkx (fun b hbb k kb hh hne q1 q2 q3 q4 => ?_) (fun b hbb => (from_ b hbb).imp id fun h => qq hM' rfl hβ h) (fun b hbb => ?_) (fun b => hb (Value.slice ad n' c) = some b) (fun b hdr => ⟨qq hM' rfl hβ hdr, fun k kb hh hne q1 q2 q3 q4 => ?_⟩) (fun b hlt hne hnd => ?_) r3.os r3.tape r3.output hblk
   ·by_cases hki : i = k
    ·subst hki
     have hlt : i < s.M.length := (qbq.1 hM').1
     rw [qbG hlt] at hkb
     exact .inr (qbw hkb).symm
    ·rw [qbC hki] at hkb; exact .inl hkb
   ·have hki : i ≠ k := fun h => by
     subst h
     have hlt : i < s.M.length := (qbq.1 hM').1
     rw [qbG hlt] at q1
     cases q1; cases q2
    rw [qbC hki] at q1
    rcases from_ b hbb with h | h
    ·exact absurd (hok.lt b (qq q1 q2 q3 q4)).1 (Nat.not_lt.2 h)
    ·exact hki (hok.inj i k _ kb _ hh b hM' rfl hβ h q1 q2 q3 q4)
   ·replace hbb : hb h' = some b := hbb
    rw [o1] at hbb
    exact (r2.lt b hbb).2
   ·have hki : i ≠ k := fun h => by
     subst h
     have hlt : i < s.M.length := (qbq.1 hM').1
     rw [qbG hlt] at q1
     cases q1; cases q2
    rw [qbC hki] at q1
    exact hki (hok.inj i k _ kb _ hh b hM' rfl hβ hdr q1 q2 q3 q4)
   ·exact r3.block b hlt fun h => hnd (by rw [o0]; exact h.symm)
  refine ja (s' := ⟨s.β.set j h', s.I, (s.M.set i .gone).set j (.arx e 1 (n + m) (l ++ l2)), w'⟩) (kR ho (fun cs => by rfl) (by simpa [hv, hvy] using r1)) ht rfl ?_
  rcases hs' with rfl | ⟨_, _, _, rfl⟩
  ·exact .arr (by simp [hjl])
  ·exact .arr (by simp [hjl])
end
end Go.Proofs.YtofklkbfkoliiaaGreat
namespace Go.Proofs.YtofklkbfkoliiaaGreat
set_option linter.unusedVariables false
set_option linter.unusedSimpArgs false
open Go.RowKit
section
variable {P : Program} {s0 : St} {n : Cx}
theorem Zx {F : Fr} {M : List Blk} {a : Act} {w : World} {i : Nat} {k k' : Blk} (h : Inv s0 n F M a w) (hM : M[i]? = some k) (hl : k.live = k'.live) (hk : ∀ s h, BlkOk s h k → BlkOk s h k') (hf : k.nf = true := by rfl) (hf' : k'.nf = true := by rfl) : Inv s0 n F (M.set i k') a w := by
 obtain ⟨h0, s, rfl, rfl, h3, h4, h5, h6⟩ := h
 have hnd : ∀ (i : Nat) h, s.β[i]? = some h → h ≠ .nilFunc → s.β[i]? = some h := fun _ _ h _ => h
 have hlt := (qbq.1 hM).1
 have old : ∀ (j : Nat) kk, (s.M.set i k')[j]? = some kk → (j = i ∧ kk = k') ∨ s.M[j]? = some kk := fun j kk hj => by
  by_cases e : i = j
  ·subst e
   rw [qbG hlt] at hj
   exact .inl ⟨rfl, (qbw hj).symm⟩
  ·rw [qbC e] at hj; exact .inr hj
 have back : ∀ (j : Nat) kk, (s.M.set i k')[j]? = some kk → kk.live = true → ∃ k2, s.M[j]? = some k2 ∧ k2.live = true ∧ ∀ x b, jo kk x b → jo k2 x b := fun j kk hj hlv => by
  rcases old j kk hj with ⟨rfl, rfl⟩ | hj
  ·exact ⟨k, hM, by rw [hl]; exact hlv, fun x b h => (ux hf).2 ((ux hf').1 h)⟩
  ·exact ⟨kk, hj, hlv, fun _ _ h => h⟩
 have lv : ∀ b, Live ⟨s.β, s.I, s.M.set i k', s.w⟩ b → Live s b := by
  rintro b ⟨j, kk, x, h1, h2, h3, h4⟩
  obtain ⟨k2, g1, g2, g3⟩ := back j kk h1 h2
  exact qq g1 g2 h3 (g3 _ _ h4)
 have mono : ∀ h kk, BlkOk s h kk → BlkOk ⟨s.β, s.I, s.M.set i k', s.w⟩ h kk := fun h kk hb => BlkOk.mono (s := s) (s' := ⟨s.β, s.I, s.M.set i k', s.w⟩) hnd (fun _ h => h) (fun _ _ => rfl) hb (fun _ _ _ => rfl)
 have tt : Tr s ⟨s.β, s.I, s.M.set i k', s.w⟩ := by
  refine ⟨⟨by simp [h3.ok.len], fun j kk h h1 h2 => ?_, fun b hb => h3.ok.lt b (lv b hb), ?_, h3.ok.il⟩, jI hnd, fun _ h => h, fun _ h => .inl h, fun _ _ _ => rfl, fun b h => .inr (lv b h), rfl, rfl, rfl, qbM _⟩
  ·rcases old j kk h1 with ⟨rfl, rfl⟩ | h1
   ·exact mono _ _ (hk _ _ (h3.ok.blk _ _ h hM h2))
   ·exact mono _ _ (h3.ok.blk j kk h h1 h2)
  ·intro j j2 k1 k2 x x2 b a1 a2 a3 a4 c1 c2 c3 c4
   obtain ⟨q1, g1, g2, g5⟩ := back j k1 a1 a2
   obtain ⟨q2, g3, g4, g6⟩ := back j2 k2 c1 c2
   exact h3.ok.inj j j2 q1 q2 x x2 b g1 g2 a3 (g5 _ _ a4) g3 g4 c3 (g6 _ _ c4)
 exact ⟨h0, ⟨s.β, s.I, s.M.set i k', s.w⟩, rfl, rfl, h3.trans tt, fun x d hd => (h4 x d hd).mono h3.ok tt, h5, h6.mono h3.ok tt⟩
theorem jg {c : Code} {F : Fr} {M M' : List Blk} {K : Cont} (i : Nat) {k k' : Blk} (hk : ∀ s h, BlkOk s h k → BlkOk s h k') (hM : M[i]? = some k) (hl : k.live = k'.live) (hM' : M.set i k' = M') (h : dwp P s0 n c F M' K) (hf : k.nf = true := by rfl) (hf' : k'.nf = true := by rfl) : dwp P s0 n c F M K := by
 subst hM'
 exact fun a w hi => h a w (Zx hi hM hl hk hf hf')
theorem Zy {e : TypeId} {sz : Nat} : ∀ s h, BlkOk s h (.arr e sz 0 []) → BlkOk s h (.arx e sz 0 []) := fun s h hk => ⟨[], hk, rfl, fun j d v h => by simp at h⟩
theorem yZ {T : TypeId} {L : List Value} : ∀ s h, BlkOk s h (.flat T L) → BlkOk s h (.mix T (L.map D.val)) := fun s h hk => by
 obtain ⟨b, e1, e2⟩ := hk
 refine ⟨b, L, e1, e2, by simp, fun j d v h1 h2 => ?_⟩
 rw [qca, h2] at h1
 cases h1
 exact .val v
end
section
variable {P : Program} {pc : Bool} {o : Oper} {F : Fr} {M : List Blk}
theorem qb {T T' : TypeId} {x : Operand} {i k : Nat} {l : List D} (ho : o.op = .load T x) (hT : tyB P T = some (true, k)) (hx : Ev pc F x (.loc i 0)) (hM : M[i]? = some (.mix T' l)) (hl : l.length = k) : DOp P pc o F M [i] (.agg l) [] := by
 intro hp a s hok hops hfp
 have hr := qu hp hx (by simp [ho, Op.operands]) hops
 generalize hv : a.eval x = vx at hr
 cases hr with
 | @loc _ _ b h =>
  obtain ⟨b', vs, e1, e2, e3, e4⟩ := hok.blk i _ _ (by rw [hfp i (by simp)]; exact hM) h
  cases e1
  have hc : kc s.w b 0 vs := qi e2 0
  have hr := jG hc 0 vs.length (R := vs) (by simp)
  exact qU hok (jW ho hT hv (by simpa using hr) (by omega)) (.agg e3 e4)
theorem wK {T T' : TypeId} {x y : Operand} {i k : Nat} {rw' : Bool} {ds l : List D} (ho : o.op = .store T x y) (hT : tyB P T = some (rw', k)) (hx : Ev pc F x (.loc i 0)) (hy : Ev pc F y (.agg ds)) (hM : M[i]? = some (.mix T' l)) (hk : ds.length = k) (hfit : ds.length = l.length) (h1 : ds.all D.oc = true) : DOp P pc o F M [i] .junk [(i, .mix T' ds)] := by
 intro hp a s hok hops hfp
 have hr := qu hp hx (by simp [ho, Op.operands]) hops
 have hry := qu hp hy (by simp [ho, Op.operands]) hops
 have hM' : s.M[i]? = some (.mix T' l) := by rw [hfp i (by simp)]; exact hM
 generalize hv : a.eval x = vx at hr
 generalize hvy : a.eval y = vy at hry
 cases hr with
 | @loc _ _ b h =>
  cases hry with
  | @agg _ vs hvl hd =>
   obtain ⟨b', L, e1, e2, e3, _⟩ := hok.blk i _ _ hM' h
   cases e1
   have hcell := qi e2 0
   have hoc : ∀ u ∈ vs, u.oneCell' = true := fun u hu => by
    obtain ⟨j, hj, rfl⟩ := qcc hu
    have hj2 : j < ds.length := by omega
    exact YU (hd j _ _ (qbr hj2) (qbr hj)) (qbX.1 h1 _ (qb9 hj2))
   have hrun := ya (P := P) (w := s.w) (C := vs) ho hT hv hvy rfl (by omega) (fun j hj => by
     have hp' : j < L.length := by omega
     have := hcell j L[j] (by simp [hp'])
     rw [qbs] at this
     rw [qbs, this]; rfl) (fun j hj => by simp [World.frozen?, e2]) hoc
   have hβ : s.β.set i (.pointer (some ⟨b, 0, none⟩)) = s.β := by
    apply List.ext_getElem?
    intro k
    by_cases e : i = k
    ·subst e; rw [qbG (qbq.1 h).1, h]
    ·rw [qbC e]
   refine vA (s' := ⟨s.β.set i (.pointer (some ⟨b, 0, none⟩)), s.I, s.M.set i (.mix T' ds), s.w.setCells b 0 vs⟩) hrun (yP hok hM' rfl h rfl 0 _ ?_) rfl
   have hall : jX L 0 vs = vs := uG (by omega)
   have hblk := kW b vs 0 s.w L T' e2
   rw [hall] at hblk
   refine ⟨b, vs, rfl, hblk, hvl, fun j e v hj hv' => ?_⟩
   refine Rep.mono' (s := s) (s' := ⟨s.β.set i (.pointer (some ⟨b, 0, none⟩)), s.I, s.M.set i (.mix T' ds), s.w.setCells b 0 vs⟩) (fun k x hk _ => by show (s.β.set i _)[k]? = _; rw [hβ]; exact hk) (fun _ h => h) (fun b' hI => kX b _ 0 s.w b' fun e => ?_) (hd j e v hj hv')
   subst e
   exact (hok.lt b' (qq hM' rfl h rfl)).2 hI
theorem y0 {p : Tmp} {T T' : TypeId} {i k : Nat} {l : List D} (hT : tyB P T = some (true, k)) (h : lk F p = some (.loc i 0)) (hM : M[i]? = some (.mix T' l)) (hl : l.length = k) : RvD P (.cell p T) F M (.agg l) := fun s a ho hMs hF => by
 have hr := hF p _ h
 generalize hv : ju a p = v at hr
 cases hr with
 | @loc _ _ b hb =>
  obtain ⟨b', vs, e1, e2, e3, e4⟩ := ho.blk i _ _ (by rw [hMs]; exact hM) hb
  cases e1
  obtain ⟨dd, ii, h1, h2, h3, h4⟩ := gw hT
  refine ⟨.agg vs.toArray, ?_, .agg e3 e4⟩
  have hvx' : a.tmps.getD p undef = .pointer (some ⟨b, 0, none⟩) := hv
  simp only [rv, hvx']
  simp only [asAddr, Sem.run_bind, Sem.run_pure, Result.andThen_ok]
  exact run_loadVar_row s.w b T' T vs.toArray (0, 0) dd e2 h1 (by cases dd <;> simp_all [TypeDesc.isRow]) (by simp [h2, h4, hl, e3])
theorem QN {T : TypeId} {x : Operand} {q : TypeId × Nat × Nat} (ho : o.op = .call { callee := .builtin .cap, args := #[x], argTypes := #[T] }) (hT : slE P T = some q) (hx : Ev pc F x (.val (.slice none 0 0))) : DOp P pc o F M [] (.val (.int .i64 0)) [] := by
 intro hp a s hok hops _
 obtain ⟨e1, _⟩ := kS hT
 have hr := (qu hp hx (by simp [ho, Op.operands, Call.operands]) hops).val_eq
 refine qU hok (kR ho (fun cs => rfl) ?_) (.val (.int .i64 0))
 simp [Builtin.cap_, hr, run_underlying e1, goInt]
theorem qaa {T : TypeId} {x : Operand} {e : TypeId} {sz by' : Nat} {hi : Option Operand} (ho : o.op = .slice T x none hi none) (hT : slE P T = some (e, sz, by')) (hx : Ev pc F x (.val (.slice none 0 0))) (hhi : Bd pc F hi 0 0) : DOp P pc o F M [] (.val (.slice none 0 0)) [] := by
 intro hp a s hok hops _
 have hr := (qu hp hx (by simp [ho, Op.operands]) hops).val_eq
 have q2 := wW hp hhi (fun u e => by subst e; simp [ho, Op.operands]) hops
 refine qU hok ?_ (.val _)
 have h := yb (P := P) (w := s.w) ho hT hr (l := 0) (h := 0) (.inl ⟨rfl, rfl⟩) q2 (by omega) (by omega) (by omega) (qbM _)
 simpa using h
theorem xG (T U ty e : TypeId) (i : TypeInfo) (z : Value) (w : World) (k : IntKind) (hT : P.underlying T = some (.slice e)) (hU : P.underlying U = some (.int k)) (hi : P.info? e = some i) (hz : i.zero = some z)
  (n : Nat) (h0 : 0 < n) (hs : 0 < i.size) (h63 : (n : Int) ≤ 9223372036854775807) (h48 : n * i.bytes ≤ 281474976710656) :
  (Builtin.append_ #[T, U] ty #[.slice none 0 0, .int k n]).run P w =
   .ok (.slice (some ⟨w.heap.size, 0, none⟩) n (grownCap w n 0 e)) (w.drew.alloc (.cells (Builtin.zeroCells z.cells n ++ Builtin.zeroCells z.cells (grownCap w n 0 e - n)) e)) := by
 have hn : n ≠ 0 := by omega
 have hw : IntKind.i64.wrap (n : Int) = n := qbB _ (by omega)
 have h63' : ¬ (9223372036854775807 < (n : Int)) := by omega
 have hneg : ¬ ((n : Int) < 0) := by omega
 have hsz : n * i.size ≠ 0 := Nat.mul_ne_zero hn (by omega)
 have hby : ¬ ((281474976710656 : Int) < (n : Int) * (i.bytes : Int)) := by
  rw [show (n : Int) * (i.bytes : Int) = ((n * i.bytes : Nat) : Int) by simp]; omega
 have h48' : ¬ (281474976710656 < Builtin.nextslicecap n 0 * i.bytes) := by rw [nextslicecap_zero h0]; omega
 have hs' : i.size ≠ 0 := by omega
 have hn0 : ¬ ((n : Int) ≤ 0) := by omega
 have hmx : max (n : Int) 0 = n := by omega
 simp [Builtin.append_, run_underlying hT, run_underlying hU, sizeOf, typeInfo, zeroValue, hi, hz, asInt, asIntOf, hw, hn, hs', hn0, hmx, h63', hneg, hby, h48', Question.forced, run_firstCells_none, newRow, grownCap]
 exact fun h => absurd h hsz
theorem qab {T U e : TypeId} {by' n sz j : Nat} {k : IntKind} {z : Int} {x y : Operand} {Z : List Value} (ho : o.op = .call { callee := .builtin .append, args := #[x, y], argTypes := #[T, U] }) (hT : slE P T = some (e, sz, by')) (hU : P.underlying U = some (.int k)) (hZ : zrC P e = some Z) (hZl : Z.length = sz) (hs : 0 < sz)
  (hx : Ev pc F x (.val (.slice none 0 0))) (hy : Ev pc F y (.val (.int k z))) (hz : pc = true → z = (n : Int)) (h0 : pc = true → 0 < n) (hj : M[j]? = some .hole) (hb : pc = true → n * by' ≤ 281474976710656 ∧ n ≤ 140737488355328) :
  DOp P pc o F M [j] (.arr j) [(j, .arr e sz n (Builtin.zeroCells Z.toArray n).toList)] := by
 intro hp a s hok hops hfp
 obtain ⟨e1, ti, e2, e3, e4⟩ := kS hT
 obtain ⟨ti', zv, q1, q2, q3⟩ := jA hZ
 rw [e2] at q1
 obtain rfl := qbw q1
 have h1 := (qu hp hx (by simp [ho, Op.operands, Call.operands]) hops).val_eq
 have h2 := (qu hp hy (by simp [ho, Op.operands, Call.operands]) hops).val_eq
 rw [hz hp] at h2
 obtain ⟨b1, b2⟩ := hb hp
 have hj' : s.M[j]? = some .hole := by rw [hfp j (by simp)]; exact hj
 have hjl : j < s.β.length := by rw [hok.len]; exact (qbq.1 hj').1
 have hz0 : zv.cells = Z.toArray := by rw [← q3]
 have hrun := xG T U o.type e ti zv s.w k e1 hU e2 q2 n (h0 hp) (by omega) (by omega) (by rw [e4]; exact b1)
 have hge := grownCap_ge s.w n 0 e
 have hrow : (s.w.drew.alloc (.cells (Builtin.zeroCells zv.cells n ++ Builtin.zeroCells zv.cells (grownCap s.w n 0 e - n)) e)).ownsRow 0 e sz (.slice (some ⟨s.w.heap.size, 0, none⟩) n (grownCap s.w n 0 e)) n (Builtin.zeroCells Z.toArray n).toList := by
  have hl1 : (Builtin.zeroCells Z.toArray n).size = n * sz := by rw [size_zeroCells]; simp [hZl]
  refine ⟨by simpa using hl1, .inr ⟨s.w.heap.size, _, _, rfl, qb3 _, heap_alloc_new s.w.drew _, hge, grownCap_le_maxLen s.w _ _ _ (by unfold maxLen; omega), ?_, ?_⟩⟩
  ·rw [Array.size_append, hz0, hl1, size_zeroCells]
   simp only [List.size_toArray, hZl]
   rw [← Nat.add_mul]
   congr 1
   omega
  ·rw [hz0, Array.toList_append, ← hl1, ← Array.length_toList, List.take_left]
 refine ja (s' := ⟨s.β.set j (.slice (some ⟨s.w.heap.size, 0, none⟩) n (grownCap s.w n 0 e)), s.I, s.M.set j (.arr e sz n (Builtin.zeroCells Z.toArray n).toList), s.w.drew.alloc (.cells (Builtin.zeroCells zv.cells n ++ Builtin.zeroCells zv.cells (grownCap s.w n 0 e - n)) e)⟩) (v := .slice (some ⟨s.w.heap.size, 0, none⟩) n (grownCap s.w n 0 e)) (kR ho (fun cs => by rfl) (by simpa [h1, h2] using hrun)) (g9 hok hj' _ _ _ (by simp) (fun b hb => by cases hb; rfl) (fun b h => Below.heap_alloc s.w.drew _ _ h) (fun b hb => by cases hb; simp) (by simp) rfl rfl rfl hrow) rfl (.arr (by simp [hjl]))
theorem qac {T e T' : TypeId} {sz sz' by' n i j : Nat} {x : Operand} {hi : Option Operand} {L : List Value} (ho : o.op = .slice T x none hi none) (hT : slE P T = some (e, sz', by')) (hx : Ev pc F x (.arr i)) (hM : M[i]? = some (.arr T' sz n L)) (hhi : Bd pc F hi n 0) (hj : M[j]? = some .hole) :
  DOp P pc o F M [i, j] (.arr j) [(i, .gone), (j, .arr T' sz 0 [])] := by
 intro hp a s hok hops hfp
 have hM' : s.M[i]? = some (.arr T' sz n L) := by rw [hfp i (by simp)]; exact hM
 have hj' : s.M[j]? = some .hole := by rw [hfp j (by simp)]; exact hj
 have hjl : j < s.β.length := by rw [hok.len]; exact (qbq.1 hj').1
 have hrx := qu hp hx (by simp [ho, Op.operands]) hops
 have q2 := wW hp hhi (fun u e => by subst e; simp [ho, Op.operands]) hops
 generalize hv : a.eval x = vx at hrx
 cases hrx with
 | @arr _ ad n' c hβ =>
  have hk : s.w.ownsRow 0 T' sz _ n L := hok.blk i _ _ hM' hβ
  obtain ⟨h', r1, r2, r3⟩ : ∃ h', (execOp a.eval o).run P s.w = .ok (.value h') s.w ∧ s.w.ownsRow 0 T' sz h' 0 [] ∧ hb h' = hb (Value.slice ad n' c) ∧ h' ≠ .nilFunc := by
   rcases hk.2 with ⟨e1, e2⟩ | ⟨g, cap, cur, e1, e2, e3, e4, e5, e6, e7⟩
   ·cases e1; subst e2
    refine ⟨.slice none 0 0, ?_, World.ownsRow_nil s.w 0 T' sz, rfl, by simp⟩
    have h := yb (P := P) (w := s.w) ho hT hv (l := 0) (h := 0) (.inl ⟨rfl, rfl⟩) q2 (by omega) (by omega) (by omega) (qbM _)
    simpa using h
   ·cases e1
    refine ⟨.slice (some ⟨g, 0, none⟩) 0 c, ?_, ⟨by simp, .inr ⟨g, c, cur, rfl, qb3 _, e3, qb3 _, e5, e6, by simp⟩⟩, rfl, by simp⟩
    have h := yb (P := P) (w := s.w) ho hT hv (l := 0) (h := 0) (.inl ⟨rfl, rfl⟩) q2 (by omega) (by omega) (by omega) e4
    rw [h]
    by_cases hc : c = 0
    ·subst hc; simp
    ·simp [hc, Addr.add_zero']
  obtain ⟨r3, r4⟩ := r3
  have hβj : s.β[j]? = some .nilFunc := by
   have q : s.β[j]? = some s.β[j] := qbr hjl
   have : s.β[j] = .nilFunc := hok.blk j .hole _ hj' q
   rw [q, this]
  have hlt : i < s.M.length := (qbq.1 hM').1
  have ne : ∀ (k : Nat) kb, (s.M.set i .gone)[k]? = some kb → kb.live = true → i ≠ k ∧ s.M[k]? = some kb := fun k kb hkb hl => by
   by_cases hki : i = k
   ·subst hki
    rw [qbG hlt] at hkb
    cases hkb; cases hl
   ·rw [qbC hki] at hkb; exact ⟨hki, hkb⟩
  refine ja (s' := ⟨s.β.set j h', s.I, (s.M.set i .gone).set j (.arr T' sz 0 []), s.w⟩) r1 ?_ rfl ?_
  ·refine kV hok j (s.M.set i .gone) h' _ s.w (by simp) (fun k kb hkb => ?_) (by rw [← hok.len]; exact hjl) (.inl hβj) r4 r2 (fun b hbb k kb hh hne q1 q2 q3 q4 => ?_) (fun b hbb => .inr (qq hM' rfl hβ (r3.symm.trans (show hb h' = some b from hbb)))) (fun b hbb => (hok.lt b (qq hM' rfl hβ (r3.symm.trans (show hb h' = some b from hbb)))).1) (fun _ => False) (fun b hdr => hdr.elim) (fun _ _ _ _ => rfl) rfl rfl rfl (qbM _)
   ·by_cases hki : i = k
    ·subst hki
     rw [qbG hlt] at hkb
     exact .inr (qbw hkb).symm
    ·rw [qbC hki] at hkb; exact .inl hkb
   ·obtain ⟨hki, q1'⟩ := ne k kb q1 q2
    exact hki (hok.inj i k _ kb _ hh b hM' rfl hβ (r3.symm.trans (show hb h' = some b from hbb)) q1' q2 q3 q4)
  ·rcases r2.2 with ⟨rfl, _⟩ | ⟨g, cap, cur, rfl, _⟩
   ·exact .arr (by simp [hjl])
   ·exact .arr (by simp [hjl])
theorem uh {α : Type} {en : α → List Value} {sz : Nat} (hen : ∀ a, (en a).length = sz) : ∀ (r : List α) (i : Nat), (r.drop i).flatMap en = (r.flatMap en).drop (i * sz)
 | r, 0 => by simp
 | [], i + 1 => by simp
 | x :: r, i + 1 => by
  rw [List.drop_succ_cons, uh hen r i, qbJ, Nat.add_mul, Nat.one_mul, Nat.add_comm, ← List.drop_drop, List.drop_append_of_le_length (by rw [hen]; exact qbM _), ← hen x, List.drop_length, qbF]
end
theorem wrc {τ0 r : List Nat} {i : Nat} {k k' : Blk} {ks : List Blk} {r' : List (Nat × Blk)} (h : sbB τ0 k = some k') (h2 : yt τ0 r ks = some r') : yt τ0 (i :: r) (k :: ks) = some ((i, k') :: r') := by
 unfold yt; rw [h, h2]
theorem GP {α : Type} {τ : List Nat} {f : α → D} (h : ∀ a, sb τ (f a) = some (f a)) : ∀ l : List α, sbL τ (l.flatMap fun a => [f a]) = some (l.flatMap fun a => [f a])
 | [] => rfl
 | a :: l => by
  rw [qbJ]
  show sbL τ (f a :: l.flatMap fun a => [f a]) = _
  unfold sbL
  rw [h a, GP h l]
  rfl
theorem kB {α : Type} {τ : List Nat} {f : α → D} {T : TypeId} {sz n : Nat} {l : List α} (h : ∀ a, sb τ (f a) = some (f a)) : sbB τ (.arx T sz n (l.flatMap fun a => [f a])) = some (.arx T sz n (l.flatMap fun a => [f a])) := by
 show (sbL τ _).map _ = _; rw [GP h]; rfl
end Go.Proofs.YtofklkbfkoliiaaGreat
namespace Go.Proofs.YtofklkbfkoliiaaGreat
set_option linter.unusedVariables false
set_option linter.unusedSimpArgs false
open Go.RowKit
def D.cs : D → List D
 | .agg l => l
 | .val v => v.cells.toList.map .val
 | d => [d]
def D.c1 : D → Bool
 | .opt _ _ => false
 | .tup _ => false
 | .junk => false
 | .hnd _ => false
 | _ => true
def D.oc2 : D → Bool
 | .slf _ _ _ => true
 | .slm _ _ _ => true
 | .arr _ => true
 | .farr _ _ => true
 | .floc _ _ _ => true
 | .pin _ _ => true
 | .pip _ => true
 | .dpf _ => true
 | .dpm _ => true
 | .fn _ _ _ => true
 | .val u => u.oneCell'
 | _ => false
theorem QO {s : St} {d : D} {v : Value} (h : Rep s d v) (hd : d.oc2 = true) : v.oneCell' = true := by
 cases h with
 | val v => exact hd
 | slf => rfl
 | slm => rfl
 | arr => rfl
 | fn => rfl
 | farr => rfl
 | floc => rfl
 | pin => rfl
 | pip => rfl
 | dpf => rfl
 | dpm => rfl
 | _ => cases hd
theorem YY {s : St} {d : D} {v : Value} (h : Rep s d v) (hd : d.c1 = true) : Reps s d.cs v.cells.toList := by
 have h0 := h
 cases h with
 | val v =>
  refine ⟨by simp [D.cs], fun j e u h1 h2 => ?_⟩
  simp only [D.cs, qca, h2, Option.map_some] at h1
  cases h1
  exact .val u
 | agg hl h => exact ⟨hl, h⟩
 | opt => cases hd
 | tup => cases hd
 | junk => cases hd
 | hnd => cases hd
 | _ =>
  refine ⟨rfl, fun j e u h1 h2 => ?_⟩
  cases j with
  | zero => simp [D.cs, Value.cells] at h1 h2; subst h1 h2; exact h0
  | succ j => simp [D.cs, Value.cells] at h1
def setD : List D → Nat → List D → List D
 | Z, _, [] => Z
 | Z, p, d :: r => setD (Z.set p d) (p + 1) r
def KM (offs : List (Nat × Nat)) : List D → List (Nat × List D) → List D
 | Z, [] => Z
 | Z, (i, C) :: r => KM offs (setD Z ((offs.getD i (0, 0)).1) C) r
def JH (offs : List (Nat × Nat)) (n : Nat) : List (Nat × List D) → Bool
 | [] => true
 | (i, C) :: r => (match offs[i]? with | some (o, s) => C.length == s && Nat.ble (o + s) n | none => false) && JH offs n r
theorem Uq {s : St} {Z : List D} {vz : List Value} (h : Reps s Z vz) {d : D} {v : Value} (hd : Rep s d v) (p : Nat) : Reps s (Z.set p d) (vz.set p v) := by
 refine ⟨by simp [h.1], fun j e u h1 h2 => ?_⟩
 by_cases e1 : p = j
 ·subst e1
  by_cases hp : p < Z.length
  ·rw [qbG hp] at h1
   rw [qbG (by rw [h.1]; exact hp)] at h2
   cases h1; cases h2; exact hd
  ·rw [qb2 (by simp; omega)] at h1; cases h1
 ·rw [qbC e1] at h1 h2
  exact h.2 j e u h1 h2
theorem KN {s : St} : ∀ (C : List D) (vc : List Value) (Z : List D) (vz : List Value) (p : Nat), Reps s C vc → Reps s Z vz → Reps s (setD Z p C) (jX vz p vc)
 | [], [], Z, vz, p, _, hz => by rw [GI]; exact hz
 | d :: C, v :: vc, Z, vz, p, hc, hz => by
  rw [setD, jX]
  exact KN C vc _ _ _ ⟨by simpa using hc.1, fun j e u h1 h2 => hc.2 (j + 1) e u (by simpa using h1) (by simpa using h2)⟩ (Uq hz (hc.2 0 d v rfl rfl) p)
 | [], v :: vc, _, _, _, hc, _ => by have := hc.1; simp at this
 | d :: C, [], _, _, _, hc, _ => by have := hc.1; simp at this
theorem KO {s : St} (offs : List (Nat × Nat)) (n : Nat) : ∀ (is : List Nat) (Cs : List (List D)) (vs : List (List Value)) (Z : List D) (vz : List Value), (∀ (j : Nat) C v, Cs[j]? = some C → vs[j]? = some v → Reps s C v) → Cs.length = vs.length → Reps s Z vz → JH offs n (is.zip Cs) = true →
  Reps s (KM offs Z (is.zip Cs)) (vS offs vz (is.zip vs)) ∧ wb offs n (is.zip vs) = true
 | [], Cs, vs, Z, vz, _, _, hz, _ => by simpa [KM, vS, wb] using hz
 | i :: is, [], vs, Z, vz, _, hl, hz, _ => by
  have : vs = [] := by cases vs with | nil => rfl | cons => simp at hl
  subst this
  simpa [KM, vS, wb] using hz
 | i :: is, C :: Cs, [], Z, vz, _, hl, _, _ => by simp at hl
 | i :: is, C :: Cs, v :: vs, Z, vz, hc, hl, hz, hb => by
  simp only [List.zip_cons_cons, JH, qbu] at hb
  simp only [List.zip_cons_cons, KM, vS, wb, qbu]
  have h0 := hc 0 C v rfl rfl
  obtain ⟨r1, r2⟩ := KO offs n is Cs vs _ _ (fun j C v h1 h2 => hc (j + 1) C v (by simpa using h1) (by simpa using h2)) (by simpa using hl) (KN C v Z vz _ h0 hz) hb.2
  refine ⟨r1, ?_, r2⟩
  rw [h0.1]
  exact hb.1
theorem VU {s : St} (L : List Value) : Reps s (L.map .val) L := by
 refine ⟨by simp, fun j e u h1 h2 => ?_⟩
 rw [qca, h2] at h1
 cases h1
 exact .val u
theorem xh {s : St} {d1 d2 : List D} {v1 v2 : List Value} (h1 : Reps s d1 v1) (h2 : Reps s d2 v2) : Reps s (d1 ++ d2) (v1 ++ v2) := by
 refine ⟨by simp [h1.1, h2.1], fun j d v hd hv => ?_⟩
 by_cases hj : j < d1.length
 ·rw [qbI hj] at hd
  rw [qbI (by rw [h1.1]; exact hj)] at hv
  exact h1.2 j d v hd hv
 ·rw [qbO (by omega)] at hd
  rw [qbO (by rw [h1.1]; omega), h1.1] at hv
  exact h2.2 _ d v hd hv
theorem QP {s : St} : ∀ (ds : List D) (vs : List Value), Reps s ds vs → ds.all D.c1 = true → Reps s (ds.flatMap D.cs) (vs.flatMap fun v => v.cells.toList)
 | [], [], _, _ => ⟨rfl, fun j e u h1 h2 => by simp at h1⟩
 | d :: ds, v :: vs, h, hc => by
  rw [List.all_cons, qbu] at hc
  rw [qbJ, qbJ]
  exact xh (YY (h.2 0 d v rfl rfl) hc.1) (QP ds vs ⟨by simpa using h.1, fun j e u h1 h2 => h.2 (j + 1) e u (by simpa using h1) (by simpa using h2)⟩ hc.2)
 | [], v :: vs, h, _ => by have := h.1; simp at this
 | d :: ds, [], h, _ => by have := h.1; simp at this
theorem ui {α β : Type} {en : α → List β} {sz : Nat} (hen : ∀ a, (en a).length = sz) : ∀ l : List α, (l.flatMap en).length = l.length * sz
 | [] => by simp
 | a :: l => by rw [qbJ, qbz, hen, ui hen l, qbW, qcg]; omega
section
variable {P : Program} {pc : Bool} {o : Oper} {F : Fr} {M : List Blk}
theorem jZ {T : TypeId} {ps : List (Nat × Operand)} {ds R : List D} {offs : List (Nat × Nat)} {Z : List Value} (ho : o.op = .build T ps.toArray) (hT : fdL P T = some offs) (hZ : zrC P T = some Z) (hv : EvL pc F (ps.map (·.2)) ds) (hc : ds.all D.c1 = true)
  (hB : JH offs Z.length ((ps.map (·.1)).zip (ds.map D.cs)) = true) (hR : KM offs (Z.map .val) ((ps.map (·.1)).zip (ds.map D.cs)) = R) : DOp P pc o F M [] (.agg R) [] := by
 intro hp a s hok hops _
 obtain ⟨r1, r2⟩ := gv (a := a) (s := s) hp _ _ hv (fun x hx => hops x (by rw [ho]; simpa [Op.operands] using hx))
 have hf := KO (s := s) offs Z.length (ps.map (·.1)) (ds.map D.cs) (((ps.map (·.2)).map a.eval).map fun v => v.cells.toList) (Z.map .val) Z (fun j C v h1 h2 => by
   rw [qca] at h1 h2
   simp only [qbL] at h1 h2
   obtain ⟨d, h1, rfl⟩ := h1
   obtain ⟨u, h2, rfl⟩ := h2
   exact YY (r2 j d u h1 h2) (qbX.1 hc _ (qb7 h1))) (by rw [qcf, qcf]; exact r1.symm) (VU Z) hB
 rw [hR] at hf
 exact qU hok (xg (P := P) (a := a) (w := s.w) ho hT hZ rfl hf.2 rfl) (.agg hf.1.1 hf.1.2)
theorem JI {T e : TypeId} {n sz by' : Nat} {ps : List (Nat × Operand)} {ds R : List D} {Z : List Value} (ho : o.op = .buildSlice T n ps.toArray) (hT : slE P T = some (e, sz, by')) (hZ : zrC P e = some Z) (hi : ps.map (·.1) = List.range' 0 n) (hv : EvL pc F (ps.map (·.2)) ds) (hc : ds.all D.c1 = true) (hs : ds.all (fun d => d.cs.length == sz) = true)
  (hR : ds.flatMap D.cs = R) (hnl : D.nlL R = true) (hl : R.length = n * sz) (hn : n ≤ 16777216) (hn2 : n * sz ≤ 16777216) : DOp P pc o F M [] (.slm sz n R) [] := by
 intro hp a s hok hops _
 have hr := gv (a := a) (s := s) hp _ _ hv (fun x hx => hops x (by rw [ho]; simpa [Op.operands] using hx))
 obtain ⟨vs, hvs⟩ : ∃ vs, vs = (ps.map (·.2)).map a.eval := ⟨_, rfl⟩
 rw [← hvs] at hr
 have hcs := QP ds vs hr hc
 rw [hR] at hcs
 have hcell : ∀ v ∈ vs, v.cells.size = sz := fun v hv' => by
  obtain ⟨j, hj, rfl⟩ := qcc hv'
  have hj2 : j < ds.length := by have := hr.1; omega
  have h1 := (YY (hr.2 j _ _ (qbr hj2) (qbr hj)) (qbX.1 hc _ (qb9 hj2))).1
  have h2 := qbX.1 hs _ (qb9 hj2)
  simp only [beq_iff_eq] at h2
  rw [h2] at h1
  simpa using h1
 have hrun := gc (P := P) (w := s.w) ho hT hZ hi hvs.symm hcell hn2
 have ht := vX hok (.cells (vs.flatMap fun v => v.cells.toList).toArray e)
 refine ja (s' := ⟨s.β, fun b => s.I b ∨ b = s.w.heap.size, s.M, _⟩) hrun ht rfl (.slm hnl hl (qbM _) (by unfold maxLen; omega) (fun e => by cases e) hcs.1 (fun j d v h1 h2 => (hcs.2 j d v h1 h2).mono hok ht) (.inr ⟨_, 0, rfl, .inr rfl, ?_⟩))
 simpa using qi (heap_alloc_new s.w _) 0
theorem Zz {T e : TypeId} {x y : Operand} {k : IntKind} {z : Int} {n sz by' : Nat} {ds R : List D} (j : Nat) (hpos : 0 < sz) (ho : o.op = .indexAddr T x y) (hT : slE P T = some (e, sz, by')) (hx : Ev pc F x (.slm sz n ds)) (hy : Ev pc F y (.val (.int k z))) (hz : pc = true → z = (j : Int)) (hj : pc = true → j < n) (hR : (ds.drop (j * sz)).take sz = R) : DOp P pc o F M [] (.dpm R) [] := by
 intro hp a s hok hops _
 have hr := qu hp hx (by simp [ho, Op.operands]) hops
 have h2 := (qu hp hy (by simp [ho, Op.operands]) hops).val_eq
 have hj := hj hp
 rw [hz hp] at h2
 generalize hv : a.eval x = vx at hr
 cases hr with
 | @slm _ _ cap ad _ vs hnl hl hn hc ha hvl h hm =>
  rcases hm with hm | ⟨b, q, rfl, hI, hcl⟩
  ·rw [hm] at hl
   have : 0 < n * sz := Nat.mul_pos (by omega) hpos
   simp at hl
   omega
  ·have hrun := gq (P := P) (w := s.w) ho hT hv h2 (by omega) (by omega)
   rw [Addr.add_mid, qcb] at hrun
   subst hR
   refine qU hok hrun (.dpm (vs := (vs.drop (j * sz)).take sz) (zF _ (vb _ hnl)) hI (qN hcl _ _) (by rw [qbS, qbZ, qbS, qbZ, hvl]) (fun i d' v h1 h2 => ?_))
   rw [List.getElem?_take] at h1 h2
   split at h1
   ·rename_i hi
    rw [if_pos hi] at h2
    rw [qcd] at h1 h2
    exact h _ d' v h1 h2
   ·cases h1
theorem gN {α : Type} {mk : α → List D} {l : List α} {T e : TypeId} {x y : Operand} {k : IntKind} {z : Int} {sz by' : Nat} (j : Nat) (hpos : 0 < sz) (ho : o.op = .indexAddr T x y) (hT : slE P T = some (e, sz, by')) (hx : Ev pc F x (.slm sz l.length (l.flatMap mk))) (hy : Ev pc F y (.val (.int k z))) (hz : pc = true → z = (j : Int)) (hj : j < l.length) (hmk : ∀ a, (mk a).length = sz) : DOp P pc o F M [] (.dpm (mk l[j])) [] :=
 Zz j hpos ho hT hx hy hz (fun _ => hj) (by rw [vG hmk, List.drop_eq_getElem_cons hj, qbJ, List.take_left' (hmk _)])
theorem gO {T : TypeId} {x : Operand} {k : Nat} {ld R : List D} (ho : o.op = .load T x) (hT : tyB P T = some (true, k)) (hx : Ev pc F x (.dpm ld)) (hR : ld.take k = R) (hl : R.length = k) : DOp P pc o F M [] (.agg R) [] := by
 intro hp a s hok hops hfp
 have hr := qu hp hx (by simp [ho, Op.operands]) hops
 generalize hv : a.eval x = vx at hr
 cases hr with
 | @dpm b q _ vs hnl hI hc hvl h =>
  subst hR
  have hr := jG hc 0 k (R := vs.take k) (by simp)
  have hlv : (vs.take k).length = k := by rw [qbS] at hl ⊢; omega
  refine qU hok (jW ho hT hv (by simpa using hr) hlv) (.agg (by rw [hlv, hl]) (fun j d v h1 h2 => ?_))
  rw [List.getElem?_take] at h1 h2
  split at h1
  ·rename_i hi
   rw [if_pos hi] at h2
   exact h j d v h1 h2
  ·cases h1
theorem JJ {T e : TypeId} {by' sz n m i j : Nat} {x y : Operand} {l l2 : List D} {Z : List Value} (ho : o.op = .call { callee := .builtin .append, args := #[x, y], argTypes := #[T, T] }) (hT : slE P T = some (e, sz, by')) (hZ : zrC P e = some Z) (hZl : Z.length = sz)
  (hx : Ev pc F x (.arr i)) (hy : Ev pc F y (.slm sz m l2)) (hM : M[i]? = some (.arx e sz n l)) (hj : M[j]? = some .hole) (h1 : l2.all D.oc2 = true) (hbd : pc = true → (n + m) * by' ≤ 140737488355328 ∧ n + m ≤ 140737488355328) :
  DOp P pc o F M [i, j] (.arr j) [(i, .gone), (j, .arx e sz (n + m) (l ++ l2))] := by
 intro hp a s hok hops hfp
 obtain ⟨e1, ti, e2, e3, e4⟩ := kS hT
 obtain ⟨ti', z, q1, q2, q3⟩ := jA hZ
 rw [e2] at q1
 obtain rfl := qbw q1
 obtain ⟨b1, b2⟩ := hbd hp
 have hM' : s.M[i]? = some (.arx e sz n l) := by rw [hfp i (by simp)]; exact hM
 have hj' : s.M[j]? = some .hole := by rw [hfp j (by simp)]; exact hj
 have hij : i ≠ j := fun h => by subst h; rw [hM'] at hj'; cases hj'
 have hjl : j < s.β.length := by rw [hok.len]; exact (qbq.1 hj').1
 have hrx := qu hp hx (by simp [ho, Op.operands, Call.operands]) hops
 have hry := qu hp hy (by simp [ho, Op.operands, Call.operands]) hops
 generalize hv : a.eval x = vx at hrx
 generalize hvy : a.eval y = vy at hry
 cases hry with
 | @slm _ _ cap2 a2 _ vs2 hnl2 hl2 hn2 hc2 ha2 hvl2 hel2 hm2 =>
 have hso : SrcOk s (.slice a2 m cap2) m vs2 := by
  refine ⟨a2, cap2, rfl, ?_⟩
  cases a2 with
  | none =>
   have := ha2 rfl
   exact .inl ⟨rfl, by omega, this, qbU (by rw [hvl2, hl2, show m = 0 by omega, Nat.zero_mul])⟩
  | some ad =>
   refine .inr ⟨ad, rfl, fun k u hk => ?_⟩
   rcases hm2 with e | ⟨b, q, e, hI, hcl⟩
   ·rw [e] at hvl2
    rw [qbU hvl2] at hk
    simp at hk
   ·cases e
    rw [Addr.add_mid]
    exact hcl k u hk
 have hone : ∀ u ∈ vs2, u.oneCell' = true := fun u hu => by
  obtain ⟨k, hk, rfl⟩ := qcc hu
  have hk2 : k < l2.length := by omega
  exact QO (hel2 k _ _ (qbr hk2) (qbr hk)) (qbX.1 h1 _ (qb9 hk2))
 cases hrx with
 | @arr _ ad n' c hβ =>
  obtain ⟨vs, hk, hvl, hel⟩ := hok.blk i _ _ hM' hβ
  obtain ⟨h', w', r1, r2, r3, r4⟩ := yA (P := P) (ty := o.type) (m := m) e1 e2 e3 e4 q2 (by rw [← hZl, ← q3]; simp) hk (by rw [hvl2]; exact hl2) hso hone (by unfold maxLen; omega) b1
  have hs' : (h' = .slice none 0 0) ∨ ∃ a n c, h' = .slice (some a) n c := by
   rcases r2.2 with ⟨q, _⟩ | ⟨g, cap, cur, q, _⟩
   ·exact .inl q
   ·exact .inr ⟨_, _, _, q⟩
  have hs0 : (Value.slice ad n' c = .slice none 0 0) ∨ ∃ a n k, Value.slice ad n' c = .slice (some a) n k := by
   rcases hk.2 with ⟨q, _⟩ | ⟨g, cap, cur, q, _⟩
   ·exact .inl q
   ·exact .inr ⟨_, _, _, q⟩
  have o1 := wa hs'
  have o0 := wa hs0
  have hblk : s.w.heap.size ≤ w'.heap.size := r3.size
  have hβj : s.β[j]? = some .nilFunc := by
   have q : s.β[j]? = some s.β[j] := qbr hjl
   have : s.β[j] = .nilFunc := hok.blk j .hole _ hj' q
   rw [q, this]
  have from_ : ∀ b, hb h' = some b → s.w.heap.size ≤ b ∨ (hb (Value.slice ad n' c) = some b) := by
   intro b hbb
   rw [o1] at hbb
   rcases r4 b hbb with h | h
   ·exact .inr (by rw [o0]; exact h)
   ·exact .inl h
  have hnd' : ∀ (k : Nat) h, s.β[k]? = some h → h ≠ .nilFunc → (s.β.set j h')[k]? = some h := fun k h hk' hne => by
   by_cases e : j = k
   ·subst e; rw [hβj] at hk'; exact absurd (qbw hk').symm hne
   ·rw [qbC e]; exact hk'
  have imm' : ∀ b, s.I b → w'.heap[b]? = s.w.heap[b]? := fun b hI => r3.block b (hok.il b hI) fun h => by
   rw [← o0] at h
   exact (hok.lt b (qq hM' rfl hβ h.symm)).2 hI
  have hblkx : BlkOk ⟨s.β.set j h', s.I, (s.M.set i .gone).set j (.arx e sz (n + m) (l ++ l2)), w'⟩ h' (.arx e sz (n + m) (l ++ l2)) := by
   refine ⟨vs ++ vs2, r2, by simp [hvl, hvl2], fun k d v hk1 hk2 => ?_⟩
   by_cases hlt : k < l.length
   ·rw [qbI hlt] at hk1
    rw [qbI (by omega)] at hk2
    exact Rep.mono' (s' := ⟨s.β.set j h', s.I, (s.M.set i .gone).set j (.arx e sz (n + m) (l ++ l2)), w'⟩) hnd' (fun _ h => h) imm' (hel k d v hk1 hk2)
   ·rw [qbO (by omega)] at hk1 hk2
    rw [hvl] at hk2
    exact Rep.mono' (s' := ⟨s.β.set j h', s.I, (s.M.set i .gone).set j (.arx e sz (n + m) (l ++ l2)), w'⟩) hnd' (fun _ h => h) imm' (hel2 _ d v hk1 hk2)
  have ht : Tr s ⟨s.β.set j h', s.I, (s.M.set i .gone).set j (.arx e sz (n + m) (l ++ l2)), w'⟩ := by
   refine kV hok j (s.M.set i .gone) h' _ w' (by simp) (fun k kb hkb => ?_) (by rw [← hok.len]; exact hjl) (.inl hβj) (by rcases hs' with rfl | ⟨_, _, _, rfl⟩ <;> simp) hblkx (fun b hbb k kb hh hne q1 q2 q3 q4 => ?_) (fun b hbb => (from_ b hbb).imp id fun h => qq hM' rfl hβ h) (fun b hbb => ?_) (fun b => hb (Value.slice ad n' c) = some b) (fun b hdr => ⟨qq hM' rfl hβ hdr, fun k kb hh hne q1 q2 q3 q4 => ?_⟩) (fun b hlt hne hnd => ?_) r3.os r3.tape r3.output hblk
   ·by_cases hki : i = k
    ·subst hki
     have hlt : i < s.M.length := (qbq.1 hM').1
     rw [qbG hlt] at hkb
     exact .inr (qbw hkb).symm
    ·rw [qbC hki] at hkb; exact .inl hkb
   ·have hki : i ≠ k := fun h => by
     subst h
     have hlt : i < s.M.length := (qbq.1 hM').1
     rw [qbG hlt] at q1
     cases q1; cases q2
    rw [qbC hki] at q1
    rcases from_ b hbb with h | h
    ·exact absurd (hok.lt b (qq q1 q2 q3 q4)).1 (Nat.not_lt.2 h)
    ·exact hki (hok.inj i k _ kb _ hh b hM' rfl hβ h q1 q2 q3 q4)
   ·replace hbb : hb h' = some b := hbb
    rw [o1] at hbb
    exact (r2.lt b hbb).2
   ·have hki : i ≠ k := fun h => by
     subst h
     have hlt : i < s.M.length := (qbq.1 hM').1
     rw [qbG hlt] at q1
     cases q1; cases q2
    rw [qbC hki] at q1
    exact hki (hok.inj i k _ kb _ hh b hM' rfl hβ hdr q1 q2 q3 q4)
   ·exact r3.block b hlt fun h => hnd (by rw [o0]; exact h.symm)
  refine ja (s' := ⟨s.β.set j h', s.I, (s.M.set i .gone).set j (.arx e sz (n + m) (l ++ l2)), w'⟩) (kR ho (fun cs => by rfl) (by simpa [hv, hvy] using r1)) ht rfl ?_
  rcases hs' with rfl | ⟨_, _, _, rfl⟩
  ·exact .arr (by simp [hjl])
  ·exact .arr (by simp [hjl])
end
section
variable {P : Program} {s0 : St} {n : Cx}
theorem VV {F : Fr} {M : List Blk} {a : Act} {w : World} {T e : TypeId} {p q i sz m : Nat} {l ds : List D} (h : Inv s0 n F M a w) (hM : M[p]? = some (.mix T l)) (hq : l[q]? = some (.arr i)) (hi : M[i]? = some (.arx e sz m ds)) (hnl : D.nlL ds = true) : Inv s0 n F ((M.set i .gone).set p (.mix T (l.set q (.slm sz m ds)))) a w := by
 obtain ⟨h0, s, rfl, rfl, h3, h4, h5, h6⟩ := h
 have hpl : p < s.M.length := (qbq.1 hM).1
 have hil : i < s.M.length := (qbq.1 hi).1
 have hpi : p ≠ i := fun e => by subst e; rw [hM] at hi; cases hi
 have hpl' : p < s.β.length := by rw [h3.ok.len]; exact hpl
 have hil' : i < s.β.length := by rw [h3.ok.len]; exact hil
 have hβi : s.β[i]? = some s.β[i] := qbr (by rw [h3.ok.len]; exact hil)
 have hβp : s.β[p]? = some s.β[p] := qbr (by rw [h3.ok.len]; exact hpl)
 obtain ⟨b, vs, e1, e2, e3, e4⟩ := h3.ok.blk p _ _ hM hβp
 obtain ⟨us, hk, q3, q4⟩ := h3.ok.blk i _ _ hi hβi
 have hql : q < l.length := (qbq.1 hq).1
 have hcell : vs[q]? = some s.β[i] := by
  have hv : vs[q]? = some vs[q] := qbr (by omega)
  have := e4 q _ _ hq hv
  rw [hv]
  generalize vs[q] = x at this
  cases this with
  | arr h => exact h.symm.trans hβi
 have main : ∃ I' : Nat → Prop, Tr s ⟨s.β, I', s.M.set i .gone, s.w⟩ ∧ Rep ⟨s.β, I', s.M.set i .gone, s.w⟩ (.slm sz m ds) s.β[i] := by
  rcases hk.2 with ⟨g1, g2⟩ | ⟨g, cap, cur, g1, g2, g3', g4, g5, g6, g7⟩
  ·subst g2
   have hl0 : ds = [] := qbU (by rw [← q3, hk.1, Nat.zero_mul])
   refine ⟨s.I, ?_, ?_⟩
   ·have hnd : ∀ (i : Nat) h, s.β[i]? = some h → h ≠ .nilFunc → s.β[i]? = some h := fun _ _ h _ => h
    have old : ∀ (j : Nat) k, (s.M.set i .gone)[j]? = some k → k = .gone ∨ s.M[j]? = some k := fun j k hj => by
     by_cases e : i = j
     ·subst e
      rw [qbG hil] at hj
      exact .inl (qbw hj).symm
     ·rw [qbC e] at hj; exact .inr hj
    have lv : ∀ b, Live ⟨s.β, s.I, s.M.set i .gone, s.w⟩ b → Live s b := by
     rintro b ⟨j, k, h, h1, h2, h3, h4⟩
     rcases old j k h1 with rfl | h1
     ·cases h2
     ·exact qq h1 h2 h3 h4
    refine ⟨⟨by simp [h3.ok.len], fun j k h h1 h2 => ?_, fun b hb => h3.ok.lt b (lv b hb), ?_, h3.ok.il⟩, jI hnd, fun _ h => h, fun _ h => .inl h, fun _ _ _ => rfl, fun b h => .inr (lv b h), rfl, rfl, rfl, qbM _⟩
    ·rcases old j k h1 with rfl | h1
     ·trivial
     ·exact BlkOk.mono (s := s) (s' := ⟨s.β, s.I, s.M.set i .gone, s.w⟩) hnd (fun _ h => h) (fun _ _ => rfl) (h3.ok.blk j k h h1 h2) (fun _ _ _ => rfl)
    ·intro j j2 k k2 x x2 b a1 a2 a3 a4 c1 c2 c3 c4
     rcases old j k a1 with rfl | a1
     ·cases a2
     ·rcases old j2 k2 c1 with rfl | c1
      ·cases c2
      ·exact h3.ok.inj j j2 k k2 x x2 b a1 a2 a3 a4 c1 c2 c3 c4
   ·rw [g1, hl0]
    exact .slm (vs := []) rfl (by simp) (qbM _) (qb3 _) (fun _ => rfl) rfl (fun j d v h => by simp at h) (.inl rfl)
  ·have tt := JG h3.ok hi rfl hβi (show hb s.β[i] = some g by rw [g1]; rfl) s.w (fun _ _ => rfl) rfl rfl rfl rfl
   refine ⟨_, tt, ?_⟩
   rw [g1]
   refine .slm (vs := us) hnl (by rw [← q3]; exact hk.1) g4 g5 (fun e => by cases e) q3 (fun j d v hj hv => (q4 j d v hj hv).mono h3.ok tt) (.inr ⟨g, 0, rfl, .inr rfl, ?_⟩)
   have hc := qN (qi g3' 0) 0 (m * sz)
   show kc s.w g 0 us
   simpa [g7] using hc
 obtain ⟨I', tt, hrep⟩ := main
 have hM2 : (s.M.set i .gone)[p]? = some (.mix T l) := by rw [qbC (Ne.symm hpi)]; exact hM
 have hset : s.β.set p s.β[p] = s.β := List.set_getElem_self ..
 have t2 : Tr ⟨s.β, I', s.M.set i .gone, s.w⟩ ⟨s.β, I', (s.M.set i .gone).set p (.mix T (l.set q (.slm sz m ds))), s.w⟩ := by
  have hst := kV tt.ok p (s.M.set i .gone) s.β[p] (.mix T (l.set q (.slm sz m ds))) s.w rfl (fun i k h => .inl h) (by simpa using hpl) (.inr (.inl hβp)) (by rw [e1]; simp) ?_ (fun b' hb' j kj hj hne h1 h2 h3' h4' => ?_) (fun b' hb' => .inr (qq hM2 rfl hβp hb')) (fun b' hb' => (tt.ok.lt b' (qq hM2 rfl hβp hb')).1) (fun _ => False) (fun _ h => h.elim) (fun b' hlt hne _ => rfl) rfl rfl rfl (qbM _)
  ·have hst' := hst
   simp only [hset] at hst'
   exact hst'
  ·refine ⟨b, vs, e1, e2, by simp [e3], fun j d v g1 g2 => ?_⟩
   have lift : ∀ {d v}, Rep s d v → Rep ⟨s.β.set p s.β[p], I', (s.M.set i .gone).set p (.mix T (l.set q (.slm sz m ds))), s.w⟩ d v := fun hr => by
    rw [hset]
    exact Rep.mono' (s := ⟨s.β, I', s.M.set i .gone, s.w⟩) (s' := ⟨s.β, I', (s.M.set i .gone).set p (.mix T (l.set q (.slm sz m ds))), s.w⟩) (fun _ _ h _ => h) (fun _ h => h) (fun _ _ => rfl) (hr.mono h3.ok tt)
   by_cases e : q = j
   ·subst e
    rw [qbG hql] at g1
    cases g1
    rw [hcell] at g2
    cases g2
    rw [hset]
    exact Rep.mono' (s := ⟨s.β, I', s.M.set i .gone, s.w⟩) (s' := ⟨s.β, I', (s.M.set i .gone).set p (.mix T (l.set q (.slm sz m ds))), s.w⟩) (fun _ _ h _ => h) (fun _ h => h) (fun _ _ => rfl) hrep
   ·rw [qbC e] at g1
    exact lift (e4 j d v g1 g2)
  ·exact hne (tt.ok.inj j p kj _ hj _ b' h1 h2 h3' h4' hM2 rfl hβp hb')
 exact ⟨h0, ⟨s.β, I', (s.M.set i .gone).set p (.mix T (l.set q (.slm sz m ds))), s.w⟩, rfl, rfl, (h3.trans tt).trans t2, fun x d hd => ((h4 x d hd).mono h3.ok tt).mono tt.ok t2, h5, (h6.mono h3.ok tt).mono tt.ok t2⟩
theorem KP {c : Code} {F : Fr} {M M' : List Blk} {K : Cont} (p q : Nat) {T e : TypeId} {i sz m : Nat} {l ds : List D} (hnl : D.nlL ds = true) (hM : M[p]? = some (.mix T l)) (hq : l[q]? = some (.arr i)) (hi : M[i]? = some (.arx e sz m ds)) (hM' : (M.set i .gone).set p (.mix T (l.set q (.slm sz m ds))) = M') (h : dwp P s0 n c F M' K) : dwp P s0 n c F M K := by
 subst hM'
 exact fun a w hj => h a w (VV hj hM hq hi hnl)
end
mutual
theorem Ur (σ : List Nat) (V : Nat → Bool) (M : List Blk) : ∀ d : D, d.nl = true → vw σ V M d = some d
 | .val v, _ => rfl
 | .loc i o, h => by cases h
 | .arr i, h => by cases h
 | .aloc i o, h => by cases h
 | .own i sz o n, h => by cases h
 | .part i sz o n c, h => by cases h
 | .dpf L, _ => rfl
 | .pin b L, _ => rfl
 | .pip L, _ => rfl
 | .slf sz n L, _ => rfl
 | .slc sz n L, _ => rfl
 | .tup l, h => by rw [vw, uj σ V M l (by simpa [D.nl] using h)]; rfl
 | .agg l, h => by rw [vw, uj σ V M l (by simpa [D.nl] using h)]; rfl
 | .dpm l, _ => rfl
 | .slm sz n l, _ => rfl
 | .smc sz n l, _ => rfl
 | .fn f a b, h => by
  rw [D.nl, qbu] at h
  rw [vw, uj σ V M a h.1, uj σ V M b h.2]
 | .ifc t d, h => by rw [vw, Ur σ V M d (by simpa [D.nl] using h)]; rfl
 | .opt b d, h => by rw [vw, Ur σ V M d (by simpa [D.nl] using h)]; rfl
 | .hnd i, h => by cases h
 | .yld i, h => by cases h
 | .junk, _ => rfl
theorem uj (σ : List Nat) (V : Nat → Bool) (M : List Blk) : ∀ l : List D, D.nlL l = true → vwL σ V M l = some l
 | [], _ => rfl
 | d :: l, h => by
  rw [D.nlL, qbu] at h
  rw [vwL, Ur σ V M d h.1, uj σ V M l h.2]
end
mutual
theorem Us (τ : List Nat) : ∀ d : D, d.nl = true → sb τ d = some d
 | .val v, _ => rfl
 | .loc i o, h => by cases h
 | .arr i, h => by cases h
 | .aloc i o, h => by cases h
 | .own i sz o n, h => by cases h
 | .part i sz o n c, h => by cases h
 | .dpf L, _ => rfl
 | .pin b L, _ => rfl
 | .pip L, _ => rfl
 | .slf sz n L, _ => rfl
 | .slc sz n L, _ => rfl
 | .tup l, h => by rw [sb, xi τ l (by simpa [D.nl] using h)]; rfl
 | .agg l, h => by rw [sb, xi τ l (by simpa [D.nl] using h)]; rfl
 | .dpm l, _ => rfl
 | .slm sz n l, _ => rfl
 | .smc sz n l, _ => rfl
 | .fn f a b, h => by
  rw [D.nl, qbu] at h
  rw [sb, xi τ a h.1, xi τ b h.2]
 | .ifc t d, h => by rw [sb, Us τ d (by simpa [D.nl] using h)]; rfl
 | .opt b d, h => by rw [sb, Us τ d (by simpa [D.nl] using h)]; rfl
 | .hnd i, h => by cases h
 | .yld i, h => by cases h
 | .junk, _ => rfl
theorem xi (τ : List Nat) : ∀ l : List D, D.nlL l = true → sbL τ l = some l
 | [], _ => rfl
 | d :: l, h => by
  rw [D.nlL, qbu] at h
  rw [sbL, Us τ d h.1, xi τ l h.2]
end
theorem ZA (σ : List Nat) (V : Nat → Bool) (M : List Blk) (d : D) (h : d.nl = true) : vw1 σ V M d = some d := by
 cases d with
 | loc => cases h
 | arr => cases h
 | aloc => cases h
 | own => cases h
 | part => cases h
 | hnd => cases h
 | yld => cases h
 | floc => cases h
 | farr => cases h
 | faloc => cases h
 | _ => simp [vw1, h]
theorem QQ (σ : List Nat) (V : Nat → Bool) (M : List Blk) : ∀ l : List D, D.nlL l = true → yk σ V M l = some l
 | [], _ => rfl
 | d :: l, h => by
  rw [D.nlL, qbu] at h
  rw [yk, ZA σ V M d h.1, QQ σ V M l h.2]
theorem GQ : ∀ {a b : List D}, D.nlL a = true → D.nlL b = true → D.nlL (a ++ b) = true
 | [], _, _, h => h
 | d :: a, b, h, h' => by
  rw [D.nlL, qbu] at h
  rw [qbD, D.nlL, h.1, GQ h.2 h']
  rfl
theorem qf {α : Type} {mk : α → List D} (h : ∀ a, D.nlL (mk a) = true) : ∀ l : List α, D.nlL (l.flatMap mk) = true
 | [] => rfl
 | a :: l => by rw [qbJ]; exact GQ (h a) (qf h l)
theorem kp {σ : List Nat} {V : Nat → Bool} {M : List Blk} {T : TypeId} {sz n n' : Nat} {l l' : List D} (hn : n = n') (h : l = l') (hv : D.nlL l' = true) : (vwL σ V M l).map (Blk.arx T sz n) = some (Blk.arx T sz n' l') := by
 subst hn h
 rw [uj σ V M l hv]
 rfl
theorem kg {τ : List Nat} {T : TypeId} {sz n : Nat} {l : List D} (h : D.nlL l = true) : sbB τ (.arx T sz n l) = some (.arx T sz n l) := by
 show (sbL τ l).map _ = _
 rw [xi τ l h]; rfl
section
variable {P : Program} {pc : Bool} {o : Oper} {F : Fr} {M : List Blk} {T : TypeId} {x y : Operand} {n : Nat} {k : IntKind} {z : Int} {j : Nat}
def arW (P : Program) (T : TypeId) : Option Nat := match P.underlying T with
 | some (.array n e) => match tyB P e with
  | some (false, 1) => some n
  | _ => none
 | _ => none
theorem Ut (h : arW P T = some n) : ∃ e, P.underlying T = some (.array n e) ∧ tyB P e = some (false, 1) := by
 unfold arW at h
 split at h
 ·rename_i m e hu
  split at h
  ·rename_i hs; cases h; exact ⟨e, hu, hs⟩
  ·cases h
 ·cases h
theorem qad {ds : List D} {d : D} (j : Nat) (ho : o.op = .index T x y) (hT : arW P T = some n) (hx : Ev pc F x (.agg ds)) (hy : Ev pc F y (.val (.int k z))) (hz : pc = true → z = (j : Int)) (hj : j < n) (hd : ds[j]? = some d) : DOp P pc o F M [] d [] := by
 intro hp a s hok hops _
 have hr := qu hp hx (by simp [ho, Op.operands]) hops
 have e2 := (qu hp hy (by simp [ho, Op.operands]) hops).val_eq
 rw [hz hp] at e2
 obtain ⟨e, hu, he⟩ := Ut hT
 obtain ⟨dd, i, h1, h2, h3, h4⟩ := gw he
 generalize hv : a.eval x = vx at hr
 cases hr with
 | @agg _ vs hvl hel =>
  have hjl : j < vs.length := by rw [hvl]; exact (qbq.1 hd).1
  refine qU (v := vs[j]) hok ?_ (hel j _ _ hd (qbr hjl))
  unfold execOp
  simp only [ho, hv, e2]
  refine k6 ?_
  have hagg : (isAgg e).run P s.w = .ok false s.w := by
   unfold isAgg
   rw [Sem.run_bind, run_underlying h1]
   cases dd <;> first | rfl | cases h3
  have hsz : (sizeOf e).run P s.w = .ok 1 s.w := by simp [sizeOf, typeInfo, h2, h4]
  have hb : (0 : Int) ≤ (j : Int) ∧ (j : Int) < (n : Int) := by omega
  unfold Instr.index
  simp only [Sem.run_bind, asIntOf, Sem.run_pure, Result.andThen_ok, run_underlying hu, hb, and_self, if_true, hsz, part, hagg, qcb, Nat.mul_one]
  simp [hjl]
end
end Go.Proofs.YtofklkbfkoliiaaGreat
namespace Go.Proofs.YtofklkbfkoliiaaGreat
set_option linter.unusedVariables false
set_option linter.unusedSimpArgs false
open Go.ChangeShapes Go.WideShapes Go.ChangeAt Go.RowKit Go.Joins Go.Deep
def OpensF (P : Program) (w : World) {α : Type} (fs : List Field) (o tot : Nat) (mk : α → List D) (ok : α → Prop) : Prop :=
 ∀ (H : Type) (enc : TypeId × Value → H) (base : Nat) (spare : Nat → Bool) (held : Bool) (n : Nat) (cs : List Value), cs.length = tot → (∀ f, f ∈ fs → ∃ x, DataW.trod enc P w base spare held n f.type ((cs.drop f.offset).take (P.cellsOf f.type)) = some x) → ∃ a, ok a ∧ Reps (st0 w) (mk a) (cs.drop o)
section
variable {P : Program} {w : World}
theorem zI {tot : Nat} : OpensF P w ([] : List Field) tot tot (fun _ : Unit => []) (fun _ => True) := fun H enc base spare held n cs hl _ =>
 ⟨(), trivial, by rw [List.drop_eq_nil_of_le (by omega)]; exact ⟨rfl, fun j d v h => by simp at h⟩⟩
theorem gf {α β : Type} {f : Field} {fs : List Field} {o k tot : Nat} {mk : α → List D} {mk' : β → List D} {ok : α → Prop} {ok' : β → Prop} (ho : f.offset = o) (hk : P.cellsOf f.type = k) (h : Opens P w f.type mk ok) (h' : OpensF P w fs (o + k) tot mk' ok') :
  OpensF P w (f :: fs) o tot (fun a : α × β => mk a.1 ++ mk' a.2) (fun a => ok a.1 ∧ ok' a.2) := by
 intro H enc base spare held n cs hl hall
 obtain ⟨x, hx⟩ := hall f (qb1 ..)
 rw [ho, hk] at hx
 obtain ⟨a, h1, h2⟩ := h H enc base spare held n _ x hx
 obtain ⟨b, h3, h4⟩ := h' H enc base spare held n cs hl fun g hg => hall g (qb4 _ hg)
 refine ⟨(a, b), ⟨h1, h3⟩, ?_⟩
 have e : cs.drop o = (cs.drop o).take k ++ cs.drop (o + k) := by rw [← List.drop_drop, List.take_append_drop]
 rw [e]
 exact KJ h2 h4
theorem uO {α : Type} {t : TypeId} {fs : Array Field} {tot : Nat} {mk : α → List D} {ok : α → Prop} (hu : P.underlying t = some (.struct fs)) (ht : P.cellsOf t = tot) (h : OpensF P w fs.toList 0 tot mk ok) : Opens P w t mk ok := by
 intro H enc base spare held n cs x hx
 obtain ⟨xs, m, _, _, hl, hlen, hf⟩ := DataW.trod_struct hu hx
 obtain ⟨a, h1, h2⟩ := h H enc base spare held m cs (by rw [hl, ht]) fun f hfm => by
  obtain ⟨i, hi, rfl⟩ := qcc hfm
  have hi' : i < fs.size := by simpa using hi
  have h3 := hf i fs[i] (Array.getElem?_eq_getElem hi')
  rw [qbr (by omega)] at h3
  exact ⟨_, by simpa using h3⟩
 exact ⟨a, h1, by simpa using h2⟩
theorem KQ {α β : Type} {t : TypeId} {mk : α → List D} {ok : α → Prop} {mk' : β → List D} {ok' : β → Prop} (g : α → β) (h : Opens P w t mk ok) (hm : ∀ a, mk a = mk' (g a)) (ho : ∀ a, ok a → ok' (g a)) : Opens P w t mk' ok' := by
 intro H enc base spare held n cs x hx
 obtain ⟨a, h1, h2⟩ := h H enc base spare held n cs x hx
 exact ⟨g a, ho a h1, by rw [← hm]; exact h2⟩
end
theorem Uu {H : Type} {enc : TypeId × Value → H} {w : World} {base : Nat} {spare : Nat → Bool} {held : Bool} {α : Type} {t : TypeId} {fs : Array Field} {mk : α → List D} {ok : α → Prop} {v : Value} {d : DataW H} {p : List MemPlace} {r : Reach} {b0 : Nat} (hu : Tryz.prog.underlying t = some (.struct fs)) (ho : Opens Tryz.prog w t mk ok) (hv : Value.okWide Tryz.prog w r b0 t v) (h : DataW.Trod enc Tryz.prog w base spare held t v d p) :
  ∃ a, ok a ∧ Rep (st0 w) (.agg (mk a)) v := by
 obtain ⟨cs, rfl, hsz⟩ := okWide_struct hu hv
 obtain ⟨fuel, hfu⟩ := h
 obtain ⟨a, hok, hr⟩ := ho H enc base spare held _ _ _ hfu
 have h5 := Rep.agg (s := st0 w) (l := mk a) (vs := cs.toList) hr.1 hr.2
 rw [Array.toArray_toList] at h5
 exact ⟨a, hok, h5⟩
end Go.Proofs.YtofklkbfkoliiaaGreat
namespace Go.Proofs.YtofklkbfkoliiaaGreat
set_option linter.unusedVariables false
set_option linter.unusedSimpArgs false
open Go.RowKit
def QR (n : Nat) (lf : List Oper) (m : Nat) (fps : List (List Nat × List Nat)) : Bool :=
 let bs := zt lf []
 fps.length == m && qcj m lf.length && ((qb5 lf.length).all fun j => match lf[j]? with
  | some oj => oj.after.all (fun e => !Region.binds .any e || qcj e.on j) && (Nat.ble j m || (bs.getD j 0).testBit m)
  | none => false) && ((qb5 m).all fun i => (bs.getD m 0).testBit i) && (qb5 m).all fun j =>
  match lf[j]?, fps[j]? with
  | some oj, some fj => Jp n oj.dst && gC oj.op && fj.2.all (fun x => fj.1.contains x) && (qb5 j).all fun i =>
   match lf[i]?, fps[i]? with
   | some oi, some fi => Jv lf.toArray (bs.getD j 0) i oi oj fi fj
   | _, _ => false
  | _, _ => false
theorem gt {P : Program} {s0 : St} {n : Cx} {id : Nat} {lf : List Oper} {op : Oper} {F : Fr} {M : List Blk} {K : Cont} (m : Nat) (fps : List (List Nat × List Nat)) (hm : P.follows .mixedOrders = true) (hB : QR n.n lf m fps = true) (hopn : lf[m]? = some op) (hndm : gC op.op = true)
  (h : Lex P lf.toArray (lf.take m) fps F M (fun F1 M1 => ∃ fp d wr, op.guard = none ∧ DOpP P true op F1 M1 fp d wr ∧ K (.panic d) F1 (upd M1 wr))) :
  dwp P s0 n (.region id lf.toArray true) F M K := by
 intro a w hi
 refine wpIn_region_any hm ?_
 simp only [QR, qbu, beq_iff_eq, qbX, List.mem_range] at hB
 obtain ⟨⟨⟨⟨hlen0, hml⟩, hedge⟩, hpre0⟩, hB⟩ := hB
 have hml := Nat.blt_eq.mp hml
 obtain ⟨l, hl⟩ : ∃ l, l = lf.take m := ⟨_, rfl⟩
 have hllen : l.length = m := by rw [hl, qbS]; omega
 rw [← hl] at h
 have hlen : fps.length = l.length := by omega
 have htk : ∀ i, i < l.length → l[i]? = lf[i]? := fun i hi => by rw [hl, List.getElem?_take, if_pos (by omega)]
 have hon : ∀ (j : Nat) o, lf[j]? = some o → ∀ e ∈ o.after.toList, Region.binds .any e = true → e.on < j := by
  intro j o ho e he hb
  have h1 := hedge j (qbq.1 ho).1
  rw [ho] at h1
  simp only [qbu] at h1
  have := Array.all_eq_true_iff_forall_mem.1 h1.1 e (by simpa using he)
  rw [hb] at this
  exact Nat.blt_eq.mp (by simpa using this)
 have hbeh : ∀ i, l.length < i → i < lf.length → gF lf l.length i = true := by
  intro i h1 h2
  have h3 := hedge i h2
  rw [qbr h2] at h3
  simp only [qbu, qbE] at h3
  rcases h3.2 with h4 | h4
  ·have := Nat.ble_eq.mp h4; omega
  ·rw [hllen]; exact h4
 have hpre : ∀ j, j < l.length → gF lf j l.length = true := fun j hj => by rw [hllen]; exact hpre0 j (by omega)
 subst hllen
 obtain ⟨E, e1, e2, e3⟩ := zw l fps F M hlen h
 have at_ : ∀ k, k < l.length → ∃ o f, l[k]? = some o ∧ fps[k]? = some f := fun k hk => ⟨l[k], fps[k], qbr hk, qbr (by omega)⟩
 have hone : ∀ (j : Nat) o f, l[j]? = some o → fps[j]? = some f → (∀ e ∈ o.after.toList, Region.binds .any e = true → e.on < j) ∧ Jp n.n o.dst = true ∧ gC o.op = true ∧ (∀ x ∈ f.2, x ∈ f.1) ∧ ∀ (i : Nat) oi fi, i < j → l[i]? = some oi → fps[i]? = some fi → gF lf i j = true ∨ (g8 oi.dst.toList (gn lf.toArray o) = false ∧ g8 (gn lf.toArray oi) o.dst.toList = false ∧ g8 fi.2 f.1 = false ∧ g8 fi.1 f.2 = false) := by
  intro j o f ho hf
  have hj : j < l.length := (qbq.1 ho).1
  have h1 := hB j hj
  have ho2 := ho
  rw [htk j hj] at ho2
  rw [ho2, hf] at h1
  simp only [qbu, qbX, List.mem_range] at h1
  obtain ⟨⟨⟨h2, hnd⟩, h3⟩, h4⟩ := h1
  refine ⟨hon j o ho2, h2, hnd, fun x hx => by simpa using h3 x hx, fun i oi fi hij hoi hfi => ?_⟩
  have h5 := h4 i hij
  rw [← htk i (by omega), hoi, hfi] at h5
  simp only [Jv, qbE, qbx, qbv] at h5
  rcases h5 with h5 | h5
  ·exact .inl h5
  ·exact .inr ⟨h5.1.1.1, h5.1.1.2, h5.1.2, h5.2⟩
 have meet_no : ∀ {x : List Nat} {y : List Nat} {t : Nat}, g8 x y = false → t ∈ x → t ∈ y → False := by
  intro x y t hm hx hy
  simp only [g8, List.any_eq_false] at hm
  exact hm t hx (by simpa using hy)
 have main : ∀ (f : Nat) (listed : Array Bool) (b : Act) (s : St), Ok s0 → listed.size = lf.length → (∀ k, l.length ≤ k → listed.getD k false = false) → unl listed lf.length = f → Tr s0 s →
   (∀ t d, lkS l E F (fun k => listed.getD k false) t l.length = some d → Rep s d (ju b t)) → s.M.length = M.length → (∀ i, i < M.length → s.M[i]? = yn E M (fun k => listed.getD k false) i l.length) →
   b.tmps.size = n.n → DfOk s0 s n.mks n.U b.defers → (∀ j i, listed.getD j false = true → j < l.length → gF lf i j = true → listed.getD i false = true) →
   wpAnyIn (wd (n.ρ s0)) 0 P .any lf.toArray (PostK s0 n K) f listed b s.w := by
  intro f
  induction f with
  | zero =>
   intro listed b s h0 hs hbig hu ht hF hMl hM hn hd _
   have hall := v7 _ hu
   have h1 := hall l.length (by omega)
   rw [hbig l.length (qbM _)] at h1
   cases h1
  | succ f ih =>
   intro listed b s h0 hs hbig hu ht hF hMl hM hn hd hcl
   refine ⟨fun hnone => ?_, fun i hi => ?_⟩
   ·exfalso
    obtain ⟨i, h1, h2, h3⟩ := uD lf.length (listed := listed) (by omega)
    obtain ⟨o, ho⟩ : ∃ o, lf[i]? = some o := ⟨lf[i], qbr h1⟩
    have g1 := hon i o ho
    have : i ∈ Region.ready .any lf.toArray listed := mem_ready.2 ⟨by rw [yX hs h1]; exact h2, o, by simpa using ho, fun e he hb => h3 _ (g1 e (by simpa using he) hb)⟩
    rw [hnone] at this
    cases this
   ·obtain ⟨hun, o, ho, hall⟩ := mem_ready.1 hi
    have hof : lf[i]? = some o := by simpa using ho
    have hilf : i < lf.length := (qbq.1 hof).1
    rw [yX hs hilf] at hun
    have done0 : ∀ j, gF lf j i = true → listed.getD j false = true := by
     intro j hj
     obtain ⟨e, he, hb, hcase⟩ := w7 hof hj
     have h1 := hall e (by simpa using he) hb
     rcases hcase with rfl | ⟨h2, h3⟩
     ·exact h1
     ·refine hcl e.on j h1 ?_ h3
      refine Classical.byContradiction fun hno => ?_
      rw [hbig e.on (by omega)] at h1
      cases h1
    by_cases hgt : l.length < i
    ·exfalso
     have h1 := done0 l.length (hbeh i hgt hilf)
     rw [hbig l.length (qbM _)] at h1
     cases h1
    by_cases him : i = l.length
    ·subst him
     have hall2 : ∀ j, j < l.length → listed.getD j false = true := fun j hj => done0 j (hpre j hj)
     rw [hof] at hopn
     obtain rfl := qbw hopn
     obtain ⟨fp, d, wr, q1, q2, q3⟩ := e2
     have hFk : FOk s (Fup l E F l.length) b := fun t d hd' => by
      rw [w8] at hd'
      refine hF t d ?_
      rw [← hd']
      exact j5 _ fun j o hj _ _ => hall2 j hj
     have hMk : s.M = Mup E M l.length := by
      refine List.ext_getElem? fun i => ?_
      by_cases hi : i < M.length
      ·rw [hM i hi, w9 i hi]
       exact jF _ fun j r hj _ _ => hall2 j hj
      ·rw [qb2 (by omega), qb2 (by rw [Mup_len]; omega)]
     unfold wpOpIn
     rw [ho]
     simp only
     have hw : Region.wanted o (yielded lf.toArray b.tmps) = true := by unfold Region.wanted; rw [q1]
     rw [if_pos hw]
     refine zo hndm (q2 rfl b s ht.ok (fun x _ d hd => vY hFk hd) (fun i _ => by rw [hMk])) fun s' v ht' ⟨w1, w2⟩ => ?_
     exact ⟨Fup l E F l.length, upd (Mup E M l.length) wr, d, ⟨h0, s', v, w1.trans (by rw [hMk]), rfl, ht.trans ht', hFk.mono ht.ok ht', hn, hd.mono ht.ok ht', rfl, w2⟩, q3⟩
    have hil : i < l.length := by omega
    have ho' : l[i]? = some o := by rw [hl, List.getElem?_take, if_pos (by omega)]; exact hof
    obtain ⟨fi, hfi⟩ : ∃ fi, fps[i]? = some fi := ⟨fps[i], qbr (by omega)⟩
    obtain ⟨pc, d, r, hr, hrd, hg, hop, hwi, hgw⟩ := e3 i o fi ho' hfi
    obtain ⟨g1, g2, hnd, g3, g4⟩ := hone i o fi ho' hfi
    have done := done0
    have undone : ∀ j, j < l.length → gF lf i j = true → listed.getD j false = false := by
     intro j hj h1
     cases e : listed.getD j false with
     | false => rfl
     | true => rw [hcl j i e hj h1] at hun; cases hun
    have tset : ∀ t, t ∈ gn lf.toArray o → lkS l E F (fun k => listed.getD k false) t l.length = lkS l E F (fun _ => true) t i := by
     intro t ht
     rw [yh i l.length (by omega) fun j oj h1 h2 hj hjd => ?_]
     ·refine j5 i fun j oj hj hoj hjd => ?_
      obtain ⟨fj, hfj⟩ : ∃ fj, fps[j]? = some fj := ⟨fps[j], qbr (by omega)⟩
      rcases g4 j oj fj hj hoj hfj with h1 | h1
      ·exact done j h1
      ·exact (meet_no h1.1 (by simp [hjd]) ht).elim
     ·by_cases e : j = i
      ·subst e; exact hun
      ·obtain ⟨fj, hfj⟩ : ∃ fj, fps[j]? = some fj := ⟨fps[j], qbr (by omega)⟩
       rcases (hone j oj fj hj hfj).2.2.2.2 i o fi (by omega) ho' hfi with h3 | h3
       ·exact undone j h2 h3
       ·exact (meet_no h3.2.1 ht (by simp [hjd])).elim
    have mset : ∀ x, x ∈ fi.1 → yn E M (fun k => listed.getD k false) x l.length = yn E M (fun _ => true) x i := by
     intro x hx
     have wmem : ∀ (j : Nat) rj fj, E[j]? = some rj → fps[j]? = some fj → j < l.length → (vv rj.wr x).isSome = true → x ∈ fj.2 := by
      intro j rj fj hrj hfj hj hw
      obtain ⟨oj, _, hoj, _⟩ := at_ j hj
      obtain ⟨_, _, r', hr', _, _, _, hw', _⟩ := e3 j oj fj hoj hfj
      rw [hrj] at hr'
      obtain rfl := qbw hr'
      rw [← hw']
      refine Classical.byContradiction fun hno => ?_
      rw [jL _ _ hno] at hw
      cases hw
     rw [jM i l.length (by omega) fun j rj h1 h2 hrj hw => ?_]
     ·refine jF i fun j rj hj hrj hw => ?_
      obtain ⟨oj, fj, hoj, hfj⟩ := at_ j (by omega)
      rcases g4 j oj fj hj hoj hfj with h1 | h1
      ·exact done j h1
      ·exact (meet_no h1.2.2.1 (wmem j rj fj hrj hfj (by omega) hw) hx).elim
     ·by_cases e : j = i
      ·subst e; exact hun
      ·obtain ⟨oj, fj, hoj, hfj⟩ := at_ j (by omega)
       rcases (hone j oj fj hoj hfj).2.2.2.2 i o fi (by omega) ho' hfi with h3 | h3
       ·exact undone j h2 h3
       ·exact (meet_no h3.2.2.2 hx (wmem j rj fj hrj hfj h2 hw)).elim
    have hslot : ∀ t d, t ∈ o.looksAt lf.toArray → lk (Fup l E F i) t = some d → Rep s d (ju b t) := by
     intro t d' ht hd'
     refine hF t d' ?_
     rw [tset t (List.mem_append_left _ ht), ← w8]
     exact hd'
    have next : ∀ (s' : St) (v : Value), Tr s s' → s'.M = upd s.M r.wr → Rep s' r.d v → wpAnyIn (wd (n.ρ s0)) 0 P .any lf.toArray (PostK s0 n K) f (listed.setIfInBounds i true) (b.put o.dst v) s'.w := by
     intro s' v ht' hM' hrep
     have hset : ∀ k, (listed.setIfInBounds i true).getD k false = if i = k then true else listed.getD k false := fun k => uE _ _ _ (by rw [hs]; exact hilf)
     refine ih _ _ s' h0 (by simp [hs]) (fun k hk => by rw [hset, if_neg (by omega)]; exact hbig k hk) ?_ (ht.trans ht') ?_ (by rw [hM', wD, hMl]) ?_ (by rw [ga]; exact hn) (by rw [yy]; exact hd.mono ht.ok ht') ?_
     ·have := xS (by rw [hs]; exact hilf) hun lf.length
      rw [if_pos hilf] at this
      omega
     ·intro t d' hd'
      by_cases htd : o.dst = some t
      ·have e : lkS l E F (fun k => (listed.setIfInBounds i true).getD k false) t l.length = some r.d := by
        rw [yh (i + 1) l.length (by omega) fun j oj h1 h2 hj hjd => ?_]
        ·unfold lkS
         rw [ho', hr]
         simp only
         rw [if_pos ⟨by rw [hset, if_pos rfl], htd⟩]
        ·rw [hset, if_neg (by omega)]
         obtain ⟨fj, hfj⟩ : ∃ fj, fps[j]? = some fj := ⟨fps[j], qbr (by omega)⟩
         rcases (hone j oj fj hj hfj).2.2.2.2 i o fi (by omega) ho' hfi with h3 | h3
         ·exact undone j h2 h3
         ·exact (meet_no (t := t) h3.2.1 (List.mem_append_right _ (by simp [htd])) (by simp [hjd])).elim
       rw [e] at hd'
       obtain rfl := qbw hd'
       have hsz : t < b.tmps.size := by
        rw [htd] at g2
        rw [hn]
        exact Nat.blt_eq.mp g2
       rw [htd, yM, if_pos ⟨rfl, hsz⟩]
       exact hrep
      ·have e : ju (b.put o.dst v) t = ju b t := by
        cases hod : o.dst with
        | none => rfl
        | some x => rw [yM, if_neg (fun q => htd (by rw [hod, q.1]))]
       rw [e]
       refine (hF t d' ?_).mono ht.ok ht'
       rw [← hd']
       refine j5 _ fun j oj hj hoj hjd => ?_
       rw [hset]
       by_cases ej : i = j
       ·subst ej
        rw [ho'] at hoj
        obtain rfl := qbw hoj
        exact absurd hjd htd
       ·rw [if_neg ej]
     ·intro x hx
      rw [hM', wF _ _ _ (by omega), hM x hx]
      cases hw : vv r.wr x with
      | none =>
       rw [Option.none_or]
       refine jF _ fun j rj hj hrj hwj => ?_
       rw [hset]
       by_cases ej : i = j
       ·subst ej
        rw [hr] at hrj
        obtain rfl := qbw hrj
        rw [hw] at hwj; cases hwj
       ·rw [if_neg ej]
      | some k =>
       rw [Option.some_or]
       have hxw : x ∈ fi.2 := by
        rw [← hwi]
        refine Classical.byContradiction fun hno => ?_
        rw [jL _ _ hno] at hw
        cases hw
       rw [jM (i + 1) l.length (by omega) fun j rj h1 h2 hrj hwj => ?_]
       ·unfold yn
        rw [hr]
        simp only
        rw [if_pos (by rw [hset, if_pos rfl]), hw, Option.some_or]
       ·rw [hset, if_neg (by omega)]
        obtain ⟨oj, fj, hoj, hfj⟩ := at_ j (by omega)
        rcases (hone j oj fj hoj hfj).2.2.2.2 i o fi (by omega) ho' hfi with h3 | h3
        ·exact undone j h2 h3
        ·refine (meet_no h3.2.2.2 (g3 x hxw) ?_).elim
         obtain ⟨_, _, r', hr', _, _, _, hw', _⟩ := e3 j oj fj hoj hfj
         rw [hrj] at hr'
         obtain rfl := qbw hr'
         rw [← hw']
         refine Classical.byContradiction fun hno => ?_
         rw [jL _ _ hno] at hwj
         cases hwj
     ·intro j k hj hjl hk
      rw [hset] at hj ⊢
      by_cases e : i = k
      ·rw [if_pos e]
      ·rw [if_neg e]
       by_cases ej : i = j
       ·subst ej; exact done k hk
       ·rw [if_neg ej] at hj
        exact hcl j k hj hjl hk
    unfold wpOpIn
    rw [ho]
    simp only
    rw [wE hg hslot]
    cases pc with
    | true =>
     rw [if_pos rfl]
     refine vd hnd (hop rfl b s ht.ok (fun x hx d' hd' => ?_) (fun x hx => ?_)) fun s' v ht' ⟨q1, q2⟩ => next s' v ht' q1 ?_
     ·cases x with
      | tmp t => exact hslot t d' (List.mem_append_left _ (List.mem_filterMap.2 ⟨.tmp t, by simpa using hx, rfl⟩)) hd'
      | const v => obtain rfl := qbw hd'; exact .val v
      | func g => obtain rfl := qbw hd'; exact Rep.fn (vs := []) (us := []) rfl rfl (fun j d v h => by simp at h) (fun j d v h => by simp at h)
      | global g => obtain rfl := qbw hd'; exact .val _
     ·by_cases hxl : x < M.length
      ·rw [hM x hxl, w9 x hxl, mset x hx]
      ·rw [qb2 (by omega), qb2 (by rw [Mup_len]; omega)]
     ·rw [hrd]
      unfold gdd
      split
      ·exact q2
      ·exact .opt (fun _ => q2) (fun h => by cases h)
    | false =>
     rw [if_neg (by simp)]
     have hgs : o.guard.isSome = true := by
      unfold Gd at hg
      cases e : o.guard with
      | none => rw [e] at hg; cases hg
      | some x => rfl
     refine ⟨fun _ _ => trivial, next s undef (Tr.refl ht.ok) (by rw [hgw rfl]; rfl) ?_⟩
     rw [hrd]
     unfold gdd
     split
     ·rename_i e; rw [e] at hgs; cases hgs
     ·exact .opt (fun h => by cases h) (fun _ => rfl)
 obtain ⟨h0, s, h1, h2, h3, h4, h5, h6⟩ := hi
 subst h1 h2
 have hst := wB h3.ok { s.w with drawn := s.w.drawn + 1 } rfl rfl rfl rfl
 have hno : ∀ k, (qb8 lf.toArray.size false).getD k false = false := fun k => by
  simp only [Array.getD_eq_getD_getElem?, Array.getElem?_replicate]
  split <;> rfl
 have := main lf.length (qb8 lf.toArray.size false) a ⟨s.β, s.I, s.M, { s.w with drawn := s.w.drawn + 1 }⟩ h0 (by simp) (fun k _ => hno k) (by
   have := wG lf.toArray.size lf.length (by simp)
   exact this) (h3.trans hst) (fun t d hd => ?_) rfl (fun i hi => ?_) h5 (h6.mono h3.ok hst) (fun j i hj => by rw [hno] at hj; cases hj)
 ·simpa using this
 ·rw [yh 0 l.length (by omega) fun j o _ _ _ _ => hno j] at hd
  exact (h4 t d hd).mono h3.ok hst
 ·rw [jM 0 l.length (by omega) fun j r _ _ _ _ => hno j]
  rfl
end Go.Proofs.YtofklkbfkoliiaaGreat
namespace Go.Proofs.YtofklkbfkoliiaaGreat
set_option linter.unusedVariables false
set_option linter.unusedSimpArgs false
open Go.RowKit
section
variable {P : Program} {pc : Bool} {o : Oper} {F : Fr} {M : List Blk}
theorem xZ {T T' : TypeId} {x : Operand} {i p k : Nat} {l : List D} {R : List Value} (ho : o.op = .load T x) (hT : tyB P T = some (true, k)) (hx : Ev pc F x (.loc i p)) (hM : M[i]? = some (.mix T' l)) (hR : (l.drop p).take k = R.map .val) (hl : R.length = k) : DOp P pc o F M [i] (.val (.agg R.toArray)) [] := by
 intro hp a s hok hops hfp
 have hr := qu hp hx (by simp [ho, Op.operands]) hops
 generalize hv : a.eval x = vx at hr
 cases hr with
 | @loc _ _ b h =>
  obtain ⟨b', vs, e1, e2, e3, e4⟩ := hok.blk i _ _ (by rw [hfp i (by simp)]; exact hM) h
  cases e1
  have hvs : (vs.drop p).take k = R := by
   have hlen : ((vs.drop p).take k).length = R.length := by
    have h1 := congrArg List.length hR
    rw [qbS, qbZ, qcf] at h1
    rw [qbS, qbZ, e3, h1]
   refine List.ext_getElem hlen fun j h1 h2 => ?_
   have h3 : ((l.drop p).take k)[j]? = some (.val R[j]) := by rw [hR, qca, qbr h2]; rfl
   have hjk : j < k := by omega
   rw [List.getElem?_take, if_pos hjk, qcd] at h3
   have h5 : vs[p + j]? = some ((vs.drop p).take k)[j] := by
    have := qbr h1
    rw [List.getElem?_take, if_pos hjk, qcd] at this
    exact this
   exact (e4 _ _ _ h3 h5).val_eq
  have hc : kc s.w b 0 vs := qi e2 0
  have hr := jG hc p k hvs
  rw [qbs] at hr
  exact qU hok (jW ho hT hv hr hl) (.val _)
end
theorem gu {σ : List Nat} {V : Nat → Bool} {M : List Blk} {d d' : D} {l l' : List D} (h1 : vw σ V M d = some d') (h2 : vwL σ V M l = some l') : vwL σ V M (d :: l) = some (d' :: l') := by rw [vwL, h1, h2]
theorem ZB {σ : List Nat} {V : Nat → Bool} {M : List Blk} {i : Nat} {T : TypeId} {sz n : Nat} {l : List D} (hp : pos σ i = none) (hV : V i = true) (hM : M[i]? = some (.arx T sz n l)) (h : D.nlL l = true) : vw σ V M (.arr i) = some (.slm sz n l) := by
 rw [vw, hp]
 show uy σ V M i = _
 unfold uy
 rw [hV, hM]
 show (yk σ V M _).map _ = _
 rw [QQ σ V M l h]; rfl
end Go.Proofs.YtofklkbfkoliiaaGreat
namespace Go.Proofs.YtofklkbfkoliiaaGreat
set_option linter.unusedVariables false
set_option linter.unusedSimpArgs false
open Go.RowKit
def Mem.blk : Mem → Blk
 | .gone => .gone
 | .flat T L => .flat T L
 | .arr T sz n L => .arr T sz n L
 | .que T sz n L => .que T sz n L
theorem ZC {s : St} {h : Value} {B : Mem} (hk : BlkOk s h B.blk) : MemOk s.w h B := by cases B <;> exact hk
theorem uP (B : Mem) : B.blk.live = B.live := by cases B <;> rfl
theorem blk_owns {B : Mem} {h : Value} {b : Nat} : jo B.blk h b ↔ hb h = some b := by cases B <;> exact Iff.rfl
theorem YZ {s : St} (ho : Ok s) {i j : Nat} {Bs : List Mem} {B : Mem} {hs : List Value} {h : Value} (hi : s.M[i]? = some (.fam Bs)) (hj : s.M[j]? = some B.blk) (hl : B.live = true) (hβi : s.β[i]? = some (.tuple hs.toArray)) (hβj : s.β[j]? = some h) :
  Tr s ⟨s.β.set i (.tuple (hs ++ [h]).toArray), s.I, (s.M.set j .gone).set i (.fam (Bs ++ [B])), s.w⟩ := by
 have hne : i ≠ j := fun e => by subst e; rw [hi] at hj; cases B <;> cases hj
 have hil := (qbq.1 hi).1
 have hjl := (qbq.1 hj).1
 have hf := w5 (k := 0) ho hi hβi
 have hlen := hf.len
 have hm : MemOk s.w h B := ZC (ho.blk j _ h hj hβj)
 have other : ∀ b, jo (.fam (Bs ++ [B])) (.tuple (hs ++ [h]).toArray) b → jo (.fam Bs) (.tuple hs.toArray) b ∨ hb h = some b := by
  rintro b ⟨hs', k, B', u, e1, e2, e3, e4, e5⟩
  have e1 : hs ++ [h] = hs' := by simpa using e1
  subst e1
  by_cases hk : k < Bs.length
  ·rw [qbI hk] at e2
   rw [qbI (by omega)] at e4
   exact .inl ⟨hs, k, B', u, rfl, e2, e3, e4, e5⟩
  ·rw [qbO (by omega)] at e2 e4
   have hk0 : k - hs.length = 0 := by have := (qbq.1 e4).1; simp at this; omega
   rw [hk0] at e4
   simp at e4
   subst e4
   exact .inr e5
 have lvi : ∀ b, jo (.fam Bs) (.tuple hs.toArray) b → Live s b := fun b hb => qq hi rfl hβi hb
 have lvj : ∀ b, hb h = some b → Live s b := fun b hb => qq hj (by rw [uP]; exact hl) hβj (blk_owns.2 hb)
 have ne : ∀ (k : Nat) kb, (s.M.set j .gone)[k]? = some kb → kb.live = true → j ≠ k ∧ s.M[k]? = some kb := fun k kb hkb hlv => by
  by_cases hk : j = k
  ·subst hk
   rw [qbG hjl] at hkb
   cases hkb; cases hlv
  ·rw [qbC hk] at hkb; exact ⟨hk, hkb⟩
 refine kV ho i (s.M.set j .gone) _ _ s.w (by simp) (fun k kb hkb => ?_) hil (.inr (.inr ⟨hs, hs ++ [h], hβi, rfl, fun k u hu => ?_⟩)) (by simp) ⟨_, rfl, ?_⟩ (fun b hb k kb hh hne' q1 q2 q3 q4 => ?_) (fun b hb => .inr ((other b hb).elim (lvi b) (lvj b))) (fun b hb => (ho.lt b ((other b hb).elim (lvi b) (lvj b))).1) (fun _ => False) (fun _ h => h.elim) (fun _ _ _ _ => rfl) rfl rfl rfl (qbM _)
 ·by_cases hk : j = k
  ·subst hk
   rw [qbG hjl] at hkb
   exact .inr (qbw hkb).symm
  ·rw [qbC hk] at hkb; exact .inl hkb
 ·rw [qbI (qbq.1 hu).1]; exact hu
 ·have split : ∀ (k : Nat) B' u, (Bs ++ [B])[k]? = some B' → (hs ++ [h])[k]? = some u → (Bs[k]? = some B' ∧ hs[k]? = some u) ∨ (k = Bs.length ∧ B' = B ∧ u = h) := by
   intro k B' u e2 e4
   by_cases hk : k < Bs.length
   ·rw [qbI hk] at e2
    rw [qbI (by omega)] at e4
    exact .inl ⟨e2, e4⟩
   ·rw [qbO (by omega)] at e2 e4
    have hk0 : k - Bs.length = 0 := by have := (qbq.1 e2).1; simp at this; omega
    rw [show k - hs.length = 0 by omega] at e4
    rw [hk0] at e2
    simp at e2 e4
    exact .inr ⟨by omega, e2.symm, e4.symm⟩
  refine ⟨by simp [hlen], fun k B' u e2 e4 => ?_, fun k k' B1 B2 u1 u2 b e1 l1 e2 e3 f1 l2 f2 f3 => ?_⟩
  ·rcases split k B' u e2 e4 with ⟨a, c⟩ | ⟨_, rfl, rfl⟩
   ·exact hf.ok k B' u a c
   ·exact hm
  ·rcases split k B1 u1 e1 e2 with ⟨a, c⟩ | ⟨rfl, rfl, rfl⟩ <;> rcases split k' B2 u2 f1 f2 with ⟨a', c'⟩ | ⟨rfl, rfl, rfl⟩
   ·exact hf.inj k k' B1 B2 u1 u2 b a l1 c e3 a' l2 c' f3
   ·exact absurd (ho.inj i j _ _ _ _ b hi rfl hβi ⟨hs, k, B1, u1, rfl, a, l1, c, e3⟩ hj (by rw [uP]; exact hl) hβj (blk_owns.2 f3)) hne
   ·exact absurd (ho.inj i j _ _ _ _ b hi rfl hβi ⟨hs, k', B2, u2, rfl, a', l2, c', f3⟩ hj (by rw [uP]; exact hl) hβj (blk_owns.2 e3)) hne
   ·rfl
 ·obtain ⟨hjk, q1⟩ := ne k kb q1 q2
  rcases other b hb with h1 | h1
  ·exact hne' (ho.inj i k _ kb _ hh b hi rfl hβi h1 q1 q2 q3 q4).symm
  ·exact hjk (ho.inj j k _ kb _ hh b hj (by rw [uP]; exact hl) hβj (blk_owns.2 h1) q1 q2 q3 q4)
theorem qae {s : St} (ho : Ok s) {j : Nat} (hj : s.M[j]? = some .hole) : Tr s ⟨s.β.set j (.tuple #[]), s.I, s.M.set j (.fam []), s.w⟩ := by
 have hjl : j < s.M.length := (qbq.1 hj).1
 have hβ : s.β[j]? = some .nilFunc := by
  have hjb : j < s.β.length := by rw [ho.len]; exact hjl
  have e : s.β[j]? = some s.β[j] := qbr hjb
  have : s.β[j] = .nilFunc := ho.blk j .hole _ hj e
  rw [e, this]
 have no : ∀ b, ¬ jo (.fam []) (.tuple #[]) b := by
  rintro b ⟨hs, k, B, u, e1, e2, _⟩
  simp at e2
 exact kV ho j s.M (.tuple #[]) (.fam []) s.w rfl (fun i k h => .inl h) hjl (.inl hβ) (by simp) ⟨[], rfl, rfl, fun k B u h => by simp at h, fun k k' B B' u u' b h => by simp at h⟩ (fun b hb => (no b hb).elim) (fun b hb => (no b hb).elim) (fun b hb => (no b hb).elim) (fun _ => False) (fun _ h => h.elim) (fun _ _ _ _ => rfl) rfl rfl rfl (qbM _)
section
variable {P : Program} {s0 : St} {n : Cx}
theorem ZD {F : Fr} {M : List Blk} {a : Act} {w : World} {j : Nat} (h : Inv s0 n F M a w) (hj : M[j]? = some .hole) : Inv s0 n F (M.set j (.fam [])) a w := by
 obtain ⟨h0, s, rfl, rfl, h3, h4, h5, h6⟩ := h
 have tt := qae h3.ok hj
 exact ⟨h0, ⟨s.β.set j (.tuple #[]), s.I, s.M.set j (.fam []), s.w⟩, rfl, rfl, h3.trans tt, fun x d hd => (h4 x d hd).mono h3.ok tt, h5, h6.mono h3.ok tt⟩
theorem JK {c : Code} {F : Fr} {M M' : List Blk} {K : Cont} (j : Nat) (hj : M[j]? = some .hole) (hM' : M.set j (.fam []) = M') (h : dwp P s0 n c F M' K) : dwp P s0 n c F M K := by
 subst hM'
 exact fun a w hi => h a w (ZD hi hj)
end
theorem KR (m : Nat) : okσ m (qb5 m) = true := by
 simp only [okσ, qbu, decide_eq_true_eq, qbX, List.mem_range, beq_iff_eq]
 exact ⟨fun x h => List.getElem?_range h, List.nodup_range⟩
theorem QS {m : Nat} : ∀ (l : List D) (j : Nat) d, D.ltL m l = true → l[j]? = some d → d.lt m = true
 | [], j, d, _, h => by simp at h
 | x :: l, j, d, h, hj => by
  simp only [D.ltL, qbu] at h
  cases j with
  | zero => simp at hj; subst hj; exact h.1
  | succ j => simp at hj; exact QS l j d h.2 hj
theorem DFun.abs {P : Program} {f : FuncId} {args : List D} {Min Mout : List Blk} {B : Mem} {Bs : List Mem} (m : Nat) {wr : List (Nat × Blk)} {d : D} {g : Nat → Nat → D} (h : DFun P f args Min d (Mout ++ [B.blk])) (hm : Min.length = m) (hargs : D.ltL m args = true) (hl : B.live = true)
  (hlive : Min.all (·.live) = true) (hn : decide (qb5 m ++ [m + 1]).Nodup = true)
  (hMin : gl (qb5 m) nov (Min ++ [.fam Bs, .hole]) (qb5 m) = some Min)
  (hwr : yt (qb5 m ++ [m + 1]) (qb5 m ++ [m + 1]) (Mout ++ [B.blk]) = some wr) (hupd : upd (Min ++ [.fam Bs, .hole]) wr = Mout ++ [.fam Bs, B.blk])
  {d' : D} (hsb : sb (qb5 m ++ [m + 1]) d = some d') (hd' : ∀ (s : St) v, Rep s d' v → s.M[m + 1]? = some .gone ∨ True → ∀ (hs : List Value), s.β[m]? = some (.tuple hs.toArray) → (∀ u, s.β[m + 1]? = some u → hs[Bs.length]? = some u) → Rep s (g m Bs.length) v)
  (hset : ((Mout ++ [.fam Bs, B.blk]).set (m + 1) .gone).set m (.fam (Bs ++ [B])) = Mout ++ [.fam (Bs ++ [B]), .gone])
  (hout : gl (qb5 (m + 1)) nov (Mout ++ [.fam (Bs ++ [B]), .gone]) (qb5 (m + 1)) = some (Mout ++ [.fam (Bs ++ [B])])) (hok : okσ (m + 1) (qb5 (m + 1)) = true) (hg : vw (qb5 (m + 1)) nov (Mout ++ [.fam (Bs ++ [B]), .gone]) (g m Bs.length) = some (g m Bs.length))
  (hMl : Mout.length = m) : DFun P f args (Min ++ [.fam Bs]) (g m Bs.length) (Mout ++ [.fam (Bs ++ [B])]) := by
 refine ⟨h.1, fun s vs ho hM hr => ?_⟩
 have t1 := gZ ho
 obtain ⟨s1, hs1⟩ : ∃ s1 : St, s1 = ⟨s.β ++ [.nilFunc], s.I, s.M ++ [.hole], s.w⟩ := ⟨_, rfl⟩
 rw [← hs1] at t1
 have hM1 : s1.M = Min ++ [.fam Bs, .hole] := by rw [hs1, hM]; simp
 have hw1 : s1.w = s.w := by rw [hs1]
 have hn' : (qb5 m ++ [m + 1]).Nodup := of_decide_eq_true hn
 have hnσ := (List.nodup_append.1 hn').1
 have hMin1 : gl (qb5 m) nov s1.M (qb5 m) = some Min := by rw [hM1]; exact hMin
 have hokm : okσ m (qb5 m) = true := KR m
 have hargs1 : Reps (vst s1 (qb5 m) nov Min) args vs := ⟨hr.1, fun j d v h1 h2 => j8 t1.ok ((hr.2 j d v h1 h2).mono ho t1) d (Gl hokm d (QS args j d hargs h1))⟩
 have hc := h.2 (vst s1 (qb5 m) nov Min) vs (vp t1.ok hMin1 hnσ) rfl hargs1
 have hcw : (vst s1 (qb5 m) nov Min).w = s.w := hw1
 rw [hcw] at hc
 refine Calls.mono hc ?_
 rintro e w' ⟨s2, rfl, ht, hres⟩
 obtain ⟨v, rfl, hrep, hM2⟩ : ∃ v, e = .returned v ∧ Rep s2 d v ∧ s2.M = Mout ++ [B.blk] := by
  rcases hres with ⟨dd, v, h1, h2, h3, h4⟩ | ⟨_, _, _, _, hno⟩
  ·exact ⟨v, h1, h3 ▸ h2, h4⟩
  ·exact hno.elim
 have hν : ∀ i ∈ [m + 1], s1.M[i]? = some .hole := fun i hi => by
  simp at hi; subst hi; rw [hM1, qbO (by omega), hm, show m + 1 - m = 1 by omega]; rfl
 obtain ⟨q1, q2⟩ := gD (ν := [m + 1]) (M3 := upd s1.M wr) t1.ok hMin1 hlive hn' hν ht hM2 hwr rfl (fun ⟨_, h⟩ => by cases h)
 obtain ⟨s3, hs3⟩ : ∃ s3 : St, s3 = back s1 s2 (qb5 m) nov [m + 1] (upd s1.M wr) := ⟨_, rfl⟩
 have q3 := q2 _ v _ hrep (fun ⟨_, h⟩ => by cases h) hsb
 rw [← hs3] at q1 q3
 have hM3 : s3.M = Mout ++ [.fam Bs, B.blk] := by rw [hs3]; show upd s1.M wr = _; rw [hM1, hupd]
 have hfam : s3.M[m]? = some (.fam Bs) := by rw [hM3, qbO (by omega), hMl, Nat.sub_self]; rfl
 have harr : s3.M[m + 1]? = some B.blk := by rw [hM3, qbO (by omega), hMl, show m + 1 - m = 1 by omega]; rfl
 have hlβ := q1.ok.len
 have hm1 : m + 1 < s3.M.length := (qbq.1 harr).1
 obtain ⟨x, hx⟩ : ∃ x, s3.β[m]? = some x := ⟨_, qbr (by rw [hlβ]; omega)⟩
 obtain ⟨y, hy⟩ : ∃ y, s3.β[m + 1]? = some y := ⟨_, qbr (by rw [hlβ]; exact hm1)⟩
 obtain ⟨hs, rfl, hfo⟩ := q1.ok.blk m _ x hfam hx
 have t4 := YZ q1.ok hfam harr hl hx hy
 obtain ⟨s4, hs4⟩ : ∃ s4 : St, s4 = ⟨s3.β.set m (.tuple (hs ++ [y]).toArray), s3.I, (s3.M.set (m + 1) .gone).set m (.fam (Bs ++ [B])), s3.w⟩ := ⟨_, rfl⟩
 rw [← hs4] at t4
 have hM4 : s4.M = Mout ++ [.fam (Bs ++ [B]), .gone] := by rw [hs4]; show (s3.M.set _ _).set _ _ = _; rw [hM3, hset]
 have r4 := q3.mono q1.ok t4
 have r5 : Rep s4 (g m Bs.length) v := by
  refine hd' s4 v r4 (.inr trivial) (hs ++ [y]) (by rw [hs4]; simp only; rw [qbG (by rw [hlβ]; omega)]) fun u hu => ?_
  rw [hs4] at hu
  simp only at hu
  rw [qbC (by omega), hy] at hu
  cases hu
  rw [qbO (by rw [hfo.len]; exact qbM _), hfo.len, Nat.sub_self]
  rfl
 have hout4 : gl (qb5 (m + 1)) nov s4.M (qb5 (m + 1)) = some (Mout ++ [.fam (Bs ++ [B])]) := by rw [hM4]; exact hout
 have tall := (t1.trans q1).trans t4
 refine ⟨vst s4 (qb5 (m + 1)) nov _, ?_, vq ho tall hout4 (by rw [hM]; simp [hm]) hok, .inl ⟨_, v, rfl, j8 t4.ok r5 _ (by rw [hM4]; exact hg), rfl, rfl⟩⟩
 show s4.w = s2.w
 rw [hs4, hs3]; rfl
theorem DFun.absR {P : Program} {f : FuncId} {args : List D} {Min Mout : List Blk} {T : TypeId} {sz q : Nat} {L : List Value} (Bs : List Mem) (m : Nat) {wr : List (Nat × Blk)} (h : DFun P f args Min (.arr m) (Mout ++ [.arr T sz q L])) (hm : Min.length = m) (hargs : D.ltL m args = true)
  (hlive : Min.all (·.live) = true)
  (hMin : gl (qb5 m) nov (Min ++ [.fam Bs, .hole]) (qb5 m) = some Min)
  (hwr : yt (qb5 m ++ [m + 1]) (qb5 m ++ [m + 1]) (Mout ++ [.arr T sz q L]) = some wr) (hupd : upd (Min ++ [.fam Bs, .hole]) wr = Mout ++ [.fam Bs, .arr T sz q L])
  (hset : ((Mout ++ [Blk.fam Bs, Blk.arr T sz q L]).set (m + 1) .gone).set m (.fam (Bs ++ [Mem.arr T sz q L])) = Mout ++ [.fam (Bs ++ [.arr T sz q L]), .gone])
  (hout : gl (qb5 (m + 1)) nov (Mout ++ [.fam (Bs ++ [.arr T sz q L]), .gone]) (qb5 (m + 1)) = some (Mout ++ [.fam (Bs ++ [.arr T sz q L])]))
  (hMl : Mout.length = m) : DFun P f args (Min ++ [.fam Bs]) (.farr m Bs.length) (Mout ++ [.fam (Bs ++ [.arr T sz q L])]) := by
 refine DFun.abs (B := Mem.arr T sz q L) (d' := .arr (m + 1)) (g := fun i k => .farr i k) m h hm hargs rfl hlive ?_ hMin hwr hupd ?_ (fun s v hr _ hs h1 h2 => ?_) hset hout ?_ ?_ hMl
 ·simp [List.nodup_append, List.nodup_range]; omega
 ·simp [sb]
 ·cases hr with
  | arr h => exact .farr h1 (h2 _ h)
 ·exact KR _
 ·have hp : pos (qb5 (m + 1)) m = some m := YJ _ m m List.nodup_range (by simp)
  unfold vw; rw [hp]
end Go.Proofs.YtofklkbfkoliiaaGreat
