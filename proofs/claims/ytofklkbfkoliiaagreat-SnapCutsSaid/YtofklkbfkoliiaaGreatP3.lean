/- Rows made by make, and copied into; parts of arrays with their room cut; A function that is deferred, and recovers, whose one region draws its order: each of the orders by itself; A region that draws its order, where several operations look at what one of them turns, ahead of it or behind it, and read the same. Conditions: the kernel's look at its edges; Functions without a body that touch one cell (package sync/atomic), or mark; a function that is deferred with its arguments; deferred functions that do not recover. Conditions: what such a call's run is; Rows of one's own that hold data: made, measured, looked into; parts of rows of one's own, measured, looked into; Single operations of programs: rows that are turned to their own type, rows made whole and left so, arrays of listed parts, nil rows; Rows of one's own that hold data: begun as nil, appended to, given up; Blocks read anew; st. No condition. -/
import Derived.Test.YtofklkbfkoliiaaGreatP2
import Derived.Laws.IdiomCopy
import Derived.Laws.LoneSync
import Derived.Test.YtofklkbfkoliiaaGreatRows
open List renaming getElem?_eq_some_iff → qas, getElem?_eq_getElem → qat, length_append → qaD, cons_append → qaE, getElem?_set_ne → qaG, nil_append → qaH, getElem?_set_self → qaI, replicate → qaJ, flatMap_cons → qaL, getElem?_append_left → qaN, getElem?_append_right → qaP, length_take → qaT, length_cons → qaU, all_eq_true → qaV, eq_nil_of_length_eq_zero → qaW, range → qaY, length_drop → qaZ, append_assoc → qa1, getElem?_eq_none → qa4, mem_cons_self → qa6, mem_cons_of_mem → qa9, getElem?_drop → qba, getElem?_map → qbb, mem_of_getElem? → qbc, getElem_mem → qbf, getElem?_take → qbh, ext_getElem? → qbi
open Nat renaming zero_add → qau, le_of_ble_eq_true → qaF, le_refl → qaO, zero_le → qa5, mul_le_mul_right → qa8, succ_mul → qbj, blt → qbl
open Bool renaming and_eq_true → qav, or_eq_false_iff → qax, not_eq_true' → qaz, not_eq_false' → qaA, or_eq_true → qaB
open Option.some renaming inj → qay
open Go.IntWalk renaming i64_in → qaC
open Option renaming map_eq_some_iff → qaK
open Array renaming replicate → qa7
open Int renaming toNat_natCast → qbe
namespace Go.Proofs.YtofklkbfkoliiaaGreat
set_option linter.unusedVariables false
set_option linter.unusedSimpArgs false
open Go.RowKit
section
variable {P : Program} {pc : Bool} {o : Oper} {F : Fr} {M : List Blk} {T e : TypeId} {by' : Nat} {x y : Operand}
theorem HZ (j n : Nat) {k k' : IntKind} {z z' : Int} (z0 : Value) (ho : o.op = .makeSlice T x y) (hT : slE P T = some (e, 1, by')) (hZ : zrC P e = some [z0]) (hx : Ev pc F x (.val (.int k z))) (hy : Ev pc F y (.val (.int k' z'))) (hz : pc = true → z = (n : Int)) (hz' : pc = true → z' = (n : Int)) (hj : M[j]? = some .hole) (hb : pc = true → by' * n ≤ 281474976710656 ∧ n ≤ 9223372036854775807) :
  DOp P pc o F M [j] (.arr j) [(j, .arr e 1 n (qaJ n z0))] := by
 intro hp a s hok hops hfp
 obtain ⟨e1, ti, e2, e3, e4⟩ := kM hT
 obtain ⟨ti', zv, q1, q2, q3⟩ := jE hZ
 rw [e2] at q1
 obtain rfl := qay q1
 have h1 := (qq hp hx (by simp [ho, Op.operands]) hops).val_eq
 have h2 := (qq hp hy (by simp [ho, Op.operands]) hops).val_eq
 rw [hz hp] at h1
 rw [hz' hp] at h2
 obtain ⟨b1, b2⟩ := hb hp
 have hj' : s.M[j]? = some .hole := by rw [hfp j (by simp)]; exact hj
 have hjl : j < s.β.length := by rw [hok.len]; exact (qas.1 hj').1
 have hb3 : (ti.bytes : Int) * (n : Int) ≤ 281474976710656 := by
  have h : ((ti.bytes * n : Nat) : Int) ≤ 281474976710656 := by rw [e4]; omega
  rwa [Int.natCast_mul] at h
 have hrun := run_make (P := P) s.w T e ti zv e1 e2 q2 k k' n n (by omega) (Int.le_refl _) hb3 (by omega)
 simp only [qbe] at hrun
 have hc : zv.cells = #[z0] := by
  have := congrArg List.toArray q3
  simpa using this
 have hrow := World.ownsRow_lit (base := 0) (e := e) (size := ti.size) s.w (madeCells zv.cells (n * ti.size)) n (qa5 _) (by unfold maxLen; omega) (size_madeCells _ _)
 rw [hc, e3, Nat.mul_one, toList_madeCells_one] at hrow
 rw [hc, e3, Nat.mul_one] at hrun
 refine kV (s' := ⟨s.β.set j (.slice (some ⟨s.w.heap.size, 0, none⟩) n n), s.I, s.M.set j (.arr e 1 n (qaJ n z0)), _⟩) (v := .slice (some ⟨s.w.heap.size, 0, none⟩) n n) ?_ (gT hok hj' _ _ _ (by simp) (fun b hb => by cases hb; rfl) (fun b h => Below.heap_alloc _ _ _ h) (fun b hb => by cases hb; simp) (by simp) rfl rfl rfl hrow) rfl (.arr (by simp [hjl]))
 unfold execOp
 simp only [ho, h1, h2]
 exact kO hrun
theorem H0 (j n : Nat) {sz : Nat} {k k' : IntKind} {z z' : Int} {Z : List Value} (ho : o.op = .makeSlice T x y) (hT : slE P T = some (e, sz, by')) (hZ : zrC P e = some Z) (hx : Ev pc F x (.val (.int k z))) (hy : Ev pc F y (.val (.int k' z'))) (hz : pc = true → z = 0) (hz' : pc = true → z' = (n : Int)) (hj : M[j]? = some .hole) (hb : pc = true → by' * n ≤ 281474976710656 ∧ n ≤ 9223372036854775807) :
  DOp P pc o F M [j] (.arr j) [(j, .arr e sz 0 [])] := by
 intro hp a s hok hops hfp
 obtain ⟨e1, ti, e2, e3, e4⟩ := kM hT
 obtain ⟨ti', zv, q1, q2, q3⟩ := jE hZ
 rw [e2] at q1
 obtain rfl := qay q1
 have h1 := (qq hp hx (by simp [ho, Op.operands]) hops).val_eq
 have h2 := (qq hp hy (by simp [ho, Op.operands]) hops).val_eq
 rw [hz hp] at h1
 rw [hz' hp] at h2
 obtain ⟨b1, b2⟩ := hb hp
 have hj' : s.M[j]? = some .hole := by rw [hfp j (by simp)]; exact hj
 have hjl : j < s.β.length := by rw [hok.len]; exact (qas.1 hj').1
 have hb3 : (ti.bytes : Int) * (n : Int) ≤ 281474976710656 := by
  have h : ((ti.bytes * n : Nat) : Int) ≤ 281474976710656 := by rw [e4]; omega
  rwa [Int.natCast_mul] at h
 have hrun := run_make (P := P) s.w T e ti zv e1 e2 q2 k k' 0 n (Int.le_refl _) (by omega) hb3 (by omega)
 simp only [qbe, Int.toNat_zero] at hrun
 have hrow := World.ownsRow_made (base := 0) (e := e) (size := ti.size) s.w (madeCells zv.cells (n * ti.size)) n (qa5 _) (by unfold maxLen; omega) (size_madeCells _ _)
 rw [e3] at hrow hrun
 refine kV (s' := ⟨s.β.set j (.slice (some ⟨s.w.heap.size, 0, none⟩) 0 n), s.I, s.M.set j (.arr e sz 0 []), _⟩) (v := .slice (some ⟨s.w.heap.size, 0, none⟩) 0 n) ?_ (gT hok hj' _ _ _ (by simp) (fun b hb => by cases hb; rfl) (fun b h => Below.heap_alloc _ _ _ h) (fun b hb => by cases hb; simp) (by simp) rfl rfl rfl hrow) rfl (.arr (by simp [hjl]))
 unfold execOp
 simp only [ho, h1, h2]
 exact kO hrun
theorem H1 {s : St} (hok : Ok s) {i p sz n n' c b : Nat} {T' : TypeId} {L C : List Value} (hM' : s.M[i]? = some (.arr T' sz n L)) (h : s.β[i]? = some (.slice (some ⟨b, 0, none⟩) n' c)) (hfit : p + C.length ≤ L.length) :
  Tr s ⟨s.β, s.I, s.M.set i (.arr T' sz n (jC L p C)), s.w.setCells b p C⟩ ∧ (∀ j, j < C.length → (s.w.cell? ⟨b, p + j, none⟩).isSome = true) ∧ (∀ j, j < C.length → s.w.frozen? ⟨b, p + j, none⟩ = false) := by
 have hk' : s.w.ownsRow 0 T' sz _ n L := hok.blk i _ _ hM' h
 rcases hk'.2 with ⟨e1, e2⟩ | ⟨g, cap, cur, e1, e2, e3, e4, e5, e6, e7⟩
 ·cases e1
 ·cases e1
  have hle := qa8 sz e4
  have hlL := hk'.1
  have hcell := qd e3 0
  have hcurlen : cur.toList.length = c * sz := by simpa using e6
  have hβ : s.β.set i (.slice (some ⟨b, 0, none⟩) n c) = s.β := by
   apply qbi
   intro k
   by_cases e : i = k
   ·subst e; rw [qaI (qas.1 h).1, h]
   ·rw [qaG e]
  refine ⟨?_, fun j hj => ?_, fun j hj => by simp [World.frozen?, e3]⟩
  ·have ht := yb (k' := .arr T' sz n (jC L p C)) hok hM' rfl h rfl p C ?_
   ·rwa [hβ] at ht
   ·have hsl := jD C cur.toList p
    refine ⟨by rw [jD]; exact hlL, .inr ⟨b, c, (jC cur.toList p C).toArray, rfl, e2, kI b C p s.w cur.toList T' (by simpa using e3), e4, e5, by simp [hsl]; simpa using e6, ?_⟩⟩
    rw [jx C cur.toList p (by omega), jx C L p hfit]
    have hcut : cur.toList = L ++ cur.toList.drop L.length := by
     have := List.take_append_drop (n * sz) cur.toList
     rw [e7, ← hlL] at this
     exact this.symm
    generalize cur.toList.drop L.length = R at hcut
    rw [hcut]
    have t1 : (L ++ R).take p = L.take p := List.take_append_of_le_length (by omega)
    have t2 : (L ++ R).drop (p + C.length) = L.drop (p + C.length) ++ R := List.drop_append_of_le_length (by omega)
    rw [t1, t2, ← hlL, ← qa1]
    refine List.take_left' ?_
    simp; omega
  ·have := hcell (p + j) _ (by simpa using qat (by simp; omega : p + j < cur.toList.length))
   rw [qau] at this
   rw [this]; rfl
theorem J7 (L : List Value) (p : Nat) : jC L p [] = L := by cases L <;> rfl
theorem H2 {a : Act} {s : St} {T2 : TypeId} {i p n m N : Nat} {d : D} {L L2 : List Value} {fp : List Nat} (hok : Ok s) (hfp : ∀ k ∈ i :: fp, s.M[k]? = M[k]?) (hrx : Rep s (.own i 1 p n) (a.eval x)) (hry : Rep s d (a.eval y)) (ho : o.op = .call { callee := .builtin .copy, args := #[x, y], argTypes := #[T, T2] }) (hT : slE P T = some (e, 1, by')) (hsrc : SrcD M fp d m 1 L2) (hM : M[i]? = some (.arr e 1 N L)) (h1 : L2.all (·.oneCell') = true) :
  DGives P s (fun s' v => s'.M = upd s.M [(i, .arr e 1 N (jC L p (L2.take (min m n))))] ∧ Rep s' (.val (.int .i64 ((min m n : Nat) : Int))) v) ((execOp a.eval o).run P s.w) := by
 obtain ⟨e1, ti, e2, e3, e4⟩ := kM hT
 have hM' : s.M[i]? = some (.arr e 1 N L) := by rw [hfp i (by simp)]; exact hM
 obtain ⟨hl2, a2, c2, hv2, hso⟩ := hsrc s _ hok (fun k hk => hfp k (by simp [hk])) hry
 rw [Nat.mul_one] at hl2
 have hs1 : (P.info? e).map (·.size) = some 1 := by rw [e2]; simp [e3]
 have hil : i < s.M.length := (qas.1 hM').1
 generalize hv : a.eval x = vx at hrx
 have none_ : ∀ (ad : Option Addr) c, vx = .slice ad n c → min m n = 0 → DGives P s (fun s' v => s'.M = upd s.M [(i, .arr e 1 N (jC L p (L2.take (min m n))))] ∧ Rep s' (.val (.int .i64 ((min m n : Nat) : Int))) v) ((execOp a.eval o).run P s.w) := by
  intro ad c hvx h0
  subst hvx
  have hr := run_copy_none (P := P) s.w T T2 o.type e ad a2 n c m c2 e1 hs1 h0
  rw [h0, List.take_zero, J7]
  refine kV (s' := s) (v := goInt 0) (kP ho (fun cs => rfl) (by simpa [hv, hv2] using hr)) (Tr.refl hok) ?_ (.val _)
  show s.M = s.M.set i _
  have : s.M[i] = .arr e 1 N L := (qas.1 hM').2
  rw [← this, List.set_getElem_self]
 by_cases h0 : min m n = 0
 ·cases hrx with
  | own h ha hN hz hn hc => exact none_ _ _ rfl h0
  | ownnil h => exact none_ _ _ rfl h0
 ·cases hrx with
  | @own _ _ _ _ N' cap c b ad h ha hN hz hn hc =>
   obtain ⟨e0, e5, _, _, _, _⟩ := u3 hok hM' h
   subst e0
   rw [Nat.mul_one] at e5
   have had : ad = some ⟨b, p * 1, none⟩ := ha.resolve_left (by omega)
   rw [Nat.mul_one] at had
   subst had
   obtain ⟨ad2, rfl, hcells⟩ : ∃ ad, a2 = some ad ∧ ∀ (j : Nat) u, L2[j]? = some u → s.w.cell? (ad.add j) = some u := by
    rcases hso with ⟨_, h, _⟩ | h
    ·omega
    ·exact h
   have hC : (L2.take (min m n)).length = min m n := by rw [qaT]; omega
   obtain ⟨t1, t2, t3⟩ := H1 (p := p) (C := L2.take (min m n)) hok hM' h (by omega)
   have hr := run_copy_cells (P := P) s.w T T2 o.type e b p n c ad2 m c2 (L2.take (min m n)) e1 hs1 hC (fun j v hj => hcells j v (by
     rw [qbh] at hj
     split at hj
     ·exact hj
     ·cases hj)) t2 t3 (fun v hv => qaV.1 h1 v (List.mem_of_mem_take hv))
   rw [hC] at hr
   exact kV (v := goInt ((min m n : Nat) : Int)) (kP ho (fun cs => rfl) (by simpa [hv, hv2] using hr)) t1 rfl (.val _)
  | ownnil h => omega
theorem Wr {T2 : TypeId} {i p n m N : Nat} {d : D} {L L2 : List Value} {fp : List Nat} (ho : o.op = .call { callee := .builtin .copy, args := #[x, y], argTypes := #[T, T2] }) (hT : slE P T = some (e, 1, by')) (hx : Ev pc F x (.own i 1 p n)) (hy : Ev pc F y d) (hsrc : SrcD M fp d m 1 L2) (hM : M[i]? = some (.arr e 1 N L)) (h1 : pc = true → L2.all (·.oneCell') = true) :
  DOp P pc o F M (i :: fp) (.val (.int .i64 ((min m n : Nat) : Int))) [(i, .arr e 1 N (jC L p (L2.take (min m n))))] := by
 intro hp a s hok hops hfp
 exact H2 hok hfp (qq hp hx (by simp [ho, Op.operands, Call.operands]) hops) (qq hp hy (by simp [ho, Op.operands, Call.operands]) hops) ho hT hsrc hM (h1 hp)
end
section
variable {P : Program} {pc : Bool} {o : Oper} {F : Fr} {M : List Blk} {T T' : TypeId} {x y : Operand} {k k' : IntKind} {p q : Int}
theorem Ws (p : Int) (j : Nat) : p.fdiv (2 ^ j) = p / 2 ^ j := Int.fdiv_eq_ediv_of_nonneg _ (Int.le_of_lt (Int.pow_pos (by decide)))
theorem Wt (j : Nat) (ho : o.op = .binOp .shr T x y T') (hx : Ev pc F x (.val (.int k p))) (hy : Ev pc F y (.val (.int k' q))) (hq : pc = true → q = (j : Int) ∧ j ≤ k.bits) : DOp P pc o F M [] (.val (.int k (p / 2 ^ j))) [] := by
 refine uu hx hy (by simp [ho, Op.operands]) fun hp a w e1 e2 => ?_
 obtain ⟨h1, h2⟩ := hq hp
 subst h1
 unfold execOp
 simp only [ho, e1, e2]
 refine kO ?_
 have hg : (eqGuard .shr T x y (.int k p) (.int k' (j : Int))).run P w = .ok () w := by unfold eqGuard; rfl
 rw [Sem.run_bind, hg]
 simp only [Result.andThen, binOp, Op.shift]
 rw [if_neg (by omega), qbe, Nat.min_eq_left h2]
 simp [Ws]
theorem H3 (j : Nat) (ho : o.op = .binOp .shl T x y T') (hx : Ev pc F x (.val (.int k p))) (hy : Ev pc F y (.val (.int k' q))) (hq : pc = true → q = (j : Int) ∧ j ≤ k.bits) : DOp P pc o F M [] (.val (.int k (k.wrap (p * 2 ^ j)))) [] := by
 refine uu hx hy (by simp [ho, Op.operands]) fun hp a w e1 e2 => ?_
 obtain ⟨h1, h2⟩ := hq hp
 subst h1
 unfold execOp
 simp only [ho, e1, e2]
 refine kO ?_
 have hg : (eqGuard .shl T x y (.int k p) (.int k' (j : Int))).run P w = .ok () w := by unfold eqGuard; rfl
 rw [Sem.run_bind, hg]
 simp only [Result.andThen, binOp, Op.shift]
 rw [if_neg (by omega), qbe, Nat.min_eq_left h2]
 simp
def orZ (k : IntKind) (p q : Int) : Int := k.wrap (BitVec.ofInt k.bits p ||| BitVec.ofInt k.bits q).toNat
theorem H4 (ho : o.op = .binOp .or T x y T') (hx : Ev pc F x (.val (.int k p))) (hy : Ev pc F y (.val (.int k q))) : DOp P pc o F M [] (.val (.int k (orZ k p q))) [] := gB ho hx hy fun w => ⟨by unfold eqGuard; rfl, by simp [binOp, Op.intBits, orZ]⟩
theorem H5 {n b j : Nat} (hb : b < 2 ^ j) (hn : n * 2 ^ j + b < 18446744073709551616) : orZ .u64 ((n : Int) * 2 ^ j) b = (n : Int) * 2 ^ j + b := by
 have hn2 : n * 2 ^ j < 18446744073709551616 := by omega
 have e1 : ((n : Int) * 2 ^ j) = ((n * 2 ^ j : Nat) : Int) := by push_cast; rfl
 have e2 : (BitVec.ofInt 64 ((n * 2 ^ j : Nat) : Int) ||| BitVec.ofInt 64 (b : Int)).toNat = n * 2 ^ j + b := by
  rw [BitVec.ofInt_natCast, BitVec.ofInt_natCast, BitVec.toNat_or, BitVec.toNat_ofNat, BitVec.toNat_ofNat, Nat.mod_eq_of_lt (by omega), Nat.mod_eq_of_lt (by omega)]
  have := Nat.shiftLeft_add_eq_or_of_lt hb n
  rw [Nat.shiftLeft_eq] at this
  exact this.symm
 rw [e1]
 show IntKind.u64.wrap ((BitVec.ofInt 64 ((n * 2 ^ j : Nat) : Int) ||| BitVec.ofInt 64 (b : Int)).toNat : Int) = _
 rw [e2, IntWalk.u64_in _ (by omega)]
 push_cast
 rfl
end
section
variable {P : Program} {pc : Bool} {o : Oper} {F : Fr} {M : List Blk} {T : TypeId} {x lo hi mx : Operand} {n sz : Nat} {α : Type} {en : α → List Value} {l : List α} {k k1 k2 : IntKind} {lz hz mz : Int}
theorem Wu (p : Nat) (ho : o.op = .slice T x (some lo) (some hi) (some mx)) (hT : arE P T = some (n, sz)) (hx : Ev pc F x (.dpf (l.flatMap en))) (hlo : Ev pc F lo (.val (.int k lz))) (hhi : Ev pc F hi (.val (.int k1 hz))) (hmx : Ev pc F mx (.val (.int k2 mz))) (hp' : pc = true → lz = (p : Int)) (hq : pc = true → hz = (n : Int)) (hm : pc = true → mz = (n : Int)) (hb : pc = true → p ≤ n) (hl : l.length = n) (hn : n ≤ maxLen) (hen : ∀ a, (en a).length = sz) :
  DOp P pc o F M [] (.slf sz (l.drop p).length ((l.drop p).flatMap en)) [] := by
 intro hp a s hok hops _
 have b1 := hb hp
 have hr := qq hp hx (by simp [ho, Op.operands]) hops
 have h1 := (qq hp hlo (by simp [ho, Op.operands]) hops).val_eq
 have h2 := (qq hp hhi (by simp [ho, Op.operands]) hops).val_eq
 have h3 := (qq hp hmx (by simp [ho, Op.operands]) hops).val_eq
 rw [hp' hp] at h1
 rw [hq hp] at h2
 rw [hm hp] at h3
 obtain ⟨e, i, e1, e2, e3⟩ := ut hT
 have hlen : (l.drop p).length = n - p := by rw [qaZ]; omega
 generalize hv : a.eval x = vx at hr
 cases hr with
 | @dpf b off _ hI hc =>
  have sb : ∀ (k : IntKind) (z : Nat) (m : Nat) (cd : BoundsCode), z ≤ m → (Instr.sliceBound (.int k z) m cd).run P s.w = .ok z s.w := fun k z m cd b => by
   simp [Instr.sliceBound, asIntOf, b]
  have hbs : (Instr.sliceBounds false n n (some (a.eval lo)) (some (a.eval hi)) (some (a.eval mx))).run P s.w = .ok (p, n, n) s.w := by
   rw [h1, h2, h3]
   simp [Instr.sliceBounds, sb k p n _ b1, sb k1 n n _ (qaO _), sb k2 n n _ (qaO _)]
  have hrun : (execOp a.eval o).run P s.w = .ok (.value (.slice (some (if n = p then ⟨b, off, none⟩ else (⟨b, off, none⟩ : Addr).add (p * sz))) (n - p) (n - p))) s.w := by
   unfold execOp
   simp only [ho, hv]
   refine kO ?_
   simp [Instr.sliceAt, Instr.sureAddr, run_underlying e1, Sem.run_bind, hbs, sizeOf, typeInfo, e2, e3]
  refine qN hok hrun ?_
  rw [hlen]
  have hpart : (l.drop p).flatMap en = (l.flatMap en).drop (p * sz) := by rw [yw hen]
  have hfl : ((l.drop p).flatMap en).length = (n - p) * sz := by rw [jM hen, hlen]
  refine .slf hfl (qaO _) (by omega) (fun e => by cases e) ?_
  by_cases hz0 : n - p = 0
  ·left
   exact qaW (by rw [hfl, hz0]; simp)
  ·right
   rw [if_neg (by omega)]
   refine ⟨b, off + p * sz, by rw [JJ], hI, ?_⟩
   rw [hpart]
   intro j v hj
   rw [qba] at hj
   rw [Nat.add_assoc]
   exact hc _ v hj
end
section
variable {P : Program} {pc : Bool} {o : Oper} {F : Fr} {M : List Blk} {T e : TypeId} {by' n : Nat} {ds : List D} {Z : List Value}
def D.isSlf : D → Bool
 | .slf _ _ _ => true
 | _ => false
theorem Y7 : ∀ {ds : List D}, ds.all D.isSlf = true → D.nlL ds = true
 | [], _ => rfl
 | d :: ds, h => by
  rw [List.all_cons, qav] at h
  have h2 := Y7 h.2
  cases d with
  | slf sz n L => simp [D.nlL, D.nl, h2]
  | _ => cases h.1
theorem J8 {s : St} {d : D} {v : Value} (h : Rep s d v) (hd : d.isSlf = true) : v.cells = #[v] := by
 cases h <;> first | rfl | cases hd
theorem Wv {ps : List (Nat × Operand)} (ho : o.op = .buildSlice T n ps.toArray) (hT : slE P T = some (e, 1, by')) (hZ : zrC P e = some Z) (hi : ps.map (·.1) = List.range' 0 n) (hv : EvL pc F (ps.map (·.2)) ds) (hs : ds.all D.isSlf = true) (hn : n ≤ 16777216) :
  DOp P pc o F M [] (.slm 1 n ds) [] := by
 intro hp a s hok hops _
 obtain ⟨r1, r2⟩ := gh (a := a) (s := s) hp _ _ hv (fun x hx => hops x (by rw [ho]; simpa [Op.operands] using hx))
 obtain ⟨vs, hvs⟩ : ∃ vs, vs = (ps.map (·.2)).map a.eval := ⟨_, rfl⟩
 rw [← hvs] at r1 r2
 have hcell : ∀ v ∈ vs, v.cells = #[v] := fun v hv' => by
  obtain ⟨j, hj, rfl⟩ := List.getElem_of_mem hv'
  have hj2 : j < ds.length := by omega
  exact J8 (r2 j _ _ (qat hj2) (qat hj)) (qaV.1 hs _ (qbf hj2))
 have hlen : vs.length = n := by
  rw [hvs, List.length_map, List.length_map]
  have := congrArg List.length hi
  simpa using this
 have hflat : ∀ us : List Value, (∀ v ∈ us, v.cells = #[v]) → (us.flatMap fun v => v.cells.toList) = us := fun us h => by
  induction us with
  | nil => rfl
  | cons u us ih => rw [qaL, h u (qa6 ..), ih fun v hv => h v (qa9 _ hv)]; rfl
 have hrun := j0 (P := P) (w := s.w) ho hT hZ hi hvs.symm (fun v hv => by rw [hcell v hv]; rfl) (by omega)
 rw [hflat vs hcell] at hrun
 have ht := uh hok (.cells vs.toArray e)
 refine kV (s' := ⟨s.β, fun b => s.I b ∨ b = s.w.heap.size, s.M, _⟩) hrun ht rfl (.slm (Y7 hs) (by omega) (qaO _) (by unfold maxLen; omega) (fun e => by cases e) r1 (fun j d v h1 h2 => (r2 j d v h1 h2).mono hok ht) (.inr ⟨_, 0, rfl, .inr rfl, ?_⟩))
 simpa using qd (heap_alloc_new s.w _) 0
theorem Ww : ∀ {l : List D} {j : Nat} {d : D}, D.nlL l = true → l[j]? = some d → d.nl = true
 | [], j, d, _, h => by simp at h
 | a :: l, j, d, h, hj => by
  unfold D.nlL at h
  rw [qav] at h
  cases j with
  | zero => simp at hj; subst hj; exact h.1
  | succ j => exact Ww h.2 (by simpa using hj)
theorem vC {x y : Operand} {k : IntKind} {z : Int} {d : D} (j : Nat) (ho : o.op = .indexAddr T x y) (hT : slE P T = some (e, 1, by')) (hx : Ev pc F x (.slm 1 n ds)) (hy : Ev pc F y (.val (.int k z))) (hz : pc = true → z = (j : Int)) (hd : ds[j]? = some d) : DOp P pc o F M [] (.dpm [d]) [] := by
 intro hp a s hok hops _
 have hr := qq hp hx (by simp [ho, Op.operands]) hops
 have h2 := (qq hp hy (by simp [ho, Op.operands]) hops).val_eq
 have hjl : j < ds.length := (qas.1 hd).1
 have hz' := hz hp
 generalize hv : a.eval x = vx at hr
 cases hr with
 | @slm _ _ cap ad _ vs hnl hl hn hc ha hvl h hm =>
  rcases hm with hm | ⟨b, q, rfl, hI, hcl⟩
  ·rw [hm] at hjl; simp at hjl
  ·have hrun := j9 (P := P) (w := s.w) ho hT hv h2 (by omega) (by omega)
   rw [Addr.add_mid] at hrun
   have hjv : j < vs.length := by omega
   refine qN hok hrun (.dpm (vs := [vs[j]]) ?_ hI (fun i v hi => ?_) rfl (fun i d' v h1 h2 => ?_))
   ·unfold D.nlL
    rw [Ww hnl hd]; rfl
   ·cases i with
    | zero =>
     simp at hi
     subst hi
     have e : q + z.toNat * 1 + 0 = q + j := by omega
     rw [e]
     exact hcl j _ (qat hjv)
    | succ i => simp at hi
   ·cases i with
    | zero =>
     simp at h1 h2
     subst h1 h2
     exact h j _ _ hd (qat hjv)
    | succ i => simp at h1
end
section
variable {P : Program} {pc : Bool} {o : Oper} {F : Fr} {M : List Blk}
def D.oc : D → Bool
 | .slf _ _ _ => true
 | .slm _ _ _ => true
 | .arr _ => true
 | .fn _ _ _ => true
 | .farr _ _ => true
 | .floc _ _ _ => true
 | .val u => u.oneCell'
 | _ => false
theorem Yq {s : St} {d : D} {v : Value} (h : Rep s d v) (hd : d.oc = true) : v.oneCell' = true := by
 cases h with
 | val v => exact hd
 | slf => rfl
 | slm => rfl
 | arr => rfl
 | fn => rfl
 | farr => rfl
 | floc => rfl
 | _ => cases hd
theorem xa {T : TypeId} {ps : List (Nat × Operand)} {vs : List Value} {offs : List (Nat × Nat)} {Z R : List Value} {a : Act} {w : World} (ho : o.op = .build T ps.toArray) (hT : fdL P T = some offs) (hZ : zrC P T = some Z) (hvs : (ps.map (·.2)).map a.eval = vs)
  (hB : v8 offs Z.length ((ps.map (·.1)).zip (vs.map fun v => v.cells.toList)) = true) (hR : vQ offs Z ((ps.map (·.1)).zip (vs.map fun v => v.cells.toList)) = R) : (execOp a.eval o).run P w = .ok (.value (.agg R.toArray)) w := by
 obtain ⟨i, z, e1, e2, e3⟩ := jE hZ
 unfold fdL at hT
 split at hT
 ·rename_i fs hu
  have hparts : (ps.toArray.map fun (i, x) => (i, a.eval x)).toList = (ps.map (·.1)).zip vs := by
   rw [← hvs]
   simp only [List.map_toArray]
   clear hB hR hvs ho
   induction ps with
   | nil => rfl
   | cons p ps ih => simp only [List.map_cons, List.zip_cons_cons]; rw [← ih]
  have hz : ((ps.map (·.1)).zip vs).map (fun p => (p.1, p.2.cells.toList)) = (ps.map (·.1)).zip (vs.map fun v => v.cells.toList) := by
   rw [List.zip_map_right]
   rfl
  have hpl : (fs.mapM fun f => (do pure (f.offset, ← sizeOf f.type) : Sem (Nat × Nat))).run P w = .ok offs.toArray w := by
   rw [Array.mapM_eq_mapM_toList, Sem.run_map, zi (P := P) (w := w) _ _ (fun f b hb => ?_) fs.toList offs hT]
   ·rfl
   ·simp only [qaK] at hb
    obtain ⟨j, hj, rfl⟩ := hb
    simp [sizeOf, typeInfo, hj]
  have hf := wa (offs := offs) ((ps.map (·.1)).zip vs) z.cells (by rw [hz, ← Array.length_toList, e3]; exact hB)
  rw [hz, e3, hR] at hf
  unfold execOp
  simp only [ho]
  refine kO ?_
  have hz0 : (zeroValue T).run P w = .ok z w := by simp [zeroValue, typeInfo, e1, e2]
  simp only [Instr.build, Sem.run_bind, hz0, run_underlying hu, Result.andThen_ok, hpl, hparts, hf, Sem.run_pure]
 ·cases hT
theorem K9 {T : TypeId} {x : Operand} {d : D} {offs : List (Nat × Nat)} {z0 : Value} {Z : List Value} (ho : o.op = .build T #[(0, x)]) (hT : fdL P T = some ((0, 1) :: offs)) (hZ : zrC P T = some (z0 :: Z)) (hx : Ev pc F x d) (hd : d.isSlf = true) : DOp P pc o F M [] (.agg (d :: Z.map .val)) [] := by
 intro hp a s hok hops _
 have hr := qq hp hx (by simp [ho, Op.operands]) hops
 have hc := J8 hr hd
 have hrun := xa (P := P) (ps := [(0, x)]) (vs := [a.eval x]) (a := a) (w := s.w) (R := a.eval x :: Z) ho hT hZ rfl (by simp [v8, hc]) (by simp [vQ, hc, jC])
 refine qN hok hrun (.agg (by simp) fun j e v h1 h2 => ?_)
 cases j with
 | zero => simp at h1 h2; subst h1 h2; exact hr
 | succ j =>
  simp at h1 h2
  rw [h2] at h1
  simp at h1
  subst h1
  exact .val _
theorem Y8 {T : TypeId} {x : Operand} {ds : List D} {Z : List Value} (ho : o.op = .build T #[(0, x)]) (hx : Ev pc F x (.agg ds)) (hT : fdL P T = some [(0, ds.length)]) (hZ : zrC P T = some Z) (hl : Z.length = ds.length) : DOp P pc o F M [] (.agg ds) [] := by
 intro hp a s hok hops _
 have hr := qq hp hx (by simp [ho, Op.operands]) hops
 generalize hv : a.eval x = vx at hr
 cases hr with
 | @agg _ vs hvl h =>
  have hrun := xa (P := P) (ps := [(0, x)]) (vs := [.agg vs.toArray]) (a := a) (w := s.w) (R := vs) ho hT hZ (by simp [hv]) (by simp [v8, Value.cells, hvl, hl]) (by
   simp only [List.map_cons, List.map_nil, List.zip_cons_cons, List.zip_nil_left, vQ, List.getElem?_cons_zero, Value.cells]
   exact uv (by omega))
  exact qN hok hrun (.agg hvl h)
theorem qG {T : TypeId} {x : Operand} {ds : List D} (j : Nat) (ho : o.op = .box T x) (hx : Ev pc F x (.agg ds)) (hj : M[j]? = some .hole) : DOp P pc o F M [j] (.loc j 0) [(j, .mix T ds)] := by
 intro hp a s hok hops hfp
 have hr := qq hp hx (by simp [ho, Op.operands]) hops
 have hj' : s.M[j]? = some .hole := by rw [hfp j (by simp)]; exact hj
 have hjl : j < s.β.length := by rw [hok.len]; exact (qas.1 hj').1
 have hβ : s.β[j]? = some .nilFunc := by
  have e : s.β[j]? = some s.β[j] := qat hjl
  have : s.β[j] = .nilFunc := hok.blk j .hole _ hj' e
  rw [e, this]
 generalize hv : a.eval x = vx at hr
 cases hr with
 | @agg _ vs hvl h =>
  have ht : Tr s ⟨s.β.set j (.pointer (some ⟨s.w.heap.size, 0, none⟩)), s.I, s.M.set j (.mix T ds), s.w.alloc (.cells vs.toArray T)⟩ := by
   refine gT hok hj' _ _ _ (by simp) (fun b hb => by simpa [hb] using (qay hb).symm) (fun b h => Below.heap_alloc _ _ _ h) (fun b hb => ?_) (by simp) rfl rfl rfl ⟨_, vs, rfl, heap_alloc_new s.w _, hvl, fun k e v hk hv => ?_⟩
   ·cases hb; simp
   ·refine Rep.mono' (s := s) (s' := ⟨s.β.set j (.pointer (some ⟨s.w.heap.size, 0, none⟩)), s.I, s.M.set j (.mix T ds), s.w.alloc (.cells vs.toArray T)⟩) (fun i h hi hne => ?_) (fun _ h => h) (fun b hI => Below.heap_alloc _ _ _ (hok.il b hI)) (h k e v hk hv)
    show (s.β.set j _)[i]? = some h
    by_cases e : j = i
    ·subst e; rw [hi] at hβ; exact absurd (qay hβ) hne
    ·rw [qaG e]; exact hi
  refine kV (v := .pointer (some ⟨s.w.heap.size, 0, none⟩)) ?_ ht rfl (xJ hjl rfl)
  unfold execOp
  simp only [ho, hv]
  rfl
theorem kt {T T' : TypeId} {x y : Operand} {i k : Nat} {rw' : Bool} {ds : List D} {L : List Value} (ho : o.op = .store T x y) (hT : tyB P T = some (rw', k)) (hx : Ev pc F x (.loc i 0)) (hy : Ev pc F y (.agg ds)) (hM : M[i]? = some (.flat T' L)) (hk : ds.length = k) (hfit : ds.length = L.length) (h1 : ds.all D.oc = true) : DOp P pc o F M [i] .junk [(i, .mix T' ds)] := by
 intro hp a s hok hops hfp
 have hr := qq hp hx (by simp [ho, Op.operands]) hops
 have hry := qq hp hy (by simp [ho, Op.operands]) hops
 have hM' : s.M[i]? = some (.flat T' L) := by rw [hfp i (by simp)]; exact hM
 generalize hv : a.eval x = vx at hr
 generalize hvy : a.eval y = vy at hry
 cases hr with
 | @loc _ _ b h =>
  cases hry with
  | @agg _ vs hvl hd =>
   obtain ⟨b', e1, e2⟩ := hok.blk i _ _ hM' h
   cases e1
   have hcell := qd e2 0
   have hoc : ∀ u ∈ vs, u.oneCell' = true := fun u hu => by
    obtain ⟨j, hj, rfl⟩ := List.getElem_of_mem hu
    have hj2 : j < ds.length := by omega
    exact Yq (hd j _ _ (qat hj2) (qat hj)) (qaV.1 h1 _ (qbf hj2))
   have hrun := gv (P := P) (w := s.w) (C := vs) ho hT hv hvy rfl (by omega) (fun j hj => by
     have hp' : j < L.length := by omega
     have := hcell j L[j] (by simp [hp'])
     rw [qau] at this
     rw [qau, this]; rfl) (fun j hj => by simp [World.frozen?, e2]) hoc
   have hβ : s.β.set i (.pointer (some ⟨b, 0, none⟩)) = s.β := by
    apply qbi
    intro k
    by_cases e : i = k
    ·subst e; rw [qaI (qas.1 h).1, h]
    ·rw [qaG e]
   refine yR (s' := ⟨s.β.set i (.pointer (some ⟨b, 0, none⟩)), s.I, s.M.set i (.mix T' ds), s.w.setCells b 0 vs⟩) hrun (yb hok hM' rfl h rfl 0 _ ?_) rfl
   have hall : jC L 0 vs = vs := uv (by omega)
   have hblk := kI b vs 0 s.w L T' e2
   rw [hall] at hblk
   refine ⟨b, vs, rfl, hblk, hvl, fun j e v hj hv' => ?_⟩
   refine Rep.mono' (s := s) (s' := ⟨s.β.set i (.pointer (some ⟨b, 0, none⟩)), s.I, s.M.set i (.mix T' ds), s.w.setCells b 0 vs⟩) (fun k x hk _ => by show (s.β.set i _)[k]? = _; rw [hβ]; exact hk) (fun _ h => h) (fun b' hI => kJ b _ 0 s.w b' fun e => ?_) (hd j e v hj hv')
   subst e
   exact (hok.lt b' (qk hM' rfl h rfl)).2 hI
end
section
variable {P : Program} {pc : Bool} {o : Oper} {F : Fr} {M : List Blk}
def ptT (P : Program) (T : TypeId) : Option TypeId := match P.underlying T with
 | some (.pointer e) => some e
 | _ => none
theorem uD {P : Program} {T e : TypeId} (h : ptT P T = some e) : P.underlying T = some (.pointer e) := by
 unfold ptT at h
 split at h
 ·rename_i e' h1; cases h; exact h1
 ·cases h
theorem Y9 {T T' e : TypeId} {x : Operand} {i q : Nat} (ho : o.op = .binOp .eql T x (.const (.pointer none)) T') (hT : ptT P T = some e) (hx : Ev pc F x (.loc i q)) : DOp P pc o F M [] (.val (.bool false)) [] := by
 intro hp a s hok hops _
 have hr := qq hp hx (by simp [ho, Op.operands]) hops
 generalize hv : a.eval x = vx at hr
 cases hr with
 | @loc _ _ b h =>
  refine qN (v := .bool false) hok ?_ (.val _)
  unfold execOp
  simp only [ho, hv]
  refine kO ?_
  have hc : a.eval (.const (.pointer none)) = .pointer none := rfl
  rw [hc]
  have hg : (eqGuard .eql T x (.const (.pointer none)) (.pointer (some ⟨b, q, none⟩)) (.pointer none)).run P s.w = .ok () s.w := by unfold eqGuard; rfl
  rw [Sem.run_bind, hg]
  have he := run_equal_pointer_nil (P := P) s.w T (some ⟨b, q, none⟩) (by rw [show P.pointee T = e by simp [Program.pointee, uD hT]]; exact uD hT)
  simp only [Result.andThen, binOp, Sem.run_bind, he]
  rfl
end
section
variable {P : Program} {pc : Bool} {o : Oper} {F : Fr} {M : List Blk}
theorem Qa {α : Type} {en : α → List Value} {r : List α} {T e : TypeId} {sz by' : Nat} {x hi mx : Operand} {k k' : IntKind} {h h' : Int} {j : Nat} (ho : o.op = .slice T x none (some hi) (some mx)) (hT : slE P T = some (e, sz, by')) (hx : Ev pc F x (.slf sz r.length (r.flatMap en))) (hhi : Ev pc F hi (.val (.int k h))) (hmx : Ev pc F mx (.val (.int k' h')))
  (hh : pc = true → h = (j : Int)) (hm : pc = true → h' = (j : Int)) (hj : pc = true → j ≤ r.length) (hen : ∀ a, (en a).length = sz) : DOp P pc o F M [] (.slf sz (r.take j).length ((r.take j).flatMap en)) [] := by
 intro hp a s hok hops _
 have hr := qq hp hx (by simp [ho, Op.operands]) hops
 have e1 := (qq hp hhi (by simp [ho, Op.operands]) hops).val_eq
 have e2 := (qq hp hmx (by simp [ho, Op.operands]) hops).val_eq
 rw [hh hp] at e1
 rw [hm hp] at e2
 have hjl := hj hp
 obtain ⟨q1, ti, q2, q3, q4⟩ := kM hT
 have hlen : (r.take j).length = j := by rw [qaT]; omega
 generalize hv : a.eval x = vx at hr
 cases hr with
 | @slf _ _ cap ad _ hl hn hc ha hL =>
  have hjc : j ≤ cap := by omega
  have hrun : (execOp a.eval o).run P s.w = .ok (.value (.slice ad j j)) s.w := by
   unfold execOp
   simp only [ho, hv, Option.map_some, Option.map_none, e1, e2]
   refine kO ?_
   have hj0 : (0 : Int) ≤ (j : Int) ∧ (j : Int) ≤ (cap : Int) := by omega
   simp [Instr.sliceAt, Instr.slice, run_underlying q1, Sem.run_bind, Instr.sliceBounds, Instr.sliceBound, asIntOf, hjc, sizeOf, typeInfo, q2, Addr.add_zero']
  refine qN hok hrun ?_
  rw [hlen]
  refine .slf (by rw [jM hen, hlen]) (qaO _) (by omega) (fun e => by have := ha e; omega) ?_
  rcases hL with hL | ⟨b, q, e, hI, hcl⟩
  ·left
   have : (r.take j).flatMap en = (r.flatMap en).take (j * sz) := by rw [yx hen]
   rw [this, hL]; simp
  ·right
   refine ⟨b, q, e, hI, ?_⟩
   have : (r.take j).flatMap en = (r.flatMap en).take (j * sz) := by rw [yx hen]
   rw [this]
   have h5 := qK hcl 0 (j * sz)
   simpa using h5
end
end Go.Proofs.YtofklkbfkoliiaaGreat
namespace Go.Proofs.YtofklkbfkoliiaaGreat
set_option linter.unusedVariables false
set_option linter.unusedSimpArgs false
open Go.RowKit
def Wx (md : Region.Mode) (ops : Array Oper) : Nat → Array Bool → List (List Nat)
 | 0, _ => [[]]
 | f + 1, listed => match Region.ready md ops listed with
  | [] => [[]]
  | i :: r => (i :: r).flatMap fun j => (Wx md ops f (listed.setIfInBounds j true)).map (j :: ·)
theorem Qb {md : Region.Mode} {ops : Array Oper} : ∀ (f t : Nat) (listed : Array Bool), Region.linearise.go md ops f t listed [] ∈ Wx md ops f listed
 | 0, t, listed => by simp [Region.linearise.go, Wx]
 | f + 1, t, listed => by
  simp only [Region.linearise.go]
  change (match (Region.ready md ops listed)[t % (Region.ready md ops listed).length]? with
   | some i => Region.linearise.go md ops f (t / (Region.ready md ops listed).length) (listed.setIfInBounds i true) [i]
   | none => [].reverse) ∈ _
  unfold Wx
  cases hr : Region.ready md ops listed with
  | nil => simp
  | cons x xs =>
   have hlt : t % (x :: xs).length < (x :: xs).length := Nat.mod_lt _ (by simp)
   rw [qat hlt]
   simp only []
   rw [linearise_go_acc, List.reverse_singleton, List.singleton_append]
   exact List.mem_flatMap.2 ⟨_, qbf hlt, List.mem_map.2 ⟨_, Qb f _ _, rfl⟩⟩
def Wy (ops : Array Oper) : List (List Nat) := Wx .any ops ops.size (qa7 ops.size false)
theorem Yr {P : Program} {ops : Array Oper} (hm : P.follows .mixedOrders = true) (t : Nat) : Region.schedule (P.follows .mixedOrders) ops t ∈ Wy ops := by
 simp only [Region.schedule, hm, Bool.true_or, if_true]
 exact Qb _ _ _
def J9 (ops : Array Oper) (L : List Nat) : List Oper := L.filterMap (ops[·]?)
theorem zn {G : Fence} {k : Nat} {P : Program} {ops : Array Oper} {Q : Exit → Act → World → Prop} : ∀ L : List Nat, wpOpsIn G k P ops Q L = wpListIn G k P ops Q (J9 ops L)
 | [] => by funext a w; rfl
 | i :: L => by
  funext a w
  have ih := zn (G := G) (k := k) (P := P) (ops := ops) (Q := Q) L
  cases ho : ops[i]? with
  | none => simp only [wpOpsIn, J9, List.filterMap_cons, ho]; exact congrFun (congrFun ih a) w
  | some o => simp only [wpOpsIn, J9, List.filterMap_cons, ho, wpListIn]; rw [ih]; rfl
theorem Q9 {P : Program} {ops : Array Oper} {Q : Exit → Act → World → Prop} {b : Frame} {k : List Item} {cs : List Frame} {tail : List Nat} (hro : b.roundOf = none)
  (hQ : ∀ e a w, Q e a w → e = .normal) (l : List Nat) :
  ∀ (a : Act) (w : World), wpOpsIn (wd none) 0 P ops Q l a w →
   ∃ a' w', Q .normal a' w' ∧ StepsIn (Machine.fenced P Fence.wide) P (lone (b.atR a (.inRegion ops (l ++ tail) :: k)) cs w) (lone (b.atR a' (.inRegion ops tail :: k)) cs w') := by
 induction l with
 | nil => exact fun a w h => ⟨a, w, h, StepsIn.refl _⟩
 | cons i rest ih =>
  intro a w h
  simp only [wpOpsIn] at h
  rw [qaE]
  cases ho : ops[i]? with
  | none =>
   simp only [ho] at h
   obtain ⟨a', w', hq, hs'⟩ := ih a w h
   have hs := stepR_op_skip (P := P) (b := b) (a := a) (k := k) (cs := cs) (w := w) (ops := ops) (i := i) (rest := rest ++ tail) (by simp [ho])
   simp only [ho, Option.bind_none, Act.put] at hs
   exact ⟨a', w', hq, .head (fenced_wide _ _) hs hs'⟩
  | some o =>
   simp only [ho] at h
   by_cases hw : Region.wanted o (yielded ops a.tmps) = true
   ·simp only [hw, if_true, Oper.wpIn] at h
    obtain ⟨_, h⟩ := h
    rw [show (wd none).round = none from rfl] at h
    simp only [Oper.uponIn] at h
    have hg := stepGR_op (P := P) (b := b) (k := k) (cs := cs) (w := w) (rest := rest ++ tail) ho hw
    rw [hro] at hg
    have hfin : ∀ v, (b.atR a (.inRegion ops (i :: (rest ++ tail)) :: k)).finish v = b.atR (a.put o.dst v) (.inRegion ops (rest ++ tail) :: k) := by
     intro v; rw [Frame.finish_atR, ho]; rfl
    split at h
    ·rename_i v w' hr'
     have hr'' : (o.semAt none a.eval).run P w = .ok (.value v) w' := hr'
     obtain ⟨a', w'', hq, hs'⟩ := ih _ _ h
     refine ⟨a', w'', hq, .head (fenced_wide _ _) (step_lone_go ?_) hs'⟩
     rw [hg, ← hfin]; simp [stepG.apply, hr'']
    ·rename_i w' hr'
     have hr'' : (o.semAt none a.eval).run P w = .ok .skip w' := hr'
     obtain ⟨a', w'', hq, hs'⟩ := ih _ _ h
     refine ⟨a', w'', hq, .head (fenced_wide _ _) (step_lone_go ?_) hs'⟩
     rw [hg, ← hfin]; simp [stepG.apply, hr'']
    ·rename_i d w' hr'
     have hr'' : (o.semAt none a.eval).run P w = .ok (.defer d) w' := hr'
     obtain ⟨a', w'', hq, hs'⟩ := ih _ _ h
     refine ⟨a', w'', hq, .head (fenced_wide _ _) (step_lone_go ?_) hs'⟩
     have : ({ b.atR a (.inRegion ops (i :: (rest ++ tail)) :: k) with defers := d :: a.defers } : Frame).finish undef =
       b.atR ({ a with defers := d :: a.defers }.put o.dst undef) (.inRegion ops (rest ++ tail) :: k) := by
      have := Frame.finish_atR b { a with defers := d :: a.defers } ops i (rest ++ tail) k undef
      rw [ho] at this; exact this
     rw [hg]; simp only [stepG.apply, Sem.runT_eq, hr'', GStep.bare_after]
     exact congrArg (fun fr => GStep.go { frame := fr, callers := cs, status := .running, dying := none } w') this
    ·rename_i f args w' hr'
     have hr'' : (o.semAt none a.eval).run P w = .ok (.enter f args) w' := hr'
     obtain ⟨hn, hF, h⟩ := h
     obtain ⟨e, w'', fr, hR, hsteps, hfn, hleave⟩ := h (b.atR a (.inRegion ops (i :: (rest ++ tail)) :: k) :: cs) (gY _ _)
     have henter : step P (lone (b.atR a (.inRegion ops (i :: (rest ++ tail)) :: k)) cs w) =
       .next (lone (Frame.enter P f args .normal) (b.atR a (.inRegion ops (i :: (rest ++ tail)) :: k) :: cs) w') :=
      step_lone_go (by rw [hg]; simp [stepG.apply, hr'', Frame.atR])
     cases e with
     | returned v =>
      obtain ⟨a', w₃, hq, hs'⟩ := ih _ _ hR
      refine ⟨a', w₃, hq, .head (fenced_wide _ _) henter (StepsIn.trans (hsteps.mono fun _ _ => fenced_wide _ _) (.head (fenced_wide _ _) ?_ hs'))⟩
      rw [← hfin]; exact step_leave_returned hleave
     | panicked chain => cases hQ _ _ _ hR
     | outgrown => obtain ⟨a₀, w₀, hq⟩ := hR; cases hQ _ _ _ hq
    ·rename_i row args w' hr'
     have hr'' : (o.semAt none a.eval).run P w = .ok (.row row args) w' := hr'
     obtain ⟨hn, h⟩ := h
     obtain ⟨v, w'', hR, hsteps⟩ := h (b.atR a (.inRegion ops (i :: (rest ++ tail)) :: k)) cs (gY _ _)
     have henter : step P (lone (b.atR a (.inRegion ops (i :: (rest ++ tail)) :: k)) cs w) =
       .next (lone (Frame.ofRow P row args .normal) (b.atR a (.inRegion ops (i :: (rest ++ tail)) :: k) :: cs) w') :=
      step_lone_go (by rw [hg]; simp [stepG.apply, hr'', Frame.atR])
     obtain ⟨a', w₃, hq, hs'⟩ := ih _ _ hR
     refine ⟨a', w₃, hq, .head (fenced_wide _ _) henter ?_⟩
     rw [← hfin] at hs'; exact StepsIn.trans (hsteps.mono fun _ _ => fenced_wide _ _) hs'
    ·rename_i l f tmps assign body w' hr'
     have hr'' : (o.semAt none a.eval).run P w = .ok (.round l f tmps assign body) w' := hr'
     obtain ⟨hn, _, h⟩ := h
     obtain ⟨e, w'', hR, hsteps⟩ := h (b.atR a (.inRegion ops (i :: (rest ++ tail)) :: k)) cs (gY _ _)
     have henter : step P (lone (b.atR a (.inRegion ops (i :: (rest ++ tail)) :: k)) cs w) =
       .next (lone (Frame.round l f tmps assign body .normal) (b.atR a (.inRegion ops (i :: (rest ++ tail)) :: k) :: cs) w') :=
      step_lone_go (by rw [hg]; simp [stepG.apply, hr'', Frame.atR])
     cases e with
     | returned v =>
      obtain ⟨a', w₃, hq, hs'⟩ := ih _ _ hR
      refine ⟨a', w₃, hq, .head (fenced_wide _ _) henter ?_⟩
      rw [← hfin] at hs'
      have hsteps : StepsIn _ P _ _ := hsteps
      exact StepsIn.trans (hsteps.mono fun _ _ => fenced_wide _ _) hs'
     | panicked chain => cases hQ _ _ _ hR
     | outgrown => obtain ⟨a₀, w₀, hq⟩ := hR; cases hQ _ _ _ hq
    ·rename_i v w' hr'
     cases hQ _ _ _ h
    ·exact h.elim
   ·simp only [hw, if_false, Bool.false_eq_true] at h
    obtain ⟨_, h⟩ := h
    obtain ⟨a', w', hq, hs'⟩ := ih _ _ h
    have hs := stepR_op_skip (P := P) (b := b) (a := a) (k := k) (cs := cs) (w := w) (ops := ops) (i := i) (rest := rest ++ tail)
     (by simp [ho]; simpa using hw)
    simp only [ho, Option.bind_some] at hs
    exact ⟨a', w', hq, .head (fenced_wide _ _) hs hs'⟩
def Kn (Q : Fr → List Blk → Prop) : Cont
 | .normal, F, M => Q F M
 | _, _, _ => False
theorem Va {fn : Func} {args : List D} {N m : Nat} {s : St} {vs : List Value} (hn : fn.ntmps = N) (hle : Nat.ble args.length N = true) (hok : Ok s) (hr : Reps s args vs) :
  Inv s ⟨N, none, m, [], false⟩ (fr0 0 args) s.M { tmps := vs.toArray ++ qa7 (fn.ntmps - vs.toArray.size) undef, defers := [] } { s.w with drawn := s.w.drawn + 1 } := by
 obtain ⟨hl, hr⟩ := hr
 have hle := qaF hle
 generalize ha : ({ tmps := vs.toArray ++ qa7 (fn.ntmps - vs.toArray.size) undef, defers := [] } : Act) = a0
 have hsize : a0.tmps.size = N := by subst ha; simp; omega
 have hslot : ∀ t d, lk (fr0 0 args) t = some d → Rep s d (jh a0 t) := by
  intro t d hd
  obtain ⟨_, h2⟩ := uZ args 0 t d hd
  simp only [Nat.sub_zero] at h2
  have hlt : t < args.length := (qas.1 h2).1
  have hv : vs[t]? = some vs[t] := qat (by omega)
  have : jh a0 t = vs[t] := by
   subst ha
   unfold jh
   simp only [Array.getD_eq_getD_getElem?]
   rw [Array.getElem?_append_left (by simp; omega)]
   simp [show t < vs.length by omega]
  rw [this]
  exact hr t d _ h2 hv
 have hst := wq hok { s.w with drawn := s.w.drawn + 1 } rfl rfl rfl rfl
 refine ⟨hok, ⟨s.β, s.I, s.M, { s.w with drawn := s.w.drawn + 1 }⟩, rfl, rfl, hst, fun t d hd => (hslot t d hd).mono hok hst, hsize, ?_⟩
 rw [← ha]
 exact .nil
theorem Ga {P : Program} {f : FuncId} {fn : Func} {id : Nat} {ops : Array Oper} {o : Oper} {args : List D} {F0 : Fr} {Min Mout : List Blk} {pn : Option D} {dr : D} {N t : Nat} (m r : Nat) (Ls : List (List Nat)) (hmx : P.follows .mixedOrders = true) (hcb : yP P f = true) (hf : P.funcs[f]? = some fn)
  (hc : fn.body = some (.region id ops true)) (hn : fn.ntmps = N) (hle : Nat.ble args.length N = true) (hF : fr0 0 args = F0) (hm : Min.length = m) (hor : ops[r]? = some o) (hLs : Wy ops = Ls)
  (ho : o.op = .call { callee := .builtin .recover, args := #[], argTypes := #[] }) (hg : o.guard = none) (hd : o.dst = some t) (ht : qbl t N = true)
  (h : ∀ s0 : St, s0.M.length ≤ m → ∀ L ∈ Ls, ∃ L1 L2, L = L1 ++ r :: L2 ∧ Walk P s0 ⟨N, none, m, [], false⟩ ops (J9 ops L1) F0 Min
   (Kn fun F M => Walk P s0 ⟨N, none, m, [], false⟩ ops (J9 ops L2) ((t, zk pn) :: F) M (Kret P fn m [] (fun d M => d = dr ∧ M = Mout) (fun _ _ => False)))) :
  DDef P f args Min pn none Mout := by
 subst hF
 subst hLs
 refine ⟨hcb, fun s vs u hok hM hr hmode => ⟨trivial, fun c0 cs hu hroom => ?_⟩⟩
 subst hu
 subst hm
 have hlen : s.M.length ≤ Min.length := by rw [hM]; exact qaO _
 let b : Frame := { (default : Frame) with fn := f, kind := .deferred, roundOf := none }
 have henter : Frame.enter P f vs.toArray .deferred = b.atR { tmps := vs.toArray ++ qa7 (fn.ntmps - vs.toArray.size) undef, defers := [] } [.code (.region id ops true)] := by
  simp [Frame.enter, Frame.atR, hf, hc, b]
 rw [henter]
 obtain ⟨L1, L2, hL, hw1⟩ := h s hlen _ (Yr (ops := ops) hmx (s.w.tape s.w.drawn (.order b.fn id)))
 have hi := Va (m := Min.length) hn hle hok hr
 rw [hM] at hi
 have h1 := hw1 _ _ hi
 rw [show Cx.ρ ⟨N, none, Min.length, [], false⟩ s = none from rfl, ← zn] at h1
 obtain ⟨a1, w1, hq1, hs1⟩ := Q9 (b := b) (k := []) (cs := c0 :: cs) (tail := r :: L2) rfl (fun e a w hq => by
  cases e with
  | normal => rfl
  | ret => obtain ⟨_, _, _, hk⟩ := hq; exact hk.elim
  | exit id => obtain ⟨_, _, _, hk⟩ := hq; exact hk.elim
  | goto l => obtain ⟨_, _, _, hk⟩ := hq; exact hk.elim
  | panic ch => obtain ⟨_, _, _, _, hk⟩ := hq; exact hk.elim
  | outgrown => exact hq.elim) L1 _ _ h1
 obtain ⟨F, M, ⟨h0, s1, q1, q2, q3, q4, q5, q6⟩, hk⟩ := hq1
 obtain ⟨hrec, hset⟩ := vd hmode
 have hi2 : Inv s ⟨N, none, Min.length, [], false⟩ ((t, zk pn) :: F) M (a1.put o.dst (yG c0.mode).1) w1 := by
  refine ⟨h0, s1, q1, q2, q3, ?_, by rw [jX]; exact q5, by rw [yk]; exact q6⟩
  rw [hd]
  exact FOk.put (s := s1) (F := F) q4 (by rw [q5]; exact Nat.blt_eq.mp ht) (hrec.mono hok q3)
 have h2 := hk _ _ hi2
 rw [show Cx.ρ ⟨N, none, Min.length, [], false⟩ s = none from rfl, ← zn] at h2
 obtain ⟨e, a', w', hq, harr⟩ := wp_opsIn _ _ _ h2 b [] ({ c0 with mode := (yG c0.mode).2 } :: cs) rfl trivial (gY _ _)
 refine uy (P := P) (b := b) hok hlen hf rfl rfl rfl hset hq (ArrivesIn.of_steps (.head (fenced_wide _ _) stepR_region_draw ?_) harr)
 rw [hL]
 refine StepsIn.trans hs1 (.one (fenced_wide _ _) ?_)
 exact zj (P := P) (b := b) (a := a1) (k := []) (c0 := c0) (cs := cs) (w := w1) (ops := ops) (i := r) (rest := L2) (o := o) rfl rfl hor hg ho
theorem Wz {s : St} {v : Value} (sz : Nat) (h : Rep s (.val (.slice none 0 0)) v) : Rep s (.slf sz 0 []) v := by
 cases h; exact .slf (by simp) (qaO _) (qa5 _) (fun _ => rfl) (.inl rfl)
theorem WA {pc : Bool} {F : Fr} {x : Operand} (sz : Nat) (h : Ev pc F x (.val (.slice none 0 0))) : Ev pc F x (.slf sz 0 []) := by
 obtain ⟨d, h1, h2⟩ := h
 exact ⟨d, h1, fun s v hp hr => Wz sz (h2 s v hp hr)⟩
section
variable {P : Program} {pc : Bool} {o : Oper} {F : Fr} {M : List Blk}
theorem Gb {T T' e : TypeId} {x : Operand} {l : List D} (ho : o.op = .binOp .eql T x (.const (.pointer none)) T') (hT : ptT P T = some e) (hx : Ev pc F x (.dpm l)) : DOp P pc o F M [] (.val (.bool false)) [] := by
 intro hp a s hok hops _
 have hr := qq hp hx (by simp [ho, Op.operands]) hops
 generalize hv : a.eval x = vx at hr
 cases hr with
 | @dpm b q _ _ _ _ _ _ _ =>
  refine qN (v := .bool false) hok ?_ (.val _)
  unfold execOp
  simp only [ho, hv]
  refine kO ?_
  have hc : a.eval (.const (.pointer none)) = .pointer none := rfl
  rw [hc]
  have hg : (eqGuard .eql T x (.const (.pointer none)) (.pointer (some ⟨b, q, none⟩)) (.pointer none)).run P s.w = .ok () s.w := by unfold eqGuard; rfl
  rw [Sem.run_bind, hg]
  have he := run_equal_pointer_nil (P := P) s.w T (some ⟨b, q, none⟩) (by rw [show P.pointee T = e by simp [Program.pointee, uD hT]]; exact uD hT)
  simp only [Result.andThen, binOp, Sem.run_bind, he]
  rfl
theorem xN {f q : Nat} {T : TypeId} {x : Operand} {l : List D} (ho : o.op = .fieldAddr T x f) (hT : fdO P T f = some q) (hx : Ev pc F x (.dpm l)) : DOp P pc o F M [] (.dpm (l.drop q)) [] := by
 intro hp a s hok hops hfp
 have hr := qq hp hx (by simp [ho, Op.operands]) hops
 generalize hv : a.eval x = vx at hr
 cases hr with
 | @dpm b c _ vs hnl hI hc hl h =>
  refine qN hok (yZ ho hT hv) (.dpm (vs := vs.drop q) (vY q hnl) hI (fun j v hj => ?_) (by simp [hl]) fun j d v hj hv => ?_)
  ·rw [qba] at hj
   rw [Nat.add_assoc]
   exact hc _ v hj
  ·rw [qba] at hj hv
   exact h _ d v hj hv
end
end Go.Proofs.YtofklkbfkoliiaaGreat
namespace Go.Proofs.YtofklkbfkoliiaaGreat
set_option linter.unusedVariables false
set_option linter.unusedSimpArgs false
open Go.RowKit
def Qc (ops : Array Oper) (bj : Nat) (S : List Nat) (sj i j : Nat) (oi oj : Oper) (fi fj : List Nat × List Nat) : Bool :=
 bj.testBit i || !(gS oi.dst.toList (j7 ops oj) || gS (j7 ops oi) oj.dst.toList || (gS fi.2 fj.1 && !(i == sj && S.contains j)) || (gS fi.1 fj.2 && !(S.contains i && j == sj)))
def Qd (S : List Nat) (sj : Nat) (fpS : List Nat) (n : Nat) (l : List Oper) (fps : List (List Nat × List Nat)) : Bool :=
 let bs := ze l []
 (fps.length == l.length && (qaY l.length).all fun j =>
  match l[j]?, fps[j]? with
  | some oj, some fj => oj.after.all (fun e => !Region.binds .any e || qbl e.on j) && KU n oj.dst && gq oj.op && fj.2.all (fun x => fj.1.contains x) && (qaY j).all fun i =>
   match l[i]?, fps[i]? with
   | some oi, some fi => Qc l.toArray (bs.getD j 0) S sj i j oi oj fi fj
   | _, _ => false
  | _, _ => false) && ((qaY l.length).all fun j => match fps[j]? with
   | some fj => j == sj || !(gS fj.2 fpS) || (qbl sj j && gu l sj j && S.all fun i => gu l i j)
   | none => false) && qbl sj l.length
def Lex3 (P : Program) (ops : Array Oper) (S : List Nat) (sj : Nat) (fpS : List Nat) (M0 Ma : List Blk) : Nat → List Oper → List (List Nat × List Nat) → Fr → List Blk → (Fr → List Blk → Prop) → Prop
 | _, [], _, F, M, Q => Q F M
 | _, _ :: _, [], _, _, _ => False
 | k, o :: rest, (fp, wi) :: fps, F, M, Q => ∃ pc d wr, Gd ops o F pc ∧ DOp P pc o F M fp d wr ∧ wr.map (·.1) = wi ∧ (o.guard.isSome = true → wr = []) ∧ ((k ∈ S → (∀ x ∈ fp, x ∈ fpS) ∧ wr = [] ∧ DOp P pc o F M0 fp d [] ∧ DOp P pc o F Ma fp d []) ∧ (k = sj → ∀ x ∈ fpS, (upd M0 wr)[x]? = Ma[x]?)) ∧ Lex3 P ops S sj fpS M0 Ma (k + 1) rest fps (putF o.dst (gdd o pc d) F) (upd M wr) Q
theorem Kp {P : Program} {ops : Array Oper} {S : List Nat} {sj : Nat} {fpS : List Nat} {M0 Ma : List Blk} {Q : Fr → List Blk → Prop} : ∀ (l : List Oper) (fps : List (List Nat × List Nat)) (F : Fr) (M : List Blk) (b : Nat), fps.length = l.length → Lex3 P ops S sj fpS M0 Ma b l fps F M Q →
  ∃ E : List Rc, E.length = l.length ∧ Q (Fup l E F l.length) (Mup E M l.length) ∧ ∀ (k : Nat) o f, l[k]? = some o → fps[k]? = some f → ∃ pc d r, E[k]? = some r ∧ r.d = gdd o pc d ∧ Gd ops o (Fup l E F k) pc ∧ DOp P pc o (Fup l E F k) (Mup E M k) f.1 d r.wr ∧ r.wr.map (·.1) = f.2 ∧ (o.guard.isSome = true → r.wr = []) ∧
   (b + k ∈ S → (∀ x ∈ f.1, x ∈ fpS) ∧ r.wr = [] ∧ DOp P pc o (Fup l E F k) M0 f.1 d [] ∧ DOp P pc o (Fup l E F k) Ma f.1 d []) ∧ (b + k = sj → ∀ x ∈ fpS, (upd M0 r.wr)[x]? = Ma[x]?)
 | [], [], F, M, b, _, h => ⟨[], rfl, h, fun k o f hk => by simp at hk⟩
 | o :: l, (fp, wi) :: fps, F, M, b, hl, h => by
  obtain ⟨pc, d, wr, h1, h2, h3, h4, ⟨g1, g2⟩, h5⟩ := h
  obtain ⟨E, e1, e2, e3⟩ := Kp l fps _ _ (b + 1) (by simpa using hl) h5
  have fup : ∀ k, Fup (o :: l) (⟨gdd o pc d, wr⟩ :: E) F (k + 1) = Fup l E (putF o.dst (gdd o pc d) F) k := by
   intro k
   induction k with
   | zero => rfl
   | succ k ih =>
    rw [Fup]
    simp only [List.getElem?_cons_succ]
    rw [ih]
    conv => rhs; rw [Fup]
  have mup : ∀ k, Mup (⟨gdd o pc d, wr⟩ :: E) M (k + 1) = Mup E (upd M wr) k := by
   intro k
   induction k with
   | zero => rfl
   | succ k ih =>
    rw [Mup]
    simp only [List.getElem?_cons_succ]
    rw [ih]
    conv => rhs; rw [Mup]
  refine ⟨⟨gdd o pc d, wr⟩ :: E, by simp [e1], by rw [qaU, fup, mup]; exact e2, fun k p f hk hf => ?_⟩
  cases k with
  | zero =>
   simp at hk hf
   subst hk; subst hf
   exact ⟨pc, d, _, rfl, rfl, h1, h2, h3, h4, g1, g2⟩
  | succ k =>
   rw [fup, mup, show b + (k + 1) = b + 1 + k by omega]
   simpa using e3 k p f (by simpa using hk) (by simpa using hf)
 | [], _ :: _, _, _, _, hl, _ => by simp at hl
 | _ :: _, [], _, _, _, hl, _ => by simp at hl
section
variable {P : Program} {ops : Array Oper} {S : List Nat} {sj k : Nat} {fpS : List Nat} {M0 Ma : List Blk} {o : Oper} {rest : List Oper} {fp wi : List Nat} {fps : List (List Nat × List Nat)} {F : Fr} {M M1 : List Blk} {Q : Fr → List Blk → Prop} {d : D} {wr : List (Nat × Blk)} {t : Nat}
theorem Qe (hk : (S.contains k || k == sj) = false) (hg : o.guard = none) (h : DOp P true o F M fp d wr) (hw : wr.map (·.1) = wi)
  (hq : Lex3 P ops S sj fpS M0 Ma (k + 1) rest fps (putF o.dst d F) (upd M wr) Q) : Lex3 P ops S sj fpS M0 Ma k (o :: rest) ((fp, wi) :: fps) F M Q := by
 simp only [qax, beq_eq_false_iff_ne] at hk
 have hk1 : k ∉ S := fun h => by have := hk.1; simp [h] at this
 unfold Lex3
 refine ⟨true, d, wr, gd_n hg, h, hw, fun h => ?_, ⟨fun e => absurd e hk1, fun e => absurd e hk.2⟩, ?_⟩
 ·rw [hg] at h; cases h
 ·unfold gdd; rw [hg]; exact hq
theorem WB (hk : (S.contains k || k == sj) = false) (hg : o.guard = none) (hd : o.dst = some t) (h : DOp P true o F M fp d [])
  (hq : Lex3 P ops S sj fpS M0 Ma (k + 1) rest fps ((t, d) :: F) M Q) : Lex3 P ops S sj fpS M0 Ma k (o :: rest) ((fp, []) :: fps) F M Q := Qe hk hg h rfl (by rw [hd]; exact hq)
theorem H6 (hk : (S.contains k || k == sj) = false) (hg : o.guard = none) (hd : o.dst = some t) (h : DOp P true o F M fp d wr) (hw : wr.map (·.1) = wi) (hM : upd M wr = M1)
  (hq : Lex3 P ops S sj fpS M0 Ma (k + 1) rest fps ((t, d) :: F) M1 Q) : Lex3 P ops S sj fpS M0 Ma k (o :: rest) ((fp, wi) :: fps) F M Q := Qe hk hg h hw (by rw [hd, hM]; exact hq)
theorem H7 (hk : (S.contains k && !(k == sj)) = true) (hf : (fp.all fun x => fpS.contains x) = true) (hg : o.guard = none) (hd : o.dst = some t) (h : DOp P true o F M fp d []) (h0 : DOp P true o F M0 fp d []) (h' : DOp P true o F Ma fp d [])
  (hq : Lex3 P ops S sj fpS M0 Ma (k + 1) rest fps ((t, d) :: F) M Q) : Lex3 P ops S sj fpS M0 Ma k (o :: rest) ((fp, []) :: fps) F M Q := by
 simp only [qav, qaz, beq_eq_false_iff_ne] at hk
 unfold Lex3
 refine ⟨true, d, [], gd_n hg, h, rfl, fun _ => rfl, ⟨fun _ => ⟨fun x hx => by simpa using qaV.1 hf x hx, rfl, h0, h'⟩, fun e => absurd e hk.2⟩, ?_⟩
 unfold gdd; rw [hg, hd]; exact hq
theorem H8 (hk : (k == sj && !(S.contains k)) = true) (hg : o.guard = none) (hd : o.dst = some t) (h : DOp P true o F M fp d wr) (hw : wr.map (·.1) = wi) (hM : upd M wr = M1) (hM' : ∀ x ∈ fpS, (upd M0 wr)[x]? = Ma[x]?)
  (hq : Lex3 P ops S sj fpS M0 Ma (k + 1) rest fps ((t, d) :: F) M1 Q) : Lex3 P ops S sj fpS M0 Ma k (o :: rest) ((fp, wi) :: fps) F M Q := by
 simp only [qav, qaz, beq_iff_eq] at hk
 have hk1 : k ∉ S := fun h => by have := hk.2; simp [h] at this
 unfold Lex3
 refine ⟨true, d, wr, gd_n hg, h, hw, fun h => ?_, ⟨fun e => absurd e hk1, fun _ => hM'⟩, ?_⟩
 ·rw [hg] at h; cases h
 ·unfold gdd; rw [hg, hd, hM]; exact hq
theorem WC (h : Q F M) : Lex3 P ops S sj fpS M0 Ma k [] [] F M Q := h
end
theorem Vb {P : Program} {s0 : St} {n : Cx} {id : Nat} {l : List Oper} {F : Fr} {M : List Blk} {K : Cont} (S : List Nat) (sj : Nat) (fpS : List Nat) (Ma : List Blk) (fps : List (List Nat × List Nat)) (hMaB : Ma.length = M.length) (hm : P.follows .mixedOrders = true) (hB : Qd S sj fpS n.n l fps = true) (h : Lex3 P l.toArray S sj fpS M Ma 0 l fps F M (fun F M => K .normal F M)) :
  dwp P s0 n (.region id l.toArray true) F M K := by
 intro a w hi
 refine wpIn_region_any hm ?_
 simp only [Qd, qav, beq_iff_eq, qaV, List.mem_range] at hB
 obtain ⟨⟨⟨hlen, hB⟩, hmid0⟩, hsj⟩ := hB
 have hsj := Nat.blt_eq.mp hsj
 obtain ⟨E, e1, e2, e3'⟩ := Kp l fps F M 0 hlen h
 have e3 : ∀ (k : Nat) o f, l[k]? = some o → fps[k]? = some f → ∃ pc d r, E[k]? = some r ∧ r.d = gdd o pc d ∧ Gd l.toArray o (Fup l E F k) pc ∧ DOp P pc o (Fup l E F k) (Mup E M k) f.1 d r.wr ∧ r.wr.map (·.1) = f.2 ∧ (o.guard.isSome = true → r.wr = []) := fun k o f h1 h2 => by
  obtain ⟨pc, d, r, q1, q2, q3, q4, q5, q6, _⟩ := e3' k o f h1 h2
  exact ⟨pc, d, r, q1, q2, q3, q4, q5, q6⟩
 have at_ : ∀ k, k < l.length → ∃ o f, l[k]? = some o ∧ fps[k]? = some f := fun k hk => ⟨l[k], fps[k], qat hk, qat (by omega)⟩
 have hone : ∀ (j : Nat) o f, l[j]? = some o → fps[j]? = some f → (∀ e ∈ o.after.toList, Region.binds .any e = true → e.on < j) ∧ KU n.n o.dst = true ∧ gq o.op = true ∧ (∀ x ∈ f.2, x ∈ f.1) ∧ ∀ (i : Nat) oi fi, i < j → l[i]? = some oi → fps[i]? = some fi → gu l i j = true ∨ (gS oi.dst.toList (j7 l.toArray o) = false ∧ gS (j7 l.toArray oi) o.dst.toList = false ∧ (gS fi.2 f.1 = false ∨ (i = sj ∧ j ∈ S)) ∧ (gS fi.1 f.2 = false ∨ (i ∈ S ∧ j = sj))) := by
  intro j o f ho hf
  have hj : j < l.length := (qas.1 ho).1
  have h1 := hB j hj
  rw [ho, hf] at h1
  simp only [qav, qaV, List.mem_range] at h1
  obtain ⟨⟨⟨⟨h1, h2⟩, hnd⟩, h3⟩, h4⟩ := h1
  refine ⟨fun e he hb => ?_, h2, hnd, fun x hx => by simpa using h3 x hx, fun i oi fi hij hoi hfi => ?_⟩
  ·have := Array.all_eq_true_iff_forall_mem.1 h1 e (by simpa using he)
   rw [hb] at this
   exact Nat.blt_eq.mp (by simpa using this)
  ·have h5 := h4 i hij
   rw [hoi, hfi] at h5
   simp only [Qc, qaB, qaz, qax, Bool.and_eq_false_iff, qaA, qav, beq_iff_eq, List.contains_iff_mem] at h5
   rcases h5 with h5 | ⟨⟨⟨q1, q2⟩, q3⟩, q4⟩
   ·exact .inl h5
   ·exact .inr ⟨q1, q2, q3, q4⟩
 have meet_no : ∀ {x : List Nat} {y : List Nat} {t : Nat}, gS x y = false → t ∈ x → t ∈ y → False := by
  intro x y t hm hx hy
  simp only [gS, List.any_eq_false] at hm
  exact hm t hx (by simpa using hy)
 have hM0 : ∃ s : St, s.M = M := by obtain ⟨_, s, h1, _⟩ := hi; exact ⟨s, h1⟩
 have main : ∀ (f : Nat) (listed : Array Bool) (b : Act) (s : St), Ok s0 → listed.size = l.length → unl listed l.length = f → Tr s0 s →
   (∀ t d, lkS l E F (fun k => listed.getD k false) t l.length = some d → Rep s d (jh b t)) → s.M.length = M.length → (∀ i, i < M.length → s.M[i]? = ya E M (fun k => listed.getD k false) i l.length) →
   b.tmps.size = n.n → DfOk s0 s n.mks n.U b.defers → (∀ j i, listed.getD j false = true → j < l.length → gu l i j = true → listed.getD i false = true) →
   wpAnyIn (wd (n.ρ s0)) 0 P .any l.toArray (PostK s0 n K) f listed b s.w := by
  intro f
  induction f with
  | zero =>
   intro listed b s h0 hs hu ht hF hMl hM hn hd _
   have hall := v6 _ hu
   refine ⟨?_, ?_⟩
   ·cases hr : Region.ready .any l.toArray listed with
    | nil => rfl
    | cons i r =>
     have hi : i ∈ Region.ready .any l.toArray listed := by rw [hr]; exact qa6 ..
     obtain ⟨h1, o, h2, _⟩ := mem_ready.1 hi
     have hil : i < l.length := by simpa using (Array.getElem?_eq_some_iff.1 h2).1
     rw [yQ hs hil, hall i hil] at h1
     cases h1
   ·refine ⟨_, _, ⟨h0, s, ?_, rfl, ht, ?_, hn, hd⟩, e2⟩
    ·refine qbi fun i => ?_
     by_cases hi : i < M.length
     ·rw [hM i hi, wP i hi]
      exact jv _ fun j r hj _ _ => hall j hj
     ·rw [qa4 (by omega), qa4 (by rw [Mup_len]; omega)]
    ·intro t d hd'
     rw [wO] at hd'
     refine hF t d ?_
     rw [← hd']
     exact jQ _ fun j o hj _ _ => hall j hj
  | succ f ih =>
   intro listed b s h0 hs hu ht hF hMl hM hn hd hcl
   refine ⟨fun hnone => ?_, fun i hi => ?_⟩
   ·exfalso
    obtain ⟨i, h1, h2, h3⟩ := uq l.length (listed := listed) (by omega)
    obtain ⟨o, fi, ho, hfi⟩ := at_ i h1
    obtain ⟨g1, _⟩ := hone i o fi ho hfi
    have : i ∈ Region.ready .any l.toArray listed := mem_ready.2 ⟨by rw [yQ hs h1]; exact h2, o, by simpa using ho, fun e he hb => h3 _ (g1 e (by simpa using he) hb)⟩
    rw [hnone] at this
    cases this
   ·obtain ⟨hun, o, ho, hall⟩ := mem_ready.1 hi
    have ho' : l[i]? = some o := by simpa using ho
    have hil : i < l.length := (qas.1 ho').1
    rw [yQ hs hil] at hun
    obtain ⟨fi, hfi⟩ : ∃ fi, fps[i]? = some fi := ⟨fps[i], qat (by omega)⟩
    obtain ⟨pc, d, r, hr, hrd, hg, hop, hwi, hgw, hsoft, _⟩ := e3' i o fi ho' hfi
    rw [qau] at hsoft
    obtain ⟨g1, g2, hnd, g3, g4⟩ := hone i o fi ho' hfi
    have done : ∀ j, gu l j i = true → listed.getD j false = true := by
     intro j hj
     obtain ⟨e, he, hb, hcase⟩ := wN ho' hj
     have h1 := hall e (by simpa using he) hb
     rcases hcase with rfl | ⟨h2, h3⟩
     ·exact h1
     ·exact hcl e.on j h1 (by omega) h3
    have undone : ∀ j, j < l.length → gu l i j = true → listed.getD j false = false := by
     intro j hj h1
     cases e : listed.getD j false with
     | false => rfl
     | true => rw [hcl j i e hj h1] at hun; cases hun
    have tset : ∀ t, t ∈ j7 l.toArray o → lkS l E F (fun k => listed.getD k false) t l.length = lkS l E F (fun _ => true) t i := by
     intro t ht
     rw [gZ i l.length (by omega) fun j oj h1 h2 hj hjd => ?_]
     ·refine jQ i fun j oj hj hoj hjd => ?_
      obtain ⟨fj, hfj⟩ : ∃ fj, fps[j]? = some fj := ⟨fps[j], qat (by omega)⟩
      rcases g4 j oj fj hj hoj hfj with h1 | h1
      ·exact done j h1
      ·exact (meet_no h1.1 (by simp [hjd]) ht).elim
     ·by_cases e : j = i
      ·subst e; exact hun
      ·obtain ⟨fj, hfj⟩ : ∃ fj, fps[j]? = some fj := ⟨fps[j], qat (by omega)⟩
       rcases (hone j oj fj hj hfj).2.2.2.2 i o fi (by omega) ho' hfi with h3 | h3
       ·exact undone j h2 h3
       ·exact (meet_no h3.2.1 ht (by simp [hjd])).elim
    have wmem0 : ∀ x, x ∈ fi.1 → ∀ (j : Nat) rj fj, E[j]? = some rj → fps[j]? = some fj → j < l.length → (vq rj.wr x).isSome = true → x ∈ fj.2 := by
     intro x _ j rj fj hrj hfj hj hw
     obtain ⟨oj, _, hoj, _⟩ := at_ j hj
     obtain ⟨_, _, r', hr', _, _, _, hw', _⟩ := e3 j oj fj hoj hfj
     rw [hrj] at hr'
     obtain rfl := qay hr'
     rw [← hw']
     refine Classical.byContradiction fun hno => ?_
     rw [jA _ _ hno] at hw
     cases hw
    have msetS : i ∈ S → ∀ x, x ∈ fi.1 → x < M.length → ya E M (fun k => listed.getD k false) x l.length = if listed.getD sj false = true then Ma[x]? else M[x]? := by
     intro hiS x hx hxl
     obtain ⟨hsub, hwr, _, _⟩ := hsoft hiS
     have hxS := hsub x hx
     have hoth : ∀ (j : Nat) rj, j ≠ sj → j < l.length → E[j]? = some rj → (vq rj.wr x).isSome = true → sj < j ∧ listed.getD j false = false := by
      intro j rj hne hjl hrj hw
      obtain ⟨oj, fj, hoj, hfj⟩ := at_ j hjl
      have hxw := wmem0 x hx j rj fj hrj hfj hjl hw
      have h7 := hmid0 j hjl
      rw [hfj] at h7
      simp only [qaB, qaz, qav, beq_iff_eq, qaV] at h7
      rcases h7 with (h7 | h7) | ⟨⟨h7, h8⟩, h9⟩
      ·exact absurd h7 hne
      ·exact (meet_no h7 hxw hxS).elim
      ·exact ⟨Nat.blt_eq.mp h7, undone j hjl (h9 i hiS)⟩
     by_cases hl : listed.getD sj false = true
     ·rw [if_pos hl, jB (sj + 1) l.length (by omega) fun j rj h1 h2 hrj hw => (hoth j rj (by omega) h2 hrj hw).2]
      obtain ⟨oj, fj, hoj, hfj⟩ := at_ sj hsj
      obtain ⟨_, _, rj, hrj, _, _, _, _, _, _, hj⟩ := e3' sj oj fj hoj hfj
      have hj := hj (qau _) x hxS
      have hlow : ya E M (fun k => listed.getD k false) x sj = M[x]? := by
       rw [jB 0 sj (by omega) fun j r' h1 h2 hr' hw => absurd (hoth j r' (by omega) (by omega) hr' hw).1 (by omega)]
       rfl
      unfold ya
      rw [hrj]
      simp only
      rw [if_pos hl, hlow]
      rw [← ww _ _ _ hxl]; exact hj
     ·rw [if_neg hl, jB 0 l.length (by omega) fun j rj h1 h2 hrj hw => by
       by_cases e : j = sj
       ·subst e; simpa using hl
       ·exact (hoth j rj e h2 hrj hw).2]
      rfl
    have mset : i ∉ S → ∀ x, x ∈ fi.1 → ya E M (fun k => listed.getD k false) x l.length = ya E M (fun _ => true) x i := by
     intro hsf x hx
     have wmem : ∀ (j : Nat) rj fj, E[j]? = some rj → fps[j]? = some fj → j < l.length → (vq rj.wr x).isSome = true → x ∈ fj.2 := by
      intro j rj fj hrj hfj hj hw
      obtain ⟨oj, _, hoj, _⟩ := at_ j hj
      obtain ⟨_, _, r', hr', _, _, _, hw', _⟩ := e3 j oj fj hoj hfj
      rw [hrj] at hr'
      obtain rfl := qay hr'
      rw [← hw']
      refine Classical.byContradiction fun hno => ?_
      rw [jA _ _ hno] at hw
      cases hw
     rw [jB i l.length (by omega) fun j rj h1 h2 hrj hw => ?_]
     ·refine jv i fun j rj hj hrj hw => ?_
      obtain ⟨oj, fj, hoj, hfj⟩ := at_ j (by omega)
      rcases g4 j oj fj hj hoj hfj with h1 | h1
      ·exact done j h1
      ·rcases h1.2.2.1 with h1 | h1
       ·exact (meet_no h1 (wmem j rj fj hrj hfj (by omega) hw) hx).elim
       ·exact absurd h1.2 hsf
     ·by_cases e : j = i
      ·subst e; exact hun
      ·obtain ⟨oj, fj, hoj, hfj⟩ := at_ j (by omega)
       rcases (hone j oj fj hoj hfj).2.2.2.2 i o fi (by omega) ho' hfi with h3 | h3
       ·exact undone j h2 h3
       ·rcases h3.2.2.2 with h4 | h4
        ·exact (meet_no h4 hx (wmem j rj fj hrj hfj h2 hw)).elim
        ·exact absurd h4.1 hsf
    have hslot : ∀ t d, t ∈ o.looksAt l.toArray → lk (Fup l E F i) t = some d → Rep s d (jh b t) := by
     intro t d' ht hd'
     refine hF t d' ?_
     rw [tset t (List.mem_append_left _ ht), ← wO]
     exact hd'
    have next : ∀ (s' : St) (v : Value), Tr s s' → s'.M = upd s.M r.wr → Rep s' r.d v → wpAnyIn (wd (n.ρ s0)) 0 P .any l.toArray (PostK s0 n K) f (listed.setIfInBounds i true) (b.put o.dst v) s'.w := by
     intro s' v ht' hM' hrep
     have hset : ∀ k, (listed.setIfInBounds i true).getD k false = if i = k then true else listed.getD k false := fun k => ur _ _ _ (by rw [hs]; exact hil)
     refine ih _ _ s' h0 (by simp [hs]) ?_ (ht.trans ht') ?_ (by rw [hM', wu, hMl]) ?_ (by rw [jX]; exact hn) (by rw [yk]; exact hd.mono ht.ok ht') ?_
     ·have := xH (by rw [hs]; exact hil) hun l.length
      rw [if_pos hil] at this
      omega
     ·intro t d' hd'
      by_cases htd : o.dst = some t
      ·have e : lkS l E F (fun k => (listed.setIfInBounds i true).getD k false) t l.length = some r.d := by
        rw [gZ (i + 1) l.length (by omega) fun j oj h1 h2 hj hjd => ?_]
        ·unfold lkS
         rw [ho', hr]
         simp only
         rw [if_pos ⟨by rw [hset, if_pos rfl], htd⟩]
        ·rw [hset, if_neg (by omega)]
         obtain ⟨fj, hfj⟩ : ∃ fj, fps[j]? = some fj := ⟨fps[j], qat (by omega)⟩
         rcases (hone j oj fj hj hfj).2.2.2.2 i o fi (by omega) ho' hfi with h3 | h3
         ·exact undone j h2 h3
         ·exact (meet_no (t := t) h3.2.1 (List.mem_append_right _ (by simp [htd])) (by simp [hjd])).elim
       rw [e] at hd'
       obtain rfl := qay hd'
       have hsz : t < b.tmps.size := by
        rw [htd] at g2
        rw [hn]
        exact Nat.blt_eq.mp g2
       rw [htd, yB, if_pos ⟨rfl, hsz⟩]
       exact hrep
      ·have e : jh (b.put o.dst v) t = jh b t := by
        cases hod : o.dst with
        | none => rfl
        | some x => rw [yB, if_neg (fun q => htd (by rw [hod, q.1]))]
       rw [e]
       refine (hF t d' ?_).mono ht.ok ht'
       rw [← hd']
       refine jQ _ fun j oj hj hoj hjd => ?_
       rw [hset]
       by_cases ej : i = j
       ·subst ej
        rw [ho'] at hoj
        obtain rfl := qay hoj
        exact absurd hjd htd
       ·rw [if_neg ej]
     ·intro x hx
      rw [hM', ww _ _ _ (by omega), hM x hx]
      cases hw : vq r.wr x with
      | none =>
       rw [Option.none_or]
       refine jv _ fun j rj hj hrj hwj => ?_
       rw [hset]
       by_cases ej : i = j
       ·subst ej
        rw [hr] at hrj
        obtain rfl := qay hrj
        rw [hw] at hwj; cases hwj
       ·rw [if_neg ej]
      | some k =>
       rw [Option.some_or]
       have hxw : x ∈ fi.2 := by
        rw [← hwi]
        refine Classical.byContradiction fun hno => ?_
        rw [jA _ _ hno] at hw
        cases hw
       rw [jB (i + 1) l.length (by omega) fun j rj h1 h2 hrj hwj => ?_]
       ·unfold ya
        rw [hr]
        simp only
        rw [if_pos (by rw [hset, if_pos rfl]), hw, Option.some_or]
       ·rw [hset, if_neg (by omega)]
        obtain ⟨oj, fj, hoj, hfj⟩ := at_ j (by omega)
        rcases (hone j oj fj hoj hfj).2.2.2.2 i o fi (by omega) ho' hfi with h3 | h3
        ·exact undone j h2 h3
        ·rcases h3.2.2.2 with h4 | h4
         rotate_left
         ·rw [← hwi, (hsoft h4.1).2.1] at hxw
          cases hxw
         refine (meet_no h4 (g3 x hxw) ?_).elim
         obtain ⟨_, _, r', hr', _, _, _, hw', _⟩ := e3 j oj fj hoj hfj
         rw [hrj] at hr'
         obtain rfl := qay hr'
         rw [← hw']
         refine Classical.byContradiction fun hno => ?_
         rw [jA _ _ hno] at hwj
         cases hwj
     ·intro j k hj hjl hk
      rw [hset] at hj ⊢
      by_cases e : i = k
      ·rw [if_pos e]
      ·rw [if_neg e]
       by_cases ej : i = j
       ·subst ej; exact done k hk
       ·rw [if_neg ej] at hj
        exact hcl j k hj hjl hk
    unfold wpOpIn
    rw [ho]
    simp only
    rw [wv hg hslot]
    cases pc with
    | true =>
     rw [if_pos rfl]
     have hlook : ∀ x ∈ o.op.operands, ∀ d', ev (Fup l E F i) x = some d' → Rep s d' (b.eval x) := fun x hx d' hd' => by
      cases x with
      | tmp t => exact hslot t d' (List.mem_append_left _ (List.mem_filterMap.2 ⟨.tmp t, by simpa using hx, rfl⟩)) hd'
      | const v => obtain rfl := qay hd'; exact .val v
      | func g => obtain rfl := qay hd'; exact Rep.fn (vs := []) (us := []) rfl rfl (fun j d v h => by simp at h) (fun j d v h => by simp at h)
      | global g => obtain rfl := qay hd'; exact .val _
     have hgive : DGives P s (fun s' v => s'.M = upd s.M r.wr ∧ Rep s' d v) ((execOp b.eval o).run P s.w) := by
      by_cases hsf : i ∈ S
      ·obtain ⟨_, hwr, hop1, hop2⟩ := hsoft hsf
       rw [hwr]
       by_cases hl : listed.getD sj false = true
       ·refine hop2 rfl b s ht.ok hlook fun x hx => ?_
        by_cases hxl : x < M.length
        ·rw [hM x hxl, msetS hsf x hx hxl, if_pos hl]
        ·rw [qa4 (by omega), qa4 (by rw [hMaB]; omega)]
       ·refine hop1 rfl b s ht.ok hlook fun x hx => ?_
        by_cases hxl : x < M.length
        ·rw [hM x hxl, msetS hsf x hx hxl, if_neg hl]
        ·rw [qa4 (by omega), qa4 (by omega)]
      ·refine hop rfl b s ht.ok hlook fun x hx => ?_
       by_cases hxl : x < M.length
       ·rw [hM x hxl, wP x hxl, mset hsf x hx]
       ·rw [qa4 (by omega), qa4 (by rw [Mup_len]; omega)]
     refine vb hnd hgive fun s' v ht' ⟨q1, q2⟩ => next s' v ht' q1 ?_
     ·rw [hrd]
      unfold gdd
      split
      ·exact q2
      ·exact .opt (fun _ => q2) (fun h => by cases h)
    | false =>
     rw [if_neg (by simp)]
     have hgs : o.guard.isSome = true := by
      unfold Gd at hg
      cases e : o.guard with
      | none => rw [e] at hg; cases hg
      | some x => rfl
     refine ⟨fun _ _ => trivial, next s undef (Tr.refl ht.ok) (by rw [hgw hgs]; rfl) ?_⟩
     rw [hrd]
     unfold gdd
     split
     ·rename_i e; rw [e] at hgs; cases hgs
     ·exact .opt (fun h => by cases h) (fun _ => rfl)
 obtain ⟨h0, s, h1, h2, h3, h4, h5, h6⟩ := hi
 subst h1 h2
 have hst := wq h3.ok { s.w with drawn := s.w.drawn + 1 } rfl rfl rfl rfl
 have hno : ∀ k, (qa7 l.toArray.size false).getD k false = false := fun k => by
  simp only [Array.getD_eq_getD_getElem?, Array.getElem?_replicate]
  split <;> rfl
 have := main l.length (qa7 l.toArray.size false) a ⟨s.β, s.I, s.M, { s.w with drawn := s.w.drawn + 1 }⟩ h0 (by simp) (by
   have := wy l.toArray.size l.length (by simp)
   exact this) (h3.trans hst) (fun t d hd => ?_) rfl (fun i hi => ?_) h5 (h6.mono h3.ok hst) (fun j i hj => by rw [hno] at hj; cases hj)
 ·simpa using this
 ·rw [gZ 0 l.length (by omega) fun j o _ _ _ _ => hno j] at hd
  exact (h4 t d hd).mono h3.ok hst
 ·rw [jB 0 l.length (by omega) fun j r _ _ _ _ => hno j]
  rfl
end Go.Proofs.YtofklkbfkoliiaaGreat
namespace Go.Proofs.YtofklkbfkoliiaaGreat
set_option linter.unusedVariables false
set_option linter.unusedSimpArgs false
open Go.RowKit
section
variable {P : Program} {pc : Bool} {o : Oper} {F : Fr} {M : List Blk}
end
section
variable {P : Program} {s0 : St} {n : Cx}
end
section
variable {P : Program} {pc : Bool} {o : Oper} {F : Fr} {M : List Blk}
theorem Gc : ∀ {l : List D} (k : Nat), D.nlL l = true → D.nlL (l.take k) = true
 | _, 0, _ => by simp [D.nlL]
 | [], _ + 1, _ => rfl
 | d :: l, k + 1, h => by
  rw [D.nlL, qav] at h
  rw [List.take_succ_cons, D.nlL, h.1, Gc k h.2]
  rfl
theorem vD {α β : Type} {en : α → List β} {sz : Nat} (hen : ∀ a, (en a).length = sz) : ∀ (l : List α) (k : Nat), (l.flatMap en).drop (k * sz) = (l.drop k).flatMap en
 | l, 0 => by simp
 | [], k + 1 => by simp
 | a :: l, k + 1 => by
  rw [qaL, List.drop_succ_cons, ← vD hen l k, qbj, Nat.add_comm (k * sz), ← List.drop_drop, List.drop_left' (hen a)]
theorem zo {α β : Type} {en : α → List β} {sz : Nat} (hen : ∀ a, (en a).length = sz) : ∀ (l : List α) (k : Nat), (l.flatMap en).take (k * sz) = (l.take k).flatMap en
 | l, 0 => by simp
 | [], k + 1 => by simp
 | a :: l, k + 1 => by
  rw [qaL, List.take_succ_cons, qaL, ← zo hen l k, qbj, Nat.add_comm (k * sz), List.take_add, List.take_left' (hen a), List.drop_left' (hen a)]
theorem wc {α : Type} {mk : α → D} {l : List α} {j : Nat} (h : j < l.length) : (l.flatMap fun a => [mk a])[j]? = some (mk l[j]) := by
 have e : ∀ l : List α, (l.flatMap fun a => [mk a]) = l.map mk := fun l => by
  induction l with
  | nil => rfl
  | cons a l ih => rw [qaL, List.map_cons, ih]; rfl
 rw [e, qbb, qat h]; rfl
end
end Go.Proofs.YtofklkbfkoliiaaGreat
namespace Go.Proofs.YtofklkbfkoliiaaGreat
set_option linter.unusedVariables false
set_option linter.unusedSimpArgs false
open Go.RowKit
section
variable {P : Program} {pc : Bool} {o : Oper} {F : Fr} {M : List Blk}
theorem Kq {s : St} (hok : Ok s) {i : Nat} {T' : TypeId} {sz n n' c b : Nat} {l : List D} (h1 : s.M[i]? = some (.arx T' sz n l)) (h2 : s.β[i]? = some (.slice (some ⟨b, 0, none⟩) n' c)) : n' = n ∧ l.length = n * sz ∧ n ≤ c ∧ c ≤ maxLen ∧ ∃ vs : List Value, vs.length = l.length ∧ qW s.w b 0 vs ∧ ∀ (j : Nat) d v, l[j]? = some d → vs[j]? = some v → Rep s d v := by
 obtain ⟨vs, hk, q3, q4⟩ := hok.blk i _ _ h1 h2
 rcases hk.2 with ⟨e1, e2⟩ | ⟨g, cap, cur, e1, e2, e3, e4, e5, e6, e7⟩
 ·cases e1
 ·cases e1
  have hc0 := qK (qd e3 0) 0 (n * sz)
  exact ⟨rfl, by rw [← q3]; exact hk.1, e4, e5, vs, q3, by simpa [e7] using hc0, q4⟩
theorem wz {T T' : TypeId} {x : Operand} {q : TypeId × Nat × Nat} {i sz n : Nat} {l : List D} (ho : o.op = .call { callee := .builtin .len, args := #[x], argTypes := #[T] }) (hT : slE P T = some q) (hx : Ev pc F x (.arr i)) (hM : M[i]? = some (.arx T' sz n l)) : DOp P pc o F M [i] (.val (.int .i64 n)) [] := by
 intro hp a s hok hops hfp
 obtain ⟨e1, _⟩ := kM hT
 have hr := qq hp hx (by simp [ho, Op.operands, Call.operands]) hops
 generalize hv : a.eval x = vx at hr
 cases hr with
 | arr h =>
  have hM' : s.M[i]? = some (.arx T' sz n l) := by rw [hfp i (by simp)]; exact hM
  obtain ⟨vs, hk, _⟩ := hok.blk i _ _ hM' h
  refine qN hok (kP ho (fun cs => rfl) ?_) (.val (.int .i64 n))
  rcases hk.2 with ⟨e2, e3⟩ | ⟨g, cap, cur, e2, _⟩
  ·cases e2; simp [Builtin.len_, hv, run_underlying e1, goInt, e3]
  ·cases e2; simp [Builtin.len_, hv, run_underlying e1, goInt]
theorem vE {T T' e : TypeId} {x y : Operand} {i sz by' n : Nat} {l : List D} {k : IntKind} {z : Int} (j : Nat) (ho : o.op = .indexAddr T x y) (hT : slE P T = some (e, sz, by')) (hx : Ev pc F x (.arr i)) (hy : Ev pc F y (.val (.int k z))) (hM : M[i]? = some (.arx T' sz n l)) (hz : pc = true → z = (j : Int)) (hj : pc = true → j < n) : DOp P pc o F M [i] (.aloc i (j * sz)) [] := by
 intro hp a s hok hops hfp
 have hr := qq hp hx (by simp [ho, Op.operands]) hops
 have h2 := (qq hp hy (by simp [ho, Op.operands]) hops).val_eq
 have hz := hz hp
 have hj := hj hp
 subst hz
 generalize hv : a.eval x = vx at hr
 cases hr with
 | @arr _ ad n' c hb =>
  have hM' : s.M[i]? = some (.arx T' sz n l) := by rw [hfp i (by simp)]; exact hM
  obtain ⟨vs, hk, _⟩ := hok.blk i _ _ hM' hb
  rcases hk.2 with ⟨e1, e2⟩ | ⟨g, cap, cur, e1, e2, e3, e4, e5, e6, e7⟩
  ·exfalso; omega
  ·cases e1
   refine qN hok (j9 ho hT hv h2 (by omega) (by omega)) ?_
   rw [Addr.add_mid, qau, qbe]
   exact .aloc hb
theorem Ys {T T' : TypeId} {x : Operand} {i p k sz n : Nat} {l : List D} {d : D} (ho : o.op = .load T x) (hT : tyB P T = some (false, k)) (hx : Ev pc F x (.aloc i p)) (hM : M[i]? = some (.arx T' sz n l)) (hR : l[p]? = some d) : DOp P pc o F M [i] d [] := by
 intro hp a s hok hops hfp
 have hr := qq hp hx (by simp [ho, Op.operands]) hops
 generalize hv : a.eval x = vx at hr
 cases hr with
 | @aloc _ _ n' c b h =>
  obtain ⟨_, hl, _, _, vs, q3, hc, q4⟩ := Kq hok (by rw [hfp i (by simp)]; exact hM) h
  have hpl : p < l.length := (qas.1 hR).1
  have hv' : vs[p]? = some vs[p] := qat (by omega)
  exact qN hok (j8 ho hT hv (by simpa using hc p _ hv')) (q4 p d _ hR hv')
end
end Go.Proofs.YtofklkbfkoliiaaGreat
namespace Go.Proofs.YtofklkbfkoliiaaGreat
set_option linter.unusedVariables false
set_option linter.unusedSimpArgs false
open Go.RowKit
theorem Ja {s : St} (ho : Ok s) {j g : Nat} {k : Blk} {h : Value} (hM : s.M[j]? = some k) (hl : k.live = true) (hh : s.β[j]? = some h) (hbb : hb h = some g) (w' : World)
  (hkeep : ∀ b, b ≠ g → w'.heap[b]? = s.w.heap[b]?) (hsz : w'.heap.size = s.w.heap.size) (hos : w'.os = s.w.os) (htape : w'.tape = s.w.tape) (hout : w'.output = s.w.output) :
  Tr s ⟨s.β, fun b => s.I b ∨ b = g, s.M.set j .gone, w'⟩ := by
 have hnd : ∀ (i : Nat) h, s.β[i]? = some h → h ≠ .nilFunc → s.β[i]? = some h := fun _ _ h _ => h
 replace hbb : jb k h g := Y0 (ho.blk j k h hM hh) hbb
 have hlg : Live s g := qk hM hl hh hbb
 have hg := ho.lt g hlg
 have imm : ∀ b, s.I b → w'.heap[b]? = s.w.heap[b]? := fun b hI => hkeep b fun e => by subst e; exact hg.2 hI
 have old : ∀ (i : Nat) k', (s.M.set j .gone)[i]? = some k' → k'.live = true → i ≠ j ∧ s.M[i]? = some k' := by
  intro i k' h1 h2
  by_cases e : i = j
  ·subst e
   rw [qaI (by have := (qas.1 hM).1; exact this)] at h1
   cases h1; cases h2
  ·rw [qaG (Ne.symm e)] at h1
   exact ⟨e, h1⟩
 have ne : ∀ (i : Nat) k' h' b, i ≠ j → s.M[i]? = some k' → k'.live = true → s.β[i]? = some h' → jb k' h' b → b ≠ g := by
  intro i k' h' b e h1 h2 h3 h4 e2
  subst e2
  exact e (ho.inj i j k' k h' h b h1 h2 h3 h4 hM hl hh hbb)
 have lv : ∀ b, Live ⟨s.β, fun b => s.I b ∨ b = g, s.M.set j .gone, w'⟩ b → Live s b ∧ b ≠ g := by
  rintro b ⟨i, k', h', h1, h2, h3, h4⟩
  obtain ⟨e, a⟩ := old i k' h1 h2
  exact ⟨qk a h2 h3 h4, ne i k' h' b e a h2 h3 h4⟩
 refine ⟨⟨by simp [ho.len], fun i k' h' h1 h2 => ?_, fun b hb => ?_, ?_, fun b hI => ?_⟩, jy hnd, fun _ h => .inl h, fun b h => ?_, fun b hb hn => hkeep b fun e => by subst e; exact hn hlg, fun b h => .inr (lv b h).1, hos, htape, hout, by simp [hsz]⟩
 ·cases hk : k'.live with
  | false =>
   cases k' with
   | gone => trivial
   | hole =>
    by_cases e : i = j
    ·subst e
     rw [qaI (by have := (qas.1 hM).1; exact this)] at h1
     cases h1
    ·rw [qaG (Ne.symm e)] at h1
     exact ho.blk i _ h' h1 h2
   | _ => cases hk
  | true =>
   obtain ⟨e, a⟩ := old i k' h1 hk
   exact BlkOk.mono (s := s) (s' := ⟨s.β, fun b => s.I b ∨ b = g, s.M.set j .gone, w'⟩) hnd (fun _ h => .inl h) imm (ho.blk i k' h' a h2) fun b hl' hb' => hkeep b (ne i k' h' b e a hl' h2 hb')
 ·obtain ⟨h1, h2⟩ := lv b hb
  obtain ⟨h3, h4⟩ := ho.lt b h1
  exact ⟨by show b < w'.heap.size; omega, fun h => h.elim h4 h2⟩
 ·intro i i2 k1 k2 h1 h2 b a1 a2 a3 a4 c1 c2 c3 c4
  obtain ⟨_, a1⟩ := old i k1 a1 a2
  obtain ⟨_, c1⟩ := old i2 k2 c1 c2
  exact ho.inj i i2 k1 k2 h1 h2 b a1 a2 a3 a4 c1 c2 c3 c4
 ·show b < w'.heap.size
  rcases hI with h | h
  ·have := ho.il b h; omega
  ·omega
 ·rcases h with h | h
  ·exact .inl h
  ·subst h; exact .inr (.inr hlg)
section
variable {P : Program} {pc : Bool} {o : Oper} {F : Fr} {M : List Blk} {T e : TypeId} {by' : Nat} {x y : Operand}
theorem DOp.cast {d d' : D} {fp : List Nat} {wr : List (Nat × Blk)} (h : DOp P pc o F M fp d wr) (e : d = d') : DOp P pc o F M fp d' wr := e ▸ h
theorem Qf (n : Nat) {k k' : IntKind} {z z' : Int} (z0 : Value) (ho : o.op = .makeSlice T x y) (hT : slE P T = some (e, 1, by')) (hZ : zrC P e = some [z0]) (hx : Ev pc F x (.val (.int k z))) (hy : Ev pc F y (.val (.int k' z'))) (hz : pc = true → z = (n : Int)) (hz' : pc = true → z' = (n : Int)) (hb : pc = true → by' * n ≤ 281474976710656 ∧ n ≤ 9223372036854775807) :
  DOp P pc o F M [] (.slf 1 n (qaJ n z0)) [] := by
 intro hp a s hok hops hfp
 obtain ⟨e1, ti, e2, e3, e4⟩ := kM hT
 obtain ⟨ti', zv, q1, q2, q3⟩ := jE hZ
 rw [e2] at q1
 obtain rfl := qay q1
 have h1 := (qq hp hx (by simp [ho, Op.operands]) hops).val_eq
 have h2 := (qq hp hy (by simp [ho, Op.operands]) hops).val_eq
 rw [hz hp] at h1
 rw [hz' hp] at h2
 obtain ⟨b1, b2⟩ := hb hp
 have hb3 : (ti.bytes : Int) * (n : Int) ≤ 281474976710656 := by
  have h : ((ti.bytes * n : Nat) : Int) ≤ 281474976710656 := by rw [e4]; omega
  rwa [Int.natCast_mul] at h
 have hrun := run_make (P := P) s.w T e ti zv e1 e2 q2 k k' n n (by omega) (Int.le_refl _) hb3 (by omega)
 simp only [qbe] at hrun
 have hc : zv.cells = #[z0] := by
  have := congrArg List.toArray q3
  simpa using this
 rw [hc, e3, Nat.mul_one] at hrun
 refine kV (s' := ⟨s.β, fun b => s.I b ∨ b = s.w.heap.size, s.M, _⟩) (v := .slice (some ⟨s.w.heap.size, 0, none⟩) n n) ?_ (uh hok (.cells (madeCells #[z0] n) e)) rfl (.slf (by simp) (qaO _) (by unfold maxLen; omega) (fun e => by cases e) (.inr ⟨_, 0, rfl, .inr rfl, ?_⟩))
 ·unfold execOp
  simp only [ho, h1, h2]
  exact kO hrun
 ·have := qd (heap_alloc_new s.w (.cells (madeCells #[z0] n) e)) 0
  simpa [toList_madeCells_one] using this
end
end Go.Proofs.YtofklkbfkoliiaaGreat
namespace Go.Proofs.YtofklkbfkoliiaaGreat
set_option linter.unusedVariables false
set_option linter.unusedSimpArgs false
open Go.RowKit
section
variable {P : Program} {s0 : St} {n : Cx}
theorem Yt {F : Fr} {M : List Blk} {a : Act} {w : World} {t : Nat} (e : TypeId) (sz : Nat) (h : Inv s0 n F M a w) (ht : lk F t = some (.val (.slice none 0 0))) : Inv s0 n ((t, .arr M.length) :: F) (M ++ [.arx e sz 0 []]) a w := by
 obtain ⟨h0, s, rfl, rfl, h3, h4, h5, h6⟩ := h
 have t1 := gQ h3.ok
 have hlen := h3.ok.len
 have hn : (s.M ++ [Blk.hole])[s.M.length]? = some .hole := by simp
 have t2 : Tr ⟨s.β ++ [Value.nilFunc], s.I, s.M ++ [Blk.hole], s.w⟩ ⟨(s.β ++ [Value.nilFunc]).set s.M.length (.slice none 0 0), s.I, (s.M ++ [Blk.hole]).set s.M.length (.arx e sz 0 []), s.w⟩ :=
  gT (s := ⟨s.β ++ [Value.nilFunc], s.I, s.M ++ [Blk.hole], s.w⟩) t1.ok (j := s.M.length) hn (.slice none 0 0) (.arx e sz 0 []) s.w (by simp) (fun b hb => by cases hb) (fun b _ => rfl) (fun b hb => by cases hb) (qaO _) rfl rfl rfl ⟨[], World.ownsRow_nil s.w 0 e sz, rfl, fun j d v h => by simp at h⟩
 have tt := t1.trans t2
 refine ⟨h0, ⟨(s.β ++ [Value.nilFunc]).set s.M.length (.slice none 0 0), s.I, (s.M ++ [Blk.hole]).set s.M.length (.arx e sz 0 []), s.w⟩, by simp, rfl, h3.trans tt, fun x d hd => ?_, h5, h6.mono h3.ok tt⟩
 rw [jk] at hd
 split at hd
 ·rename_i e'
  subst e'
  obtain rfl := qay hd
  have := (h4 t _ ht).val_eq
  rw [this]
  exact .arr (by simp [hlen])
 ·exact (h4 x d hd).mono h3.ok tt
theorem Yu {c : Code} {F : Fr} {M M' : List Blk} {K : Cont} (t : Nat) (e : TypeId) (sz : Nat) {m : Nat} (ht : lk F t = some (.val (.slice none 0 0))) (hm : M.length = m) (hM : M ++ [.arx e sz 0 []] = M') (h : dwp P s0 n c ((t, .arr m) :: F) M' K) : dwp P s0 n c F M K := by
 subst hm hM
 exact fun a w hi => h a w (Yt e sz hi ht)
theorem WD {F : Fr} {M : List Blk} {a : Act} {w : World} {t i : Nat} {e : TypeId} {sz m : Nat} {l : List D} (h : Inv s0 n F M a w) (ht : lk F t = some (.arr i)) (hM : M[i]? = some (.arx e sz m l)) (hnl : D.nlL l = true) : Inv s0 n ((t, .slm sz m l) :: F) (M.set i .gone) a w := by
 obtain ⟨h0, s, rfl, rfl, h3, h4, h5, h6⟩ := h
 have hr := h4 t _ ht
 generalize hv : jh a t = v at hr
 cases hr with
 | @arr _ ad n' c hβ =>
  obtain ⟨vs, hk, q3, q4⟩ := h3.ok.blk i _ _ hM hβ
  rcases hk.2 with ⟨e1, e2⟩ | ⟨g, cap, cur, e1, e2, e3', e4, e5, e6, e7⟩
  ·cases e1; subst e2
   have hl0 : l = [] := qaW (by rw [← q3, hk.1, Nat.zero_mul])
   have tt : Tr s ⟨s.β, s.I, s.M.set i .gone, s.w⟩ := by
    have hnd : ∀ (i : Nat) h, s.β[i]? = some h → h ≠ .nilFunc → s.β[i]? = some h := fun _ _ h _ => h
    have old : ∀ (j : Nat) k, (s.M.set i .gone)[j]? = some k → k = .gone ∨ s.M[j]? = some k := fun j k hj => by
     by_cases e : i = j
     ·subst e
      rw [qaI (qas.1 hM).1] at hj
      exact .inl (qay hj).symm
     ·rw [qaG e] at hj; exact .inr hj
    have lv : ∀ b, Live ⟨s.β, s.I, s.M.set i .gone, s.w⟩ b → Live s b := by
     rintro b ⟨j, k, h, h1, h2, h3, h4⟩
     rcases old j k h1 with rfl | h1
     ·cases h2
     ·exact qk h1 h2 h3 h4
    refine ⟨⟨by simp [h3.ok.len], fun j k h h1 h2 => ?_, fun b hb => h3.ok.lt b (lv b hb), ?_, h3.ok.il⟩, jy hnd, fun _ h => h, fun _ h => .inl h, fun _ _ _ => rfl, fun b h => .inr (lv b h), rfl, rfl, rfl, qaO _⟩
    ·rcases old j k h1 with rfl | h1
     ·trivial
     ·exact BlkOk.mono (s := s) (s' := ⟨s.β, s.I, s.M.set i .gone, s.w⟩) hnd (fun _ h => h) (fun _ _ => rfl) (h3.ok.blk j k h h1 h2) (fun _ _ _ => rfl)
    ·intro j j2 k k2 x x2 b a1 a2 a3 a4 c1 c2 c3 c4
     rcases old j k a1 with rfl | a1
     ·cases a2
     ·rcases old j2 k2 c1 with rfl | c1
      ·cases c2
      ·exact h3.ok.inj j j2 k k2 x x2 b a1 a2 a3 a4 c1 c2 c3 c4
   refine ⟨h0, ⟨s.β, s.I, s.M.set i .gone, s.w⟩, rfl, rfl, h3.trans tt, fun x d hd => ?_, h5, h6.mono h3.ok tt⟩
   rw [jk] at hd
   split at hd
   ·rename_i e'
    subst e'
    obtain rfl := qay hd
    rw [hv]
    subst hl0
    exact .slm (vs := []) rfl (by simp) (qaO _) (qa5 _) (fun _ => rfl) rfl (fun j d v h => by simp at h) (.inl rfl)
   ·exact (h4 x d hd).mono h3.ok tt
  ·cases e1
   have tt := Ja h3.ok hM rfl hβ rfl s.w (fun _ _ => rfl) rfl rfl rfl rfl
   refine ⟨h0, ⟨s.β, fun b => s.I b ∨ b = g, s.M.set i .gone, s.w⟩, rfl, rfl, h3.trans tt, fun x d hd => ?_, h5, h6.mono h3.ok tt⟩
   rw [jk] at hd
   split at hd
   ·rename_i e'
    subst e'
    obtain rfl := qay hd
    rw [hv]
    refine .slm (vs := vs) hnl (by rw [← q3]; exact hk.1) e4 e5 (fun e => by cases e) q3 (fun j d v hj hv => (q4 j d v hj hv).mono h3.ok tt) (.inr ⟨g, 0, rfl, .inr rfl, ?_⟩)
    have hc := qK (qd e3' 0) 0 (m * sz)
    show qW s.w g 0 vs
    simpa [e7] using hc
   ·exact (h4 x d hd).mono h3.ok tt
theorem WE {c : Code} {F : Fr} {M M' : List Blk} {K : Cont} (t : Nat) {i : Nat} {e : TypeId} {sz m : Nat} {l : List D} (hnl : D.nlL l = true) (ht : lk F t = some (.arr i)) (hM : M[i]? = some (.arx e sz m l)) (hM' : M.set i .gone = M') (h : dwp P s0 n c ((t, .slm sz m l) :: F) M' K) : dwp P s0 n c F M K := by
 subst hM'
 exact fun a w hi => h a w (WD hi ht hM hnl)
end
section
variable {P : Program} {pc : Bool} {o : Oper} {F : Fr} {M : List Blk}
end
end Go.Proofs.YtofklkbfkoliiaaGreat
namespace Go.Proofs.YtofklkbfkoliiaaGreat
set_option linter.unusedVariables false
set_option linter.unusedSimpArgs false
open Go.RowKit
section
variable {P : Program} {s0 : St} {n : Cx}
theorem XK {F : Fr} {M : List Blk} {a : Act} {w : World} {i : Nat} {k k' : Blk} (h : Inv s0 n F M a w) (hM : M[i]? = some k) (hl : k.live = k'.live) (hk : ∀ s h, BlkOk s h k → BlkOk s h k') (hf : k.nf = true := by rfl) (hf' : k'.nf = true := by rfl) : Inv s0 n F (M.set i k') a w := by
 obtain ⟨h0, s, rfl, rfl, h3, h4, h5, h6⟩ := h
 have hnd : ∀ (i : Nat) h, s.β[i]? = some h → h ≠ .nilFunc → s.β[i]? = some h := fun _ _ h _ => h
 have hlt := (qas.1 hM).1
 have old : ∀ (j : Nat) kk, (s.M.set i k')[j]? = some kk → (j = i ∧ kk = k') ∨ s.M[j]? = some kk := fun j kk hj => by
  by_cases e : i = j
  ·subst e
   rw [qaI hlt] at hj
   exact .inl ⟨rfl, (qay hj).symm⟩
  ·rw [qaG e] at hj; exact .inr hj
 have back : ∀ (j : Nat) kk, (s.M.set i k')[j]? = some kk → kk.live = true → ∃ k2, s.M[j]? = some k2 ∧ k2.live = true ∧ ∀ x b, jb kk x b → jb k2 x b := fun j kk hj hlv => by
  rcases old j kk hj with ⟨rfl, rfl⟩ | hj
  ·exact ⟨k, hM, by rw [hl]; exact hlv, fun x b h => (ug hf).2 ((ug hf').1 h)⟩
  ·exact ⟨kk, hj, hlv, fun _ _ h => h⟩
 have lv : ∀ b, Live ⟨s.β, s.I, s.M.set i k', s.w⟩ b → Live s b := by
  rintro b ⟨j, kk, x, h1, h2, h3, h4⟩
  obtain ⟨k2, g1, g2, g3⟩ := back j kk h1 h2
  exact qk g1 g2 h3 (g3 _ _ h4)
 have mono : ∀ h kk, BlkOk s h kk → BlkOk ⟨s.β, s.I, s.M.set i k', s.w⟩ h kk := fun h kk hb => BlkOk.mono (s := s) (s' := ⟨s.β, s.I, s.M.set i k', s.w⟩) hnd (fun _ h => h) (fun _ _ => rfl) hb (fun _ _ _ => rfl)
 have tt : Tr s ⟨s.β, s.I, s.M.set i k', s.w⟩ := by
  refine ⟨⟨by simp [h3.ok.len], fun j kk h h1 h2 => ?_, fun b hb => h3.ok.lt b (lv b hb), ?_, h3.ok.il⟩, jy hnd, fun _ h => h, fun _ h => .inl h, fun _ _ _ => rfl, fun b h => .inr (lv b h), rfl, rfl, rfl, qaO _⟩
  ·rcases old j kk h1 with ⟨rfl, rfl⟩ | h1
   ·exact mono _ _ (hk _ _ (h3.ok.blk _ _ h hM h2))
   ·exact mono _ _ (h3.ok.blk j kk h h1 h2)
  ·intro j j2 k1 k2 x x2 b a1 a2 a3 a4 c1 c2 c3 c4
   obtain ⟨q1, g1, g2, g5⟩ := back j k1 a1 a2
   obtain ⟨q2, g3, g4, g6⟩ := back j2 k2 c1 c2
   exact h3.ok.inj j j2 q1 q2 x x2 b g1 g2 a3 (g5 _ _ a4) g3 g4 c3 (g6 _ _ c4)
 exact ⟨h0, ⟨s.β, s.I, s.M.set i k', s.w⟩, rfl, rfl, h3.trans tt, fun x d hd => (h4 x d hd).mono h3.ok tt, h5, h6.mono h3.ok tt⟩
theorem jf {c : Code} {F : Fr} {M M' : List Blk} {K : Cont} (i : Nat) {k k' : Blk} (hk : ∀ s h, BlkOk s h k → BlkOk s h k') (hM : M[i]? = some k) (hl : k.live = k'.live) (hM' : M.set i k' = M') (h : dwp P s0 n c F M' K) (hf : k.nf = true := by rfl) (hf' : k'.nf = true := by rfl) : dwp P s0 n c F M K := by
 subst hM'
 exact fun a w hi => h a w (XK hi hM hl hk hf hf')
theorem Qg {e : TypeId} {sz : Nat} : ∀ s h, BlkOk s h (.arr e sz 0 []) → BlkOk s h (.arx e sz 0 []) := fun s h hk => ⟨[], hk, rfl, fun j d v h => by simp at h⟩
theorem yT {T : TypeId} {L : List Value} : ∀ s h, BlkOk s h (.flat T L) → BlkOk s h (.mix T (L.map D.val)) := fun s h hk => by
 obtain ⟨b, e1, e2⟩ := hk
 refine ⟨b, L, e1, e2, by simp, fun j d v h1 h2 => ?_⟩
 rw [qbb, h2] at h1
 cases h1
 exact .val v
end
section
variable {P : Program} {pc : Bool} {o : Oper} {F : Fr} {M : List Blk}
theorem qo {T T' : TypeId} {x : Operand} {i k : Nat} {l : List D} (ho : o.op = .load T x) (hT : tyB P T = some (true, k)) (hx : Ev pc F x (.loc i 0)) (hM : M[i]? = some (.mix T' l)) (hl : l.length = k) : DOp P pc o F M [i] (.agg l) [] := by
 intro hp a s hok hops hfp
 have hr := qq hp hx (by simp [ho, Op.operands]) hops
 generalize hv : a.eval x = vx at hr
 cases hr with
 | @loc _ _ b h =>
  obtain ⟨b', vs, e1, e2, e3, e4⟩ := hok.blk i _ _ (by rw [hfp i (by simp)]; exact hM) h
  cases e1
  have hc : qW s.w b 0 vs := qd e2 0
  have hr := ja hc 0 vs.length (R := vs) (by simp)
  exact qN hok (jq ho hT hv (by simpa using hr) (by omega)) (.agg e3 e4)
theorem Jb {T T' : TypeId} {x y : Operand} {i k : Nat} {rw' : Bool} {ds l : List D} (ho : o.op = .store T x y) (hT : tyB P T = some (rw', k)) (hx : Ev pc F x (.loc i 0)) (hy : Ev pc F y (.agg ds)) (hM : M[i]? = some (.mix T' l)) (hk : ds.length = k) (hfit : ds.length = l.length) (h1 : ds.all D.oc = true) : DOp P pc o F M [i] .junk [(i, .mix T' ds)] := by
 intro hp a s hok hops hfp
 have hr := qq hp hx (by simp [ho, Op.operands]) hops
 have hry := qq hp hy (by simp [ho, Op.operands]) hops
 have hM' : s.M[i]? = some (.mix T' l) := by rw [hfp i (by simp)]; exact hM
 generalize hv : a.eval x = vx at hr
 generalize hvy : a.eval y = vy at hry
 cases hr with
 | @loc _ _ b h =>
  cases hry with
  | @agg _ vs hvl hd =>
   obtain ⟨b', L, e1, e2, e3, _⟩ := hok.blk i _ _ hM' h
   cases e1
   have hcell := qd e2 0
   have hoc : ∀ u ∈ vs, u.oneCell' = true := fun u hu => by
    obtain ⟨j, hj, rfl⟩ := List.getElem_of_mem hu
    have hj2 : j < ds.length := by omega
    exact Yq (hd j _ _ (qat hj2) (qat hj)) (qaV.1 h1 _ (qbf hj2))
   have hrun := gv (P := P) (w := s.w) (C := vs) ho hT hv hvy rfl (by omega) (fun j hj => by
     have hp' : j < L.length := by omega
     have := hcell j L[j] (by simp [hp'])
     rw [qau] at this
     rw [qau, this]; rfl) (fun j hj => by simp [World.frozen?, e2]) hoc
   have hβ : s.β.set i (.pointer (some ⟨b, 0, none⟩)) = s.β := by
    apply qbi
    intro k
    by_cases e : i = k
    ·subst e; rw [qaI (qas.1 h).1, h]
    ·rw [qaG e]
   refine yR (s' := ⟨s.β.set i (.pointer (some ⟨b, 0, none⟩)), s.I, s.M.set i (.mix T' ds), s.w.setCells b 0 vs⟩) hrun (yb hok hM' rfl h rfl 0 _ ?_) rfl
   have hall : jC L 0 vs = vs := uv (by omega)
   have hblk := kI b vs 0 s.w L T' e2
   rw [hall] at hblk
   refine ⟨b, vs, rfl, hblk, hvl, fun j e v hj hv' => ?_⟩
   refine Rep.mono' (s := s) (s' := ⟨s.β.set i (.pointer (some ⟨b, 0, none⟩)), s.I, s.M.set i (.mix T' ds), s.w.setCells b 0 vs⟩) (fun k x hk _ => by show (s.β.set i _)[k]? = _; rw [hβ]; exact hk) (fun _ h => h) (fun b' hI => kJ b _ 0 s.w b' fun e => ?_) (hd j e v hj hv')
   subst e
   exact (hok.lt b' (qk hM' rfl h rfl)).2 hI
theorem we {p : Tmp} {T T' : TypeId} {i k : Nat} {l : List D} (hT : tyB P T = some (true, k)) (h : lk F p = some (.loc i 0)) (hM : M[i]? = some (.mix T' l)) (hl : l.length = k) : RvD P (.cell p T) F M (.agg l) := fun s a ho hMs hF => by
 have hr := hF p _ h
 generalize hv : jh a p = v at hr
 cases hr with
 | @loc _ _ b hb =>
  obtain ⟨b', vs, e1, e2, e3, e4⟩ := ho.blk i _ _ (by rw [hMs]; exact hM) hb
  cases e1
  obtain ⟨dd, ii, h1, h2, h3, h4⟩ := gi hT
  refine ⟨.agg vs.toArray, ?_, .agg e3 e4⟩
  have hvx' : a.tmps.getD p undef = .pointer (some ⟨b, 0, none⟩) := hv
  simp only [rv, hvx']
  simp only [asAddr, Sem.run_bind, Sem.run_pure, Result.andThen_ok]
  exact run_loadVar_row s.w b T' T vs.toArray (0, 0) dd e2 h1 (by cases dd <;> simp_all [TypeDesc.isRow]) (by simp [h2, h4, hl, e3])
theorem Qh {T : TypeId} {x : Operand} {q : TypeId × Nat × Nat} (ho : o.op = .call { callee := .builtin .cap, args := #[x], argTypes := #[T] }) (hT : slE P T = some q) (hx : Ev pc F x (.val (.slice none 0 0))) : DOp P pc o F M [] (.val (.int .i64 0)) [] := by
 intro hp a s hok hops _
 obtain ⟨e1, _⟩ := kM hT
 have hr := (qq hp hx (by simp [ho, Op.operands, Call.operands]) hops).val_eq
 refine qN hok (kP ho (fun cs => rfl) ?_) (.val (.int .i64 0))
 simp [Builtin.cap_, hr, run_underlying e1, goInt]
theorem H9 {T : TypeId} {x : Operand} {e : TypeId} {sz by' : Nat} {hi : Option Operand} (ho : o.op = .slice T x none hi none) (hT : slE P T = some (e, sz, by')) (hx : Ev pc F x (.val (.slice none 0 0))) (hhi : Bd pc F hi 0 0) : DOp P pc o F M [] (.val (.slice none 0 0)) [] := by
 intro hp a s hok hops _
 have hr := (qq hp hx (by simp [ho, Op.operands]) hops).val_eq
 have q2 := xn hp hhi (fun u e => by subst e; simp [ho, Op.operands]) hops
 refine qN hok ?_ (.val _)
 have h := yy (P := P) (w := s.w) ho hT hr (l := 0) (h := 0) (.inl ⟨rfl, rfl⟩) q2 (by omega) (by omega) (by omega) (qaO _)
 simpa using h
theorem xx (T U ty e : TypeId) (i : TypeInfo) (z : Value) (w : World) (k : IntKind) (hT : P.underlying T = some (.slice e)) (hU : P.underlying U = some (.int k)) (hi : P.info? e = some i) (hz : i.zero = some z)
  (n : Nat) (h0 : 0 < n) (hs : 0 < i.size) (h63 : (n : Int) ≤ 9223372036854775807) (h48 : n * i.bytes ≤ 281474976710656) :
  (Builtin.append_ #[T, U] ty #[.slice none 0 0, .int k n]).run P w =
   .ok (.slice (some ⟨w.heap.size, 0, none⟩) n (grownCap w n 0 e)) (w.drew.alloc (.cells (Builtin.zeroCells z.cells n ++ Builtin.zeroCells z.cells (grownCap w n 0 e - n)) e)) := by
 have hn : n ≠ 0 := by omega
 have hw : IntKind.i64.wrap (n : Int) = n := qaC _ (by omega)
 have h63' : ¬ (9223372036854775807 < (n : Int)) := by omega
 have hneg : ¬ ((n : Int) < 0) := by omega
 have hsz : n * i.size ≠ 0 := Nat.mul_ne_zero hn (by omega)
 have hby : ¬ ((281474976710656 : Int) < (n : Int) * (i.bytes : Int)) := by
  rw [show (n : Int) * (i.bytes : Int) = ((n * i.bytes : Nat) : Int) by simp]; omega
 have h48' : ¬ (281474976710656 < Builtin.nextslicecap n 0 * i.bytes) := by rw [nextslicecap_zero h0]; omega
 have hs' : i.size ≠ 0 := by omega
 have hn0 : ¬ ((n : Int) ≤ 0) := by omega
 have hmx : max (n : Int) 0 = n := by omega
 simp [Builtin.append_, run_underlying hT, run_underlying hU, sizeOf, typeInfo, zeroValue, hi, hz, asInt, asIntOf, hw, hn, hs', hn0, hmx, h63', hneg, hby, h48', Question.forced, run_firstCells_none, newRow, grownCap]
 exact fun h => absurd h hsz
theorem Aa {T U e : TypeId} {by' n sz j : Nat} {k : IntKind} {z : Int} {x y : Operand} {Z : List Value} (ho : o.op = .call { callee := .builtin .append, args := #[x, y], argTypes := #[T, U] }) (hT : slE P T = some (e, sz, by')) (hU : P.underlying U = some (.int k)) (hZ : zrC P e = some Z) (hZl : Z.length = sz) (hs : 0 < sz)
  (hx : Ev pc F x (.val (.slice none 0 0))) (hy : Ev pc F y (.val (.int k z))) (hz : pc = true → z = (n : Int)) (h0 : pc = true → 0 < n) (hj : M[j]? = some .hole) (hb : pc = true → n * by' ≤ 281474976710656 ∧ n ≤ 140737488355328) :
  DOp P pc o F M [j] (.arr j) [(j, .arr e sz n (Builtin.zeroCells Z.toArray n).toList)] := by
 intro hp a s hok hops hfp
 obtain ⟨e1, ti, e2, e3, e4⟩ := kM hT
 obtain ⟨ti', zv, q1, q2, q3⟩ := jE hZ
 rw [e2] at q1
 obtain rfl := qay q1
 have h1 := (qq hp hx (by simp [ho, Op.operands, Call.operands]) hops).val_eq
 have h2 := (qq hp hy (by simp [ho, Op.operands, Call.operands]) hops).val_eq
 rw [hz hp] at h2
 obtain ⟨b1, b2⟩ := hb hp
 have hj' : s.M[j]? = some .hole := by rw [hfp j (by simp)]; exact hj
 have hjl : j < s.β.length := by rw [hok.len]; exact (qas.1 hj').1
 have hz0 : zv.cells = Z.toArray := by rw [← q3]
 have hrun := xx T U o.type e ti zv s.w k e1 hU e2 q2 n (h0 hp) (by omega) (by omega) (by rw [e4]; exact b1)
 have hge := grownCap_ge s.w n 0 e
 have hrow : (s.w.drew.alloc (.cells (Builtin.zeroCells zv.cells n ++ Builtin.zeroCells zv.cells (grownCap s.w n 0 e - n)) e)).ownsRow 0 e sz (.slice (some ⟨s.w.heap.size, 0, none⟩) n (grownCap s.w n 0 e)) n (Builtin.zeroCells Z.toArray n).toList := by
  have hl1 : (Builtin.zeroCells Z.toArray n).size = n * sz := by rw [size_zeroCells]; simp [hZl]
  refine ⟨by simpa using hl1, .inr ⟨s.w.heap.size, _, _, rfl, qa5 _, heap_alloc_new s.w.drew _, hge, grownCap_le_maxLen s.w _ _ _ (by unfold maxLen; omega), ?_, ?_⟩⟩
  ·rw [Array.size_append, hz0, hl1, size_zeroCells]
   simp only [List.size_toArray, hZl]
   rw [← Nat.add_mul]
   congr 1
   omega
  ·rw [hz0, Array.toList_append, ← hl1, ← Array.length_toList, List.take_left]
 refine kV (s' := ⟨s.β.set j (.slice (some ⟨s.w.heap.size, 0, none⟩) n (grownCap s.w n 0 e)), s.I, s.M.set j (.arr e sz n (Builtin.zeroCells Z.toArray n).toList), s.w.drew.alloc (.cells (Builtin.zeroCells zv.cells n ++ Builtin.zeroCells zv.cells (grownCap s.w n 0 e - n)) e)⟩) (v := .slice (some ⟨s.w.heap.size, 0, none⟩) n (grownCap s.w n 0 e)) (kP ho (fun cs => by rfl) (by simpa [h1, h2] using hrun)) (gT hok hj' _ _ _ (by simp) (fun b hb => by cases hb; rfl) (fun b h => Below.heap_alloc s.w.drew _ _ h) (fun b hb => by cases hb; simp) (by simp) rfl rfl rfl hrow) rfl (.arr (by simp [hjl]))
theorem Ab {T e T' : TypeId} {sz sz' by' n i j : Nat} {x : Operand} {hi : Option Operand} {L : List Value} (ho : o.op = .slice T x none hi none) (hT : slE P T = some (e, sz', by')) (hx : Ev pc F x (.arr i)) (hM : M[i]? = some (.arr T' sz n L)) (hhi : Bd pc F hi n 0) (hj : M[j]? = some .hole) :
  DOp P pc o F M [i, j] (.arr j) [(i, .gone), (j, .arr T' sz 0 [])] := by
 intro hp a s hok hops hfp
 have hM' : s.M[i]? = some (.arr T' sz n L) := by rw [hfp i (by simp)]; exact hM
 have hj' : s.M[j]? = some .hole := by rw [hfp j (by simp)]; exact hj
 have hjl : j < s.β.length := by rw [hok.len]; exact (qas.1 hj').1
 have hrx := qq hp hx (by simp [ho, Op.operands]) hops
 have q2 := xn hp hhi (fun u e => by subst e; simp [ho, Op.operands]) hops
 generalize hv : a.eval x = vx at hrx
 cases hrx with
 | @arr _ ad n' c hβ =>
  have hk : s.w.ownsRow 0 T' sz _ n L := hok.blk i _ _ hM' hβ
  obtain ⟨h', r1, r2, r3⟩ : ∃ h', (execOp a.eval o).run P s.w = .ok (.value h') s.w ∧ s.w.ownsRow 0 T' sz h' 0 [] ∧ hb h' = hb (Value.slice ad n' c) ∧ h' ≠ .nilFunc := by
   rcases hk.2 with ⟨e1, e2⟩ | ⟨g, cap, cur, e1, e2, e3, e4, e5, e6, e7⟩
   ·cases e1; subst e2
    refine ⟨.slice none 0 0, ?_, World.ownsRow_nil s.w 0 T' sz, rfl, by simp⟩
    have h := yy (P := P) (w := s.w) ho hT hv (l := 0) (h := 0) (.inl ⟨rfl, rfl⟩) q2 (by omega) (by omega) (by omega) (qaO _)
    simpa using h
   ·cases e1
    refine ⟨.slice (some ⟨g, 0, none⟩) 0 c, ?_, ⟨by simp, .inr ⟨g, c, cur, rfl, qa5 _, e3, qa5 _, e5, e6, by simp⟩⟩, rfl, by simp⟩
    have h := yy (P := P) (w := s.w) ho hT hv (l := 0) (h := 0) (.inl ⟨rfl, rfl⟩) q2 (by omega) (by omega) (by omega) e4
    rw [h]
    by_cases hc : c = 0
    ·subst hc; simp
    ·simp [hc, Addr.add_zero']
  obtain ⟨r3, r4⟩ := r3
  have hβj : s.β[j]? = some .nilFunc := by
   have q : s.β[j]? = some s.β[j] := qat hjl
   have : s.β[j] = .nilFunc := hok.blk j .hole _ hj' q
   rw [q, this]
  have hlt : i < s.M.length := (qas.1 hM').1
  have ne : ∀ (k : Nat) kb, (s.M.set i .gone)[k]? = some kb → kb.live = true → i ≠ k ∧ s.M[k]? = some kb := fun k kb hkb hl => by
   by_cases hki : i = k
   ·subst hki
    rw [qaI hlt] at hkb
    cases hkb; cases hl
   ·rw [qaG hki] at hkb; exact ⟨hki, hkb⟩
  refine kV (s' := ⟨s.β.set j h', s.I, (s.M.set i .gone).set j (.arr T' sz 0 []), s.w⟩) r1 ?_ rfl ?_
  ·refine kR hok j (s.M.set i .gone) h' _ s.w (by simp) (fun k kb hkb => ?_) (by rw [← hok.len]; exact hjl) (.inl hβj) r4 r2 (fun b hbb k kb hh hne q1 q2 q3 q4 => ?_) (fun b hbb => .inr (qk hM' rfl hβ (r3.symm.trans (show hb h' = some b from hbb)))) (fun b hbb => (hok.lt b (qk hM' rfl hβ (r3.symm.trans (show hb h' = some b from hbb)))).1) (fun _ => False) (fun b hdr => hdr.elim) (fun _ _ _ _ => rfl) rfl rfl rfl (qaO _)
   ·by_cases hki : i = k
    ·subst hki
     rw [qaI hlt] at hkb
     exact .inr (qay hkb).symm
    ·rw [qaG hki] at hkb; exact .inl hkb
   ·obtain ⟨hki, q1'⟩ := ne k kb q1 q2
    exact hki (hok.inj i k _ kb _ hh b hM' rfl hβ (r3.symm.trans (show hb h' = some b from hbb)) q1' q2 q3 q4)
  ·rcases r2.2 with ⟨rfl, _⟩ | ⟨g, cap, cur, rfl, _⟩
   ·exact .arr (by simp [hjl])
   ·exact .arr (by simp [hjl])
theorem wW {α : Type} {en : α → List Value} {sz : Nat} (hen : ∀ a, (en a).length = sz) : ∀ (r : List α) (i : Nat), (r.drop i).flatMap en = (r.flatMap en).drop (i * sz)
 | r, 0 => by simp
 | [], i + 1 => by simp
 | x :: r, i + 1 => by
  rw [List.drop_succ_cons, wW hen r i, qaL, Nat.add_mul, Nat.one_mul, Nat.add_comm, ← List.drop_drop, List.drop_append_of_le_length (by rw [hen]; exact qaO _), ← hen x, List.drop_length, qaH]
end
theorem wrc {τ0 r : List Nat} {i : Nat} {k k' : Blk} {ks : List Blk} {r' : List (Nat × Blk)} (h : sbB τ0 k = some k') (h2 : yg τ0 r ks = some r') : yg τ0 (i :: r) (k :: ks) = some ((i, k') :: r') := by
 unfold yg; rw [h, h2]
theorem Ge {α : Type} {τ : List Nat} {f : α → D} (h : ∀ a, sb τ (f a) = some (f a)) : ∀ l : List α, sbL τ (l.flatMap fun a => [f a]) = some (l.flatMap fun a => [f a])
 | [] => rfl
 | a :: l => by
  rw [qaL]
  show sbL τ (f a :: l.flatMap fun a => [f a]) = _
  unfold sbL
  rw [h a, Ge h l]
  rfl
theorem kK {α : Type} {τ : List Nat} {f : α → D} {T : TypeId} {sz n : Nat} {l : List α} (h : ∀ a, sb τ (f a) = some (f a)) : sbB τ (.arx T sz n (l.flatMap fun a => [f a])) = some (.arx T sz n (l.flatMap fun a => [f a])) := by
 show (sbL τ _).map _ = _; rw [Ge h]; rfl
end Go.Proofs.YtofklkbfkoliiaaGreat
namespace Go.Proofs.YtofklkbfkoliiaaGreat
set_option linter.unusedVariables false
set_option linter.unusedSimpArgs false
open Go.RowKit
def D.cs : D → List D
 | .agg l => l
 | .val v => v.cells.toList.map .val
 | d => [d]
def D.c1 : D → Bool
 | .opt _ _ => false
 | .tup _ => false
 | .junk => false
 | .hnd _ => false
 | _ => true
def D.oc2 : D → Bool
 | .slf _ _ _ => true
 | .slm _ _ _ => true
 | .arr _ => true
 | .farr _ _ => true
 | .floc _ _ _ => true
 | .pin _ _ => true
 | .pip _ => true
 | .dpf _ => true
 | .dpm _ => true
 | .fn _ _ _ => true
 | .val u => u.oneCell'
 | _ => false
theorem Qi {s : St} {d : D} {v : Value} (h : Rep s d v) (hd : d.oc2 = true) : v.oneCell' = true := by
 cases h with
 | val v => exact hd
 | slf => rfl
 | slm => rfl
 | arr => rfl
 | fn => rfl
 | farr => rfl
 | floc => rfl
 | pin => rfl
 | pip => rfl
 | dpf => rfl
 | dpm => rfl
 | _ => cases hd
theorem Jc {s : St} {d : D} {v : Value} (h : Rep s d v) (hd : d.c1 = true) : Reps s d.cs v.cells.toList := by
 have h0 := h
 cases h with
 | val v =>
  refine ⟨by simp [D.cs], fun j e u h1 h2 => ?_⟩
  simp only [D.cs, qbb, h2, Option.map_some] at h1
  cases h1
  exact .val u
 | agg hl h => exact ⟨hl, h⟩
 | opt => cases hd
 | tup => cases hd
 | junk => cases hd
 | hnd => cases hd
 | _ =>
  refine ⟨rfl, fun j e u h1 h2 => ?_⟩
  cases j with
  | zero => simp [D.cs, Value.cells] at h1 h2; subst h1 h2; exact h0
  | succ j => simp [D.cs, Value.cells] at h1
def setD : List D → Nat → List D → List D
 | Z, _, [] => Z
 | Z, p, d :: r => setD (Z.set p d) (p + 1) r
def Kr (offs : List (Nat × Nat)) : List D → List (Nat × List D) → List D
 | Z, [] => Z
 | Z, (i, C) :: r => Kr offs (setD Z ((offs.getD i (0, 0)).1) C) r
def Jd (offs : List (Nat × Nat)) (n : Nat) : List (Nat × List D) → Bool
 | [] => true
 | (i, C) :: r => (match offs[i]? with | some (o, s) => C.length == s && Nat.ble (o + s) n | none => false) && Jd offs n r
theorem WF {s : St} {Z : List D} {vz : List Value} (h : Reps s Z vz) {d : D} {v : Value} (hd : Rep s d v) (p : Nat) : Reps s (Z.set p d) (vz.set p v) := by
 refine ⟨by simp [h.1], fun j e u h1 h2 => ?_⟩
 by_cases e1 : p = j
 ·subst e1
  by_cases hp : p < Z.length
  ·rw [qaI hp] at h1
   rw [qaI (by rw [h.1]; exact hp)] at h2
   cases h1; cases h2; exact hd
  ·rw [qa4 (by simp; omega)] at h1; cases h1
 ·rw [qaG e1] at h1 h2
  exact h.2 j e u h1 h2
theorem Ks {s : St} : ∀ (C : List D) (vc : List Value) (Z : List D) (vz : List Value) (p : Nat), Reps s C vc → Reps s Z vz → Reps s (setD Z p C) (jC vz p vc)
 | [], [], Z, vz, p, _, hz => by rw [J7]; exact hz
 | d :: C, v :: vc, Z, vz, p, hc, hz => by
  rw [setD, jC]
  exact Ks C vc _ _ _ ⟨by simpa using hc.1, fun j e u h1 h2 => hc.2 (j + 1) e u (by simpa using h1) (by simpa using h2)⟩ (WF hz (hc.2 0 d v rfl rfl) p)
 | [], v :: vc, _, _, _, hc, _ => by have := hc.1; simp at this
 | d :: C, [], _, _, _, hc, _ => by have := hc.1; simp at this
theorem Kt {s : St} (offs : List (Nat × Nat)) (n : Nat) : ∀ (is : List Nat) (Cs : List (List D)) (vs : List (List Value)) (Z : List D) (vz : List Value), (∀ (j : Nat) C v, Cs[j]? = some C → vs[j]? = some v → Reps s C v) → Cs.length = vs.length → Reps s Z vz → Jd offs n (is.zip Cs) = true →
  Reps s (Kr offs Z (is.zip Cs)) (vQ offs vz (is.zip vs)) ∧ v8 offs n (is.zip vs) = true
 | [], Cs, vs, Z, vz, _, _, hz, _ => by simpa [Kr, vQ, v8] using hz
 | i :: is, [], vs, Z, vz, _, hl, hz, _ => by
  have : vs = [] := by cases vs with | nil => rfl | cons => simp at hl
  subst this
  simpa [Kr, vQ, v8] using hz
 | i :: is, C :: Cs, [], Z, vz, _, hl, _, _ => by simp at hl
 | i :: is, C :: Cs, v :: vs, Z, vz, hc, hl, hz, hb => by
  simp only [List.zip_cons_cons, Jd, qav] at hb
  simp only [List.zip_cons_cons, Kr, vQ, v8, qav]
  have h0 := hc 0 C v rfl rfl
  obtain ⟨r1, r2⟩ := Kt offs n is Cs vs _ _ (fun j C v h1 h2 => hc (j + 1) C v (by simpa using h1) (by simpa using h2)) (by simpa using hl) (Ks C v Z vz _ h0 hz) hb.2
  refine ⟨r1, ?_, r2⟩
  rw [h0.1]
  exact hb.1
theorem Vc {s : St} (L : List Value) : Reps s (L.map .val) L := by
 refine ⟨by simp, fun j e u h1 h2 => ?_⟩
 rw [qbb, h2] at h1
 cases h1
 exact .val u
theorem xb {s : St} {d1 d2 : List D} {v1 v2 : List Value} (h1 : Reps s d1 v1) (h2 : Reps s d2 v2) : Reps s (d1 ++ d2) (v1 ++ v2) := by
 refine ⟨by simp [h1.1, h2.1], fun j d v hd hv => ?_⟩
 by_cases hj : j < d1.length
 ·rw [qaN hj] at hd
  rw [qaN (by rw [h1.1]; exact hj)] at hv
  exact h1.2 j d v hd hv
 ·rw [qaP (by omega)] at hd
  rw [qaP (by rw [h1.1]; omega), h1.1] at hv
  exact h2.2 _ d v hd hv
theorem Je {s : St} : ∀ (ds : List D) (vs : List Value), Reps s ds vs → ds.all D.c1 = true → Reps s (ds.flatMap D.cs) (vs.flatMap fun v => v.cells.toList)
 | [], [], _, _ => ⟨rfl, fun j e u h1 h2 => by simp at h1⟩
 | d :: ds, v :: vs, h, hc => by
  rw [List.all_cons, qav] at hc
  rw [qaL, qaL]
  exact xb (Jc (h.2 0 d v rfl rfl) hc.1) (Je ds vs ⟨by simpa using h.1, fun j e u h1 h2 => h.2 (j + 1) e u (by simpa using h1) (by simpa using h2)⟩ hc.2)
 | [], v :: vs, h, _ => by have := h.1; simp at this
 | d :: ds, [], h, _ => by have := h.1; simp at this
theorem wX {α β : Type} {en : α → List β} {sz : Nat} (hen : ∀ a, (en a).length = sz) : ∀ l : List α, (l.flatMap en).length = l.length * sz
 | [] => by simp
 | a :: l => by rw [qaL, qaD, hen, wX hen l, qaU, qbj]; omega
section
variable {P : Program} {pc : Bool} {o : Oper} {F : Fr} {M : List Blk}
theorem kX {T : TypeId} {ps : List (Nat × Operand)} {ds R : List D} {offs : List (Nat × Nat)} {Z : List Value} (ho : o.op = .build T ps.toArray) (hT : fdL P T = some offs) (hZ : zrC P T = some Z) (hv : EvL pc F (ps.map (·.2)) ds) (hc : ds.all D.c1 = true)
  (hB : Jd offs Z.length ((ps.map (·.1)).zip (ds.map D.cs)) = true) (hR : Kr offs (Z.map .val) ((ps.map (·.1)).zip (ds.map D.cs)) = R) : DOp P pc o F M [] (.agg R) [] := by
 intro hp a s hok hops _
 obtain ⟨r1, r2⟩ := gh (a := a) (s := s) hp _ _ hv (fun x hx => hops x (by rw [ho]; simpa [Op.operands] using hx))
 have hf := Kt (s := s) offs Z.length (ps.map (·.1)) (ds.map D.cs) (((ps.map (·.2)).map a.eval).map fun v => v.cells.toList) (Z.map .val) Z (fun j C v h1 h2 => by
   rw [qbb] at h1 h2
   simp only [qaK] at h1 h2
   obtain ⟨d, h1, rfl⟩ := h1
   obtain ⟨u, h2, rfl⟩ := h2
   exact Jc (r2 j d u h1 h2) (qaV.1 hc _ (qbc h1))) (by rw [List.length_map, List.length_map]; exact r1.symm) (Vc Z) hB
 rw [hR] at hf
 exact qN hok (xa (P := P) (a := a) (w := s.w) ho hT hZ rfl hf.2 rfl) (.agg hf.1.1 hf.1.2)
theorem zp {T e : TypeId} {n sz by' : Nat} {ps : List (Nat × Operand)} {ds R : List D} {Z : List Value} (ho : o.op = .buildSlice T n ps.toArray) (hT : slE P T = some (e, sz, by')) (hZ : zrC P e = some Z) (hi : ps.map (·.1) = List.range' 0 n) (hv : EvL pc F (ps.map (·.2)) ds) (hc : ds.all D.c1 = true) (hs : ds.all (fun d => d.cs.length == sz) = true)
  (hR : ds.flatMap D.cs = R) (hnl : D.nlL R = true) (hl : R.length = n * sz) (hn : n ≤ 16777216) (hn2 : n * sz ≤ 16777216) : DOp P pc o F M [] (.slm sz n R) [] := by
 intro hp a s hok hops _
 have hr := gh (a := a) (s := s) hp _ _ hv (fun x hx => hops x (by rw [ho]; simpa [Op.operands] using hx))
 obtain ⟨vs, hvs⟩ : ∃ vs, vs = (ps.map (·.2)).map a.eval := ⟨_, rfl⟩
 rw [← hvs] at hr
 have hcs := Je ds vs hr hc
 rw [hR] at hcs
 have hcell : ∀ v ∈ vs, v.cells.size = sz := fun v hv' => by
  obtain ⟨j, hj, rfl⟩ := List.getElem_of_mem hv'
  have hj2 : j < ds.length := by have := hr.1; omega
  have h1 := (Jc (hr.2 j _ _ (qat hj2) (qat hj)) (qaV.1 hc _ (qbf hj2))).1
  have h2 := qaV.1 hs _ (qbf hj2)
  simp only [beq_iff_eq] at h2
  rw [h2] at h1
  simpa using h1
 have hrun := j0 (P := P) (w := s.w) ho hT hZ hi hvs.symm hcell hn2
 have ht := uh hok (.cells (vs.flatMap fun v => v.cells.toList).toArray e)
 refine kV (s' := ⟨s.β, fun b => s.I b ∨ b = s.w.heap.size, s.M, _⟩) hrun ht rfl (.slm hnl hl (qaO _) (by unfold maxLen; omega) (fun e => by cases e) hcs.1 (fun j d v h1 h2 => (hcs.2 j d v h1 h2).mono hok ht) (.inr ⟨_, 0, rfl, .inr rfl, ?_⟩))
 simpa using qd (heap_alloc_new s.w _) 0
theorem XL {T e : TypeId} {x y : Operand} {k : IntKind} {z : Int} {n sz by' : Nat} {ds R : List D} (j : Nat) (hpos : 0 < sz) (ho : o.op = .indexAddr T x y) (hT : slE P T = some (e, sz, by')) (hx : Ev pc F x (.slm sz n ds)) (hy : Ev pc F y (.val (.int k z))) (hz : pc = true → z = (j : Int)) (hj : pc = true → j < n) (hR : (ds.drop (j * sz)).take sz = R) : DOp P pc o F M [] (.dpm R) [] := by
 intro hp a s hok hops _
 have hr := qq hp hx (by simp [ho, Op.operands]) hops
 have h2 := (qq hp hy (by simp [ho, Op.operands]) hops).val_eq
 have hj := hj hp
 rw [hz hp] at h2
 generalize hv : a.eval x = vx at hr
 cases hr with
 | @slm _ _ cap ad _ vs hnl hl hn hc ha hvl h hm =>
  rcases hm with hm | ⟨b, q, rfl, hI, hcl⟩
  ·rw [hm] at hl
   have : 0 < n * sz := Nat.mul_pos (by omega) hpos
   simp at hl
   omega
  ·have hrun := j9 (P := P) (w := s.w) ho hT hv h2 (by omega) (by omega)
   rw [Addr.add_mid, qbe] at hrun
   subst hR
   refine qN hok hrun (.dpm (vs := (vs.drop (j * sz)).take sz) (Gc _ (vY _ hnl)) hI (qK hcl _ _) (by rw [qaT, qaZ, qaT, qaZ, hvl]) (fun i d' v h1 h2 => ?_))
   rw [qbh] at h1 h2
   split at h1
   ·rename_i hi
    rw [if_pos hi] at h2
    rw [qba] at h1 h2
    exact h _ d' v h1 h2
   ·cases h1
theorem yU {α : Type} {mk : α → List D} {l : List α} {T e : TypeId} {x y : Operand} {k : IntKind} {z : Int} {sz by' : Nat} (j : Nat) (hpos : 0 < sz) (ho : o.op = .indexAddr T x y) (hT : slE P T = some (e, sz, by')) (hx : Ev pc F x (.slm sz l.length (l.flatMap mk))) (hy : Ev pc F y (.val (.int k z))) (hz : pc = true → z = (j : Int)) (hj : j < l.length) (hmk : ∀ a, (mk a).length = sz) : DOp P pc o F M [] (.dpm (mk l[j])) [] :=
 XL j hpos ho hT hx hy hz (fun _ => hj) (by rw [vD hmk, List.drop_eq_getElem_cons hj, qaL, List.take_left' (hmk _)])
theorem yV {T : TypeId} {x : Operand} {k : Nat} {ld R : List D} (ho : o.op = .load T x) (hT : tyB P T = some (true, k)) (hx : Ev pc F x (.dpm ld)) (hR : ld.take k = R) (hl : R.length = k) : DOp P pc o F M [] (.agg R) [] := by
 intro hp a s hok hops hfp
 have hr := qq hp hx (by simp [ho, Op.operands]) hops
 generalize hv : a.eval x = vx at hr
 cases hr with
 | @dpm b q _ vs hnl hI hc hvl h =>
  subst hR
  have hr := ja hc 0 k (R := vs.take k) (by simp)
  have hlv : (vs.take k).length = k := by rw [qaT] at hl ⊢; omega
  refine qN hok (jq ho hT hv (by simpa using hr) hlv) (.agg (by rw [hlv, hl]) (fun j d v h1 h2 => ?_))
  rw [qbh] at h1 h2
  split at h1
  ·rename_i hi
   rw [if_pos hi] at h2
   exact h j d v h1 h2
  ·cases h1
theorem Qj {α : Type} {mk : α → List D} {l : List α} {T T' : TypeId} {x : Operand} {i j sz n : Nat} (ho : o.op = .load T x) (hT : tyB P T = some (true, sz)) (hx : Ev pc F x (.aloc i (j * sz))) (hM : M[i]? = some (.arx T' sz n (l.flatMap mk))) (hmk : ∀ a, (mk a).length = sz) (hj : j < l.length) : DOp P pc o F M [i] (.agg (mk l[j])) [] := by
 intro hp a s hok hops hfp
 have hr := qq hp hx (by simp [ho, Op.operands]) hops
 generalize hv : a.eval x = vx at hr
 cases hr with
 | @aloc _ _ n' c b h =>
  obtain ⟨_, hl, _, _, vs, q3, hc, q4⟩ := Kq hok (by rw [hfp i (by simp)]; exact hM) h
  have hR := ja hc (j * sz) sz (R := (vs.drop (j * sz)).take sz) rfl
  have hm : ((l.flatMap mk).drop (j * sz)).take sz = mk l[j] := by rw [vD hmk, List.drop_eq_getElem_cons hj, qaL, List.take_left' (hmk _)]
  have hlen : ((vs.drop (j * sz)).take sz).length = sz := by
   have h8 := congrArg List.length hm
   rw [hmk, qaT, qaZ] at h8
   rw [qaT, qaZ, q3]
   exact h8
  rw [qau] at hR
  refine qN hok (jq ho hT hv hR hlen) (.agg (by rw [hlen, hmk]) fun p d v h1 h2 => ?_)
  rw [← hm] at h1
  rw [qbh] at h1 h2
  split at h1
  ·rename_i hi
   rw [if_pos hi] at h2
   rw [qba] at h1 h2
   exact q4 _ d v h1 h2
  ·cases h1
theorem xO {T e : TypeId} {by' sz n m i j : Nat} {x y : Operand} {l l2 : List D} {Z : List Value} (ho : o.op = .call { callee := .builtin .append, args := #[x, y], argTypes := #[T, T] }) (hT : slE P T = some (e, sz, by')) (hZ : zrC P e = some Z) (hZl : Z.length = sz)
  (hx : Ev pc F x (.arr i)) (hy : Ev pc F y (.slm sz m l2)) (hM : M[i]? = some (.arx e sz n l)) (hj : M[j]? = some .hole) (h1 : l2.all D.oc2 = true) (hbd : pc = true → (n + m) * by' ≤ 140737488355328 ∧ n + m ≤ 140737488355328) :
  DOp P pc o F M [i, j] (.arr j) [(i, .gone), (j, .arx e sz (n + m) (l ++ l2))] := by
 intro hp a s hok hops hfp
 obtain ⟨e1, ti, e2, e3, e4⟩ := kM hT
 obtain ⟨ti', z, q1, q2, q3⟩ := jE hZ
 rw [e2] at q1
 obtain rfl := qay q1
 obtain ⟨b1, b2⟩ := hbd hp
 have hM' : s.M[i]? = some (.arx e sz n l) := by rw [hfp i (by simp)]; exact hM
 have hj' : s.M[j]? = some .hole := by rw [hfp j (by simp)]; exact hj
 have hij : i ≠ j := fun h => by subst h; rw [hM'] at hj'; cases hj'
 have hjl : j < s.β.length := by rw [hok.len]; exact (qas.1 hj').1
 have hrx := qq hp hx (by simp [ho, Op.operands, Call.operands]) hops
 have hry := qq hp hy (by simp [ho, Op.operands, Call.operands]) hops
 generalize hv : a.eval x = vx at hrx
 generalize hvy : a.eval y = vy at hry
 cases hry with
 | @slm _ _ cap2 a2 _ vs2 hnl2 hl2 hn2 hc2 ha2 hvl2 hel2 hm2 =>
 have hso : SrcOk s (.slice a2 m cap2) m vs2 := by
  refine ⟨a2, cap2, rfl, ?_⟩
  cases a2 with
  | none =>
   have := ha2 rfl
   exact .inl ⟨rfl, by omega, this, qaW (by rw [hvl2, hl2, show m = 0 by omega, Nat.zero_mul])⟩
  | some ad =>
   refine .inr ⟨ad, rfl, fun k u hk => ?_⟩
   rcases hm2 with e | ⟨b, q, e, hI, hcl⟩
   ·rw [e] at hvl2
    rw [qaW hvl2] at hk
    simp at hk
   ·cases e
    rw [Addr.add_mid]
    exact hcl k u hk
 have hone : ∀ u ∈ vs2, u.oneCell' = true := fun u hu => by
  obtain ⟨k, hk, rfl⟩ := List.getElem_of_mem hu
  have hk2 : k < l2.length := by omega
  exact Qi (hel2 k _ _ (qat hk2) (qat hk)) (qaV.1 h1 _ (qbf hk2))
 cases hrx with
 | @arr _ ad n' c hβ =>
  obtain ⟨vs, hk, hvl, hel⟩ := hok.blk i _ _ hM' hβ
  obtain ⟨h', w', r1, r2, r3, r4⟩ := vr (P := P) (ty := o.type) (m := m) e1 e2 e3 e4 q2 (by rw [← hZl, ← q3]; simp) hk (by rw [hvl2]; exact hl2) hso hone (by unfold maxLen; omega) b1
  have hs' : (h' = .slice none 0 0) ∨ ∃ a n c, h' = .slice (some a) n c := by
   rcases r2.2 with ⟨q, _⟩ | ⟨g, cap, cur, q, _⟩
   ·exact .inl q
   ·exact .inr ⟨_, _, _, q⟩
  have hs0 : (Value.slice ad n' c = .slice none 0 0) ∨ ∃ a n k, Value.slice ad n' c = .slice (some a) n k := by
   rcases hk.2 with ⟨q, _⟩ | ⟨g, cap, cur, q, _⟩
   ·exact .inl q
   ·exact .inr ⟨_, _, _, q⟩
  have o1 := u4 hs'
  have o0 := u4 hs0
  have hblk : s.w.heap.size ≤ w'.heap.size := r3.size
  have hβj : s.β[j]? = some .nilFunc := by
   have q : s.β[j]? = some s.β[j] := qat hjl
   have : s.β[j] = .nilFunc := hok.blk j .hole _ hj' q
   rw [q, this]
  have from_ : ∀ b, hb h' = some b → s.w.heap.size ≤ b ∨ (hb (Value.slice ad n' c) = some b) := by
   intro b hbb
   rw [o1] at hbb
   rcases r4 b hbb with h | h
   ·exact .inr (by rw [o0]; exact h)
   ·exact .inl h
  have hnd' : ∀ (k : Nat) h, s.β[k]? = some h → h ≠ .nilFunc → (s.β.set j h')[k]? = some h := fun k h hk' hne => by
   by_cases e : j = k
   ·subst e; rw [hβj] at hk'; exact absurd (qay hk').symm hne
   ·rw [qaG e]; exact hk'
  have imm' : ∀ b, s.I b → w'.heap[b]? = s.w.heap[b]? := fun b hI => r3.block b (hok.il b hI) fun h => by
   rw [← o0] at h
   exact (hok.lt b (qk hM' rfl hβ h.symm)).2 hI
  have hblkx : BlkOk ⟨s.β.set j h', s.I, (s.M.set i .gone).set j (.arx e sz (n + m) (l ++ l2)), w'⟩ h' (.arx e sz (n + m) (l ++ l2)) := by
   refine ⟨vs ++ vs2, r2, by simp [hvl, hvl2], fun k d v hk1 hk2 => ?_⟩
   by_cases hlt : k < l.length
   ·rw [qaN hlt] at hk1
    rw [qaN (by omega)] at hk2
    exact Rep.mono' (s' := ⟨s.β.set j h', s.I, (s.M.set i .gone).set j (.arx e sz (n + m) (l ++ l2)), w'⟩) hnd' (fun _ h => h) imm' (hel k d v hk1 hk2)
   ·rw [qaP (by omega)] at hk1 hk2
    rw [hvl] at hk2
    exact Rep.mono' (s' := ⟨s.β.set j h', s.I, (s.M.set i .gone).set j (.arx e sz (n + m) (l ++ l2)), w'⟩) hnd' (fun _ h => h) imm' (hel2 _ d v hk1 hk2)
  have ht : Tr s ⟨s.β.set j h', s.I, (s.M.set i .gone).set j (.arx e sz (n + m) (l ++ l2)), w'⟩ := by
   refine kR hok j (s.M.set i .gone) h' _ w' (by simp) (fun k kb hkb => ?_) (by rw [← hok.len]; exact hjl) (.inl hβj) (by rcases hs' with rfl | ⟨_, _, _, rfl⟩ <;> simp) hblkx (fun b hbb k kb hh hne q1 q2 q3 q4 => ?_) (fun b hbb => (from_ b hbb).imp id fun h => qk hM' rfl hβ h) (fun b hbb => ?_) (fun b => hb (Value.slice ad n' c) = some b) (fun b hdr => ⟨qk hM' rfl hβ hdr, fun k kb hh hne q1 q2 q3 q4 => ?_⟩) (fun b hlt hne hnd => ?_) r3.os r3.tape r3.output hblk
   ·by_cases hki : i = k
    ·subst hki
     have hlt : i < s.M.length := (qas.1 hM').1
     rw [qaI hlt] at hkb
     exact .inr (qay hkb).symm
    ·rw [qaG hki] at hkb; exact .inl hkb
   ·have hki : i ≠ k := fun h => by
     subst h
     have hlt : i < s.M.length := (qas.1 hM').1
     rw [qaI hlt] at q1
     cases q1; cases q2
    rw [qaG hki] at q1
    rcases from_ b hbb with h | h
    ·exact absurd (hok.lt b (qk q1 q2 q3 q4)).1 (Nat.not_lt.2 h)
    ·exact hki (hok.inj i k _ kb _ hh b hM' rfl hβ h q1 q2 q3 q4)
   ·replace hbb : hb h' = some b := hbb
    rw [o1] at hbb
    exact (r2.lt b hbb).2
   ·have hki : i ≠ k := fun h => by
     subst h
     have hlt : i < s.M.length := (qas.1 hM').1
     rw [qaI hlt] at q1
     cases q1; cases q2
    rw [qaG hki] at q1
    exact hki (hok.inj i k _ kb _ hh b hM' rfl hβ hdr q1 q2 q3 q4)
   ·exact r3.block b hlt fun h => hnd (by rw [o0]; exact h.symm)
  refine kV (s' := ⟨s.β.set j h', s.I, (s.M.set i .gone).set j (.arx e sz (n + m) (l ++ l2)), w'⟩) (kP ho (fun cs => by rfl) (by simpa [hv, hvy] using r1)) ht rfl ?_
  rcases hs' with rfl | ⟨_, _, _, rfl⟩
  ·exact .arr (by simp [hjl])
  ·exact .arr (by simp [hjl])
end
section
variable {P : Program} {s0 : St} {n : Cx}
theorem Vd {F : Fr} {M : List Blk} {a : Act} {w : World} {T e : TypeId} {p q i sz m : Nat} {l ds : List D} (h : Inv s0 n F M a w) (hM : M[p]? = some (.mix T l)) (hq : l[q]? = some (.arr i)) (hi : M[i]? = some (.arx e sz m ds)) (hnl : D.nlL ds = true) : Inv s0 n F ((M.set i .gone).set p (.mix T (l.set q (.slm sz m ds)))) a w := by
 obtain ⟨h0, s, rfl, rfl, h3, h4, h5, h6⟩ := h
 have hpl : p < s.M.length := (qas.1 hM).1
 have hil : i < s.M.length := (qas.1 hi).1
 have hpi : p ≠ i := fun e => by subst e; rw [hM] at hi; cases hi
 have hpl' : p < s.β.length := by rw [h3.ok.len]; exact hpl
 have hil' : i < s.β.length := by rw [h3.ok.len]; exact hil
 have hβi : s.β[i]? = some s.β[i] := qat (by rw [h3.ok.len]; exact hil)
 have hβp : s.β[p]? = some s.β[p] := qat (by rw [h3.ok.len]; exact hpl)
 obtain ⟨b, vs, e1, e2, e3, e4⟩ := h3.ok.blk p _ _ hM hβp
 obtain ⟨us, hk, q3, q4⟩ := h3.ok.blk i _ _ hi hβi
 have hql : q < l.length := (qas.1 hq).1
 have hcell : vs[q]? = some s.β[i] := by
  have hv : vs[q]? = some vs[q] := qat (by omega)
  have := e4 q _ _ hq hv
  rw [hv]
  generalize vs[q] = x at this
  cases this with
  | arr h => exact h.symm.trans hβi
 have main : ∃ I' : Nat → Prop, Tr s ⟨s.β, I', s.M.set i .gone, s.w⟩ ∧ Rep ⟨s.β, I', s.M.set i .gone, s.w⟩ (.slm sz m ds) s.β[i] := by
  rcases hk.2 with ⟨g1, g2⟩ | ⟨g, cap, cur, g1, g2, g3', g4, g5, g6, g7⟩
  ·subst g2
   have hl0 : ds = [] := qaW (by rw [← q3, hk.1, Nat.zero_mul])
   refine ⟨s.I, ?_, ?_⟩
   ·have hnd : ∀ (i : Nat) h, s.β[i]? = some h → h ≠ .nilFunc → s.β[i]? = some h := fun _ _ h _ => h
    have old : ∀ (j : Nat) k, (s.M.set i .gone)[j]? = some k → k = .gone ∨ s.M[j]? = some k := fun j k hj => by
     by_cases e : i = j
     ·subst e
      rw [qaI hil] at hj
      exact .inl (qay hj).symm
     ·rw [qaG e] at hj; exact .inr hj
    have lv : ∀ b, Live ⟨s.β, s.I, s.M.set i .gone, s.w⟩ b → Live s b := by
     rintro b ⟨j, k, h, h1, h2, h3, h4⟩
     rcases old j k h1 with rfl | h1
     ·cases h2
     ·exact qk h1 h2 h3 h4
    refine ⟨⟨by simp [h3.ok.len], fun j k h h1 h2 => ?_, fun b hb => h3.ok.lt b (lv b hb), ?_, h3.ok.il⟩, jy hnd, fun _ h => h, fun _ h => .inl h, fun _ _ _ => rfl, fun b h => .inr (lv b h), rfl, rfl, rfl, qaO _⟩
    ·rcases old j k h1 with rfl | h1
     ·trivial
     ·exact BlkOk.mono (s := s) (s' := ⟨s.β, s.I, s.M.set i .gone, s.w⟩) hnd (fun _ h => h) (fun _ _ => rfl) (h3.ok.blk j k h h1 h2) (fun _ _ _ => rfl)
    ·intro j j2 k k2 x x2 b a1 a2 a3 a4 c1 c2 c3 c4
     rcases old j k a1 with rfl | a1
     ·cases a2
     ·rcases old j2 k2 c1 with rfl | c1
      ·cases c2
      ·exact h3.ok.inj j j2 k k2 x x2 b a1 a2 a3 a4 c1 c2 c3 c4
   ·rw [g1, hl0]
    exact .slm (vs := []) rfl (by simp) (qaO _) (qa5 _) (fun _ => rfl) rfl (fun j d v h => by simp at h) (.inl rfl)
  ·have tt := Ja h3.ok hi rfl hβi (show hb s.β[i] = some g by rw [g1]; rfl) s.w (fun _ _ => rfl) rfl rfl rfl rfl
   refine ⟨_, tt, ?_⟩
   rw [g1]
   refine .slm (vs := us) hnl (by rw [← q3]; exact hk.1) g4 g5 (fun e => by cases e) q3 (fun j d v hj hv => (q4 j d v hj hv).mono h3.ok tt) (.inr ⟨g, 0, rfl, .inr rfl, ?_⟩)
   have hc := qK (qd g3' 0) 0 (m * sz)
   show qW s.w g 0 us
   simpa [g7] using hc
 obtain ⟨I', tt, hrep⟩ := main
 have hM2 : (s.M.set i .gone)[p]? = some (.mix T l) := by rw [qaG (Ne.symm hpi)]; exact hM
 have hset : s.β.set p s.β[p] = s.β := List.set_getElem_self ..
 have t2 : Tr ⟨s.β, I', s.M.set i .gone, s.w⟩ ⟨s.β, I', (s.M.set i .gone).set p (.mix T (l.set q (.slm sz m ds))), s.w⟩ := by
  have hst := kR tt.ok p (s.M.set i .gone) s.β[p] (.mix T (l.set q (.slm sz m ds))) s.w rfl (fun i k h => .inl h) (by simpa using hpl) (.inr (.inl hβp)) (by rw [e1]; simp) ?_ (fun b' hb' j kj hj hne h1 h2 h3' h4' => ?_) (fun b' hb' => .inr (qk hM2 rfl hβp hb')) (fun b' hb' => (tt.ok.lt b' (qk hM2 rfl hβp hb')).1) (fun _ => False) (fun _ h => h.elim) (fun b' hlt hne _ => rfl) rfl rfl rfl (qaO _)
  ·have hst' := hst
   simp only [hset] at hst'
   exact hst'
  ·refine ⟨b, vs, e1, e2, by simp [e3], fun j d v g1 g2 => ?_⟩
   have lift : ∀ {d v}, Rep s d v → Rep ⟨s.β.set p s.β[p], I', (s.M.set i .gone).set p (.mix T (l.set q (.slm sz m ds))), s.w⟩ d v := fun hr => by
    rw [hset]
    exact Rep.mono' (s := ⟨s.β, I', s.M.set i .gone, s.w⟩) (s' := ⟨s.β, I', (s.M.set i .gone).set p (.mix T (l.set q (.slm sz m ds))), s.w⟩) (fun _ _ h _ => h) (fun _ h => h) (fun _ _ => rfl) (hr.mono h3.ok tt)
   by_cases e : q = j
   ·subst e
    rw [qaI hql] at g1
    cases g1
    rw [hcell] at g2
    cases g2
    rw [hset]
    exact Rep.mono' (s := ⟨s.β, I', s.M.set i .gone, s.w⟩) (s' := ⟨s.β, I', (s.M.set i .gone).set p (.mix T (l.set q (.slm sz m ds))), s.w⟩) (fun _ _ h _ => h) (fun _ h => h) (fun _ _ => rfl) hrep
   ·rw [qaG e] at g1
    exact lift (e4 j d v g1 g2)
  ·exact hne (tt.ok.inj j p kj _ hj _ b' h1 h2 h3' h4' hM2 rfl hβp hb')
 exact ⟨h0, ⟨s.β, I', (s.M.set i .gone).set p (.mix T (l.set q (.slm sz m ds))), s.w⟩, rfl, rfl, (h3.trans tt).trans t2, fun x d hd => ((h4 x d hd).mono h3.ok tt).mono tt.ok t2, h5, (h6.mono h3.ok tt).mono tt.ok t2⟩
theorem Ku {c : Code} {F : Fr} {M M' : List Blk} {K : Cont} (p q : Nat) {T e : TypeId} {i sz m : Nat} {l ds : List D} (hnl : D.nlL ds = true) (hM : M[p]? = some (.mix T l)) (hq : l[q]? = some (.arr i)) (hi : M[i]? = some (.arx e sz m ds)) (hM' : (M.set i .gone).set p (.mix T (l.set q (.slm sz m ds))) = M') (h : dwp P s0 n c F M' K) : dwp P s0 n c F M K := by
 subst hM'
 exact fun a w hj => h a w (Vd hj hM hq hi hnl)
end
mutual
theorem WG (σ : List Nat) (V : Nat → Bool) (M : List Blk) : ∀ d : D, d.nl = true → vw σ V M d = some d
 | .val v, _ => rfl
 | .loc i o, h => by cases h
 | .arr i, h => by cases h
 | .aloc i o, h => by cases h
 | .own i sz o n, h => by cases h
 | .part i sz o n c, h => by cases h
 | .dpf L, _ => rfl
 | .pin b L, _ => rfl
 | .pip L, _ => rfl
 | .slf sz n L, _ => rfl
 | .slc sz n L, _ => rfl
 | .tup l, h => by rw [vw, wY σ V M l (by simpa [D.nl] using h)]; rfl
 | .agg l, h => by rw [vw, wY σ V M l (by simpa [D.nl] using h)]; rfl
 | .dpm l, _ => rfl
 | .slm sz n l, _ => rfl
 | .smc sz n l, _ => rfl
 | .fn f a b, h => by
  rw [D.nl, qav] at h
  rw [vw, wY σ V M a h.1, wY σ V M b h.2]
 | .ifc t d, h => by rw [vw, WG σ V M d (by simpa [D.nl] using h)]; rfl
 | .opt b d, h => by rw [vw, WG σ V M d (by simpa [D.nl] using h)]; rfl
 | .hnd i, h => by cases h
 | .yld i, h => by cases h
 | .junk, _ => rfl
theorem wY (σ : List Nat) (V : Nat → Bool) (M : List Blk) : ∀ l : List D, D.nlL l = true → vwL σ V M l = some l
 | [], _ => rfl
 | d :: l, h => by
  rw [D.nlL, qav] at h
  rw [vwL, WG σ V M d h.1, wY σ V M l h.2]
end
mutual
theorem WH (τ : List Nat) : ∀ d : D, d.nl = true → sb τ d = some d
 | .val v, _ => rfl
 | .loc i o, h => by cases h
 | .arr i, h => by cases h
 | .aloc i o, h => by cases h
 | .own i sz o n, h => by cases h
 | .part i sz o n c, h => by cases h
 | .dpf L, _ => rfl
 | .pin b L, _ => rfl
 | .pip L, _ => rfl
 | .slf sz n L, _ => rfl
 | .slc sz n L, _ => rfl
 | .tup l, h => by rw [sb, xc τ l (by simpa [D.nl] using h)]; rfl
 | .agg l, h => by rw [sb, xc τ l (by simpa [D.nl] using h)]; rfl
 | .dpm l, _ => rfl
 | .slm sz n l, _ => rfl
 | .smc sz n l, _ => rfl
 | .fn f a b, h => by
  rw [D.nl, qav] at h
  rw [sb, xc τ a h.1, xc τ b h.2]
 | .ifc t d, h => by rw [sb, WH τ d (by simpa [D.nl] using h)]; rfl
 | .opt b d, h => by rw [sb, WH τ d (by simpa [D.nl] using h)]; rfl
 | .hnd i, h => by cases h
 | .yld i, h => by cases h
 | .junk, _ => rfl
theorem xc (τ : List Nat) : ∀ l : List D, D.nlL l = true → sbL τ l = some l
 | [], _ => rfl
 | d :: l, h => by
  rw [D.nlL, qav] at h
  rw [sbL, WH τ d h.1, xc τ l h.2]
end
theorem XM (σ : List Nat) (V : Nat → Bool) (M : List Blk) (d : D) (h : d.nl = true) : vw1 σ V M d = some d := by
 cases d with
 | loc => cases h
 | arr => cases h
 | aloc => cases h
 | own => cases h
 | part => cases h
 | hnd => cases h
 | yld => cases h
 | floc => cases h
 | farr => cases h
 | faloc => cases h
 | _ => simp [vw1, h]
theorem Qk (σ : List Nat) (V : Nat → Bool) (M : List Blk) : ∀ l : List D, D.nlL l = true → gA σ V M l = some l
 | [], _ => rfl
 | d :: l, h => by
  rw [D.nlL, qav] at h
  rw [gA, XM σ V M d h.1, Qk σ V M l h.2]
theorem Gf : ∀ {a b : List D}, D.nlL a = true → D.nlL b = true → D.nlL (a ++ b) = true
 | [], _, _, h => h
 | d :: a, b, h, h' => by
  rw [D.nlL, qav] at h
  rw [qaE, D.nlL, h.1, Gf h.2 h']
  rfl
theorem ql {α : Type} {mk : α → List D} (h : ∀ a, D.nlL (mk a) = true) : ∀ l : List α, D.nlL (l.flatMap mk) = true
 | [] => rfl
 | a :: l => by rw [qaL]; exact Gf (h a) (ql h l)
theorem km {σ : List Nat} {V : Nat → Bool} {M : List Blk} {T : TypeId} {sz n n' : Nat} {l l' : List D} (hn : n = n') (h : l = l') (hv : D.nlL l' = true) : (vwL σ V M l).map (Blk.arx T sz n) = some (Blk.arx T sz n' l') := by
 subst hn h
 rw [wY σ V M l hv]
 rfl
theorem ke {τ : List Nat} {T : TypeId} {sz n : Nat} {l : List D} (h : D.nlL l = true) : sbB τ (.arx T sz n l) = some (.arx T sz n l) := by
 show (sbL τ l).map _ = _
 rw [xc τ l h]; rfl
section
variable {P : Program} {pc : Bool} {o : Oper} {F : Fr} {M : List Blk} {T : TypeId} {x y : Operand} {n : Nat} {k : IntKind} {z : Int} {j : Nat}
def arW (P : Program) (T : TypeId) : Option Nat := match P.underlying T with
 | some (.array n e) => match tyB P e with
  | some (false, 1) => some n
  | _ => none
 | _ => none
theorem WI (h : arW P T = some n) : ∃ e, P.underlying T = some (.array n e) ∧ tyB P e = some (false, 1) := by
 unfold arW at h
 split at h
 ·rename_i m e hu
  split at h
  ·rename_i hs; cases h; exact ⟨e, hu, hs⟩
  ·cases h
 ·cases h
theorem Ac {ds : List D} {d : D} (j : Nat) (ho : o.op = .index T x y) (hT : arW P T = some n) (hx : Ev pc F x (.agg ds)) (hy : Ev pc F y (.val (.int k z))) (hz : pc = true → z = (j : Int)) (hj : j < n) (hd : ds[j]? = some d) : DOp P pc o F M [] d [] := by
 intro hp a s hok hops _
 have hr := qq hp hx (by simp [ho, Op.operands]) hops
 have e2 := (qq hp hy (by simp [ho, Op.operands]) hops).val_eq
 rw [hz hp] at e2
 obtain ⟨e, hu, he⟩ := WI hT
 obtain ⟨dd, i, h1, h2, h3, h4⟩ := gi he
 generalize hv : a.eval x = vx at hr
 cases hr with
 | @agg _ vs hvl hel =>
  have hjl : j < vs.length := by rw [hvl]; exact (qas.1 hd).1
  refine qN (v := vs[j]) hok ?_ (hel j _ _ hd (qat hjl))
  unfold execOp
  simp only [ho, hv, e2]
  refine kO ?_
  have hagg : (isAgg e).run P s.w = .ok false s.w := by
   unfold isAgg
   rw [Sem.run_bind, run_underlying h1]
   cases dd <;> first | rfl | cases h3
  have hsz : (sizeOf e).run P s.w = .ok 1 s.w := by simp [sizeOf, typeInfo, h2, h4]
  have hb : (0 : Int) ≤ (j : Int) ∧ (j : Int) < (n : Int) := by omega
  unfold Instr.index
  simp only [Sem.run_bind, asIntOf, Sem.run_pure, Result.andThen_ok, run_underlying hu, hb, and_self, if_true, hsz, part, hagg, qbe, Nat.mul_one]
  simp [hjl]
end
end Go.Proofs.YtofklkbfkoliiaaGreat
namespace Go.Proofs.YtofklkbfkoliiaaGreat
set_option linter.unusedVariables false
set_option linter.unusedSimpArgs false
open Go.RowKit
def Ql (n : Nat) (lf : List Oper) (m : Nat) (fps : List (List Nat × List Nat)) : Bool :=
 let bs := ze lf []
 fps.length == m && qbl m lf.length && ((qaY lf.length).all fun j => match lf[j]? with
  | some oj => oj.after.all (fun e => !Region.binds .any e || qbl e.on j) && (Nat.ble j m || (bs.getD j 0).testBit m)
  | none => false) && ((qaY m).all fun i => (bs.getD m 0).testBit i) && (qaY m).all fun j =>
  match lf[j]?, fps[j]? with
  | some oj, some fj => KU n oj.dst && gq oj.op && fj.2.all (fun x => fj.1.contains x) && (qaY j).all fun i =>
   match lf[i]?, fps[i]? with
   | some oi, some fi => K0 lf.toArray (bs.getD j 0) i oi oj fi fj
   | _, _ => false
  | _, _ => false
theorem yz {P : Program} {s0 : St} {n : Cx} {id : Nat} {lf : List Oper} {op : Oper} {F : Fr} {M : List Blk} {K : Cont} (m : Nat) (fps : List (List Nat × List Nat)) (hm : P.follows .mixedOrders = true) (hB : Ql n.n lf m fps = true) (hopn : lf[m]? = some op) (hndm : gq op.op = true)
  (h : Lex P lf.toArray (lf.take m) fps F M (fun F1 M1 => ∃ fp d wr, op.guard = none ∧ DOpP P true op F1 M1 fp d wr ∧ K (.panic d) F1 (upd M1 wr))) :
  dwp P s0 n (.region id lf.toArray true) F M K := by
 intro a w hi
 refine wpIn_region_any hm ?_
 simp only [Ql, qav, beq_iff_eq, qaV, List.mem_range] at hB
 obtain ⟨⟨⟨⟨hlen0, hml⟩, hedge⟩, hpre0⟩, hB⟩ := hB
 have hml := Nat.blt_eq.mp hml
 obtain ⟨l, hl⟩ : ∃ l, l = lf.take m := ⟨_, rfl⟩
 have hllen : l.length = m := by rw [hl, qaT]; omega
 rw [← hl] at h
 have hlen : fps.length = l.length := by omega
 have htk : ∀ i, i < l.length → l[i]? = lf[i]? := fun i hi => by rw [hl, qbh, if_pos (by omega)]
 have hon : ∀ (j : Nat) o, lf[j]? = some o → ∀ e ∈ o.after.toList, Region.binds .any e = true → e.on < j := by
  intro j o ho e he hb
  have h1 := hedge j (qas.1 ho).1
  rw [ho] at h1
  simp only [qav] at h1
  have := Array.all_eq_true_iff_forall_mem.1 h1.1 e (by simpa using he)
  rw [hb] at this
  exact Nat.blt_eq.mp (by simpa using this)
 have hbeh : ∀ i, l.length < i → i < lf.length → gu lf l.length i = true := by
  intro i h1 h2
  have h3 := hedge i h2
  rw [qat h2] at h3
  simp only [qav, qaB] at h3
  rcases h3.2 with h4 | h4
  ·have := Nat.ble_eq.mp h4; omega
  ·rw [hllen]; exact h4
 have hpre : ∀ j, j < l.length → gu lf j l.length = true := fun j hj => by rw [hllen]; exact hpre0 j (by omega)
 subst hllen
 obtain ⟨E, e1, e2, e3⟩ := zg l fps F M hlen h
 have at_ : ∀ k, k < l.length → ∃ o f, l[k]? = some o ∧ fps[k]? = some f := fun k hk => ⟨l[k], fps[k], qat hk, qat (by omega)⟩
 have hone : ∀ (j : Nat) o f, l[j]? = some o → fps[j]? = some f → (∀ e ∈ o.after.toList, Region.binds .any e = true → e.on < j) ∧ KU n.n o.dst = true ∧ gq o.op = true ∧ (∀ x ∈ f.2, x ∈ f.1) ∧ ∀ (i : Nat) oi fi, i < j → l[i]? = some oi → fps[i]? = some fi → gu lf i j = true ∨ (gS oi.dst.toList (j7 lf.toArray o) = false ∧ gS (j7 lf.toArray oi) o.dst.toList = false ∧ gS fi.2 f.1 = false ∧ gS fi.1 f.2 = false) := by
  intro j o f ho hf
  have hj : j < l.length := (qas.1 ho).1
  have h1 := hB j hj
  have ho2 := ho
  rw [htk j hj] at ho2
  rw [ho2, hf] at h1
  simp only [qav, qaV, List.mem_range] at h1
  obtain ⟨⟨⟨h2, hnd⟩, h3⟩, h4⟩ := h1
  refine ⟨hon j o ho2, h2, hnd, fun x hx => by simpa using h3 x hx, fun i oi fi hij hoi hfi => ?_⟩
  have h5 := h4 i hij
  rw [← htk i (by omega), hoi, hfi] at h5
  simp only [K0, qaB, qaz, qax] at h5
  rcases h5 with h5 | h5
  ·exact .inl h5
  ·exact .inr ⟨h5.1.1.1, h5.1.1.2, h5.1.2, h5.2⟩
 have meet_no : ∀ {x : List Nat} {y : List Nat} {t : Nat}, gS x y = false → t ∈ x → t ∈ y → False := by
  intro x y t hm hx hy
  simp only [gS, List.any_eq_false] at hm
  exact hm t hx (by simpa using hy)
 have main : ∀ (f : Nat) (listed : Array Bool) (b : Act) (s : St), Ok s0 → listed.size = lf.length → (∀ k, l.length ≤ k → listed.getD k false = false) → unl listed lf.length = f → Tr s0 s →
   (∀ t d, lkS l E F (fun k => listed.getD k false) t l.length = some d → Rep s d (jh b t)) → s.M.length = M.length → (∀ i, i < M.length → s.M[i]? = ya E M (fun k => listed.getD k false) i l.length) →
   b.tmps.size = n.n → DfOk s0 s n.mks n.U b.defers → (∀ j i, listed.getD j false = true → j < l.length → gu lf i j = true → listed.getD i false = true) →
   wpAnyIn (wd (n.ρ s0)) 0 P .any lf.toArray (PostK s0 n K) f listed b s.w := by
  intro f
  induction f with
  | zero =>
   intro listed b s h0 hs hbig hu ht hF hMl hM hn hd _
   have hall := v6 _ hu
   have h1 := hall l.length (by omega)
   rw [hbig l.length (qaO _)] at h1
   cases h1
  | succ f ih =>
   intro listed b s h0 hs hbig hu ht hF hMl hM hn hd hcl
   refine ⟨fun hnone => ?_, fun i hi => ?_⟩
   ·exfalso
    obtain ⟨i, h1, h2, h3⟩ := uq lf.length (listed := listed) (by omega)
    obtain ⟨o, ho⟩ : ∃ o, lf[i]? = some o := ⟨lf[i], qat h1⟩
    have g1 := hon i o ho
    have : i ∈ Region.ready .any lf.toArray listed := mem_ready.2 ⟨by rw [yQ hs h1]; exact h2, o, by simpa using ho, fun e he hb => h3 _ (g1 e (by simpa using he) hb)⟩
    rw [hnone] at this
    cases this
   ·obtain ⟨hun, o, ho, hall⟩ := mem_ready.1 hi
    have hof : lf[i]? = some o := by simpa using ho
    have hilf : i < lf.length := (qas.1 hof).1
    rw [yQ hs hilf] at hun
    have done0 : ∀ j, gu lf j i = true → listed.getD j false = true := by
     intro j hj
     obtain ⟨e, he, hb, hcase⟩ := wN hof hj
     have h1 := hall e (by simpa using he) hb
     rcases hcase with rfl | ⟨h2, h3⟩
     ·exact h1
     ·refine hcl e.on j h1 ?_ h3
      refine Classical.byContradiction fun hno => ?_
      rw [hbig e.on (by omega)] at h1
      cases h1
    by_cases hgt : l.length < i
    ·exfalso
     have h1 := done0 l.length (hbeh i hgt hilf)
     rw [hbig l.length (qaO _)] at h1
     cases h1
    by_cases him : i = l.length
    ·subst him
     have hall2 : ∀ j, j < l.length → listed.getD j false = true := fun j hj => done0 j (hpre j hj)
     rw [hof] at hopn
     obtain rfl := qay hopn
     obtain ⟨fp, d, wr, q1, q2, q3⟩ := e2
     have hFk : FOk s (Fup l E F l.length) b := fun t d hd' => by
      rw [wO] at hd'
      refine hF t d ?_
      rw [← hd']
      exact jQ _ fun j o hj _ _ => hall2 j hj
     have hMk : s.M = Mup E M l.length := by
      refine qbi fun i => ?_
      by_cases hi : i < M.length
      ·rw [hM i hi, wP i hi]
       exact jv _ fun j r hj _ _ => hall2 j hj
      ·rw [qa4 (by omega), qa4 (by rw [Mup_len]; omega)]
     unfold wpOpIn
     rw [ho]
     simp only
     have hw : Region.wanted o (yielded lf.toArray b.tmps) = true := by unfold Region.wanted; rw [q1]
     rw [if_pos hw]
     refine x9 hndm (q2 rfl b s ht.ok (fun x _ d hd => vW hFk hd) (fun i _ => by rw [hMk])) fun s' v ht' ⟨w1, w2⟩ => ?_
     exact ⟨Fup l E F l.length, upd (Mup E M l.length) wr, d, ⟨h0, s', v, w1.trans (by rw [hMk]), rfl, ht.trans ht', hFk.mono ht.ok ht', hn, hd.mono ht.ok ht', rfl, w2⟩, q3⟩
    have hil : i < l.length := by omega
    have ho' : l[i]? = some o := by rw [hl, qbh, if_pos (by omega)]; exact hof
    obtain ⟨fi, hfi⟩ : ∃ fi, fps[i]? = some fi := ⟨fps[i], qat (by omega)⟩
    obtain ⟨pc, d, r, hr, hrd, hg, hop, hwi, hgw⟩ := e3 i o fi ho' hfi
    obtain ⟨g1, g2, hnd, g3, g4⟩ := hone i o fi ho' hfi
    have done := done0
    have undone : ∀ j, j < l.length → gu lf i j = true → listed.getD j false = false := by
     intro j hj h1
     cases e : listed.getD j false with
     | false => rfl
     | true => rw [hcl j i e hj h1] at hun; cases hun
    have tset : ∀ t, t ∈ j7 lf.toArray o → lkS l E F (fun k => listed.getD k false) t l.length = lkS l E F (fun _ => true) t i := by
     intro t ht
     rw [gZ i l.length (by omega) fun j oj h1 h2 hj hjd => ?_]
     ·refine jQ i fun j oj hj hoj hjd => ?_
      obtain ⟨fj, hfj⟩ : ∃ fj, fps[j]? = some fj := ⟨fps[j], qat (by omega)⟩
      rcases g4 j oj fj hj hoj hfj with h1 | h1
      ·exact done j h1
      ·exact (meet_no h1.1 (by simp [hjd]) ht).elim
     ·by_cases e : j = i
      ·subst e; exact hun
      ·obtain ⟨fj, hfj⟩ : ∃ fj, fps[j]? = some fj := ⟨fps[j], qat (by omega)⟩
       rcases (hone j oj fj hj hfj).2.2.2.2 i o fi (by omega) ho' hfi with h3 | h3
       ·exact undone j h2 h3
       ·exact (meet_no h3.2.1 ht (by simp [hjd])).elim
    have mset : ∀ x, x ∈ fi.1 → ya E M (fun k => listed.getD k false) x l.length = ya E M (fun _ => true) x i := by
     intro x hx
     have wmem : ∀ (j : Nat) rj fj, E[j]? = some rj → fps[j]? = some fj → j < l.length → (vq rj.wr x).isSome = true → x ∈ fj.2 := by
      intro j rj fj hrj hfj hj hw
      obtain ⟨oj, _, hoj, _⟩ := at_ j hj
      obtain ⟨_, _, r', hr', _, _, _, hw', _⟩ := e3 j oj fj hoj hfj
      rw [hrj] at hr'
      obtain rfl := qay hr'
      rw [← hw']
      refine Classical.byContradiction fun hno => ?_
      rw [jA _ _ hno] at hw
      cases hw
     rw [jB i l.length (by omega) fun j rj h1 h2 hrj hw => ?_]
     ·refine jv i fun j rj hj hrj hw => ?_
      obtain ⟨oj, fj, hoj, hfj⟩ := at_ j (by omega)
      rcases g4 j oj fj hj hoj hfj with h1 | h1
      ·exact done j h1
      ·exact (meet_no h1.2.2.1 (wmem j rj fj hrj hfj (by omega) hw) hx).elim
     ·by_cases e : j = i
      ·subst e; exact hun
      ·obtain ⟨oj, fj, hoj, hfj⟩ := at_ j (by omega)
       rcases (hone j oj fj hoj hfj).2.2.2.2 i o fi (by omega) ho' hfi with h3 | h3
       ·exact undone j h2 h3
       ·exact (meet_no h3.2.2.2 hx (wmem j rj fj hrj hfj h2 hw)).elim
    have hslot : ∀ t d, t ∈ o.looksAt lf.toArray → lk (Fup l E F i) t = some d → Rep s d (jh b t) := by
     intro t d' ht hd'
     refine hF t d' ?_
     rw [tset t (List.mem_append_left _ ht), ← wO]
     exact hd'
    have next : ∀ (s' : St) (v : Value), Tr s s' → s'.M = upd s.M r.wr → Rep s' r.d v → wpAnyIn (wd (n.ρ s0)) 0 P .any lf.toArray (PostK s0 n K) f (listed.setIfInBounds i true) (b.put o.dst v) s'.w := by
     intro s' v ht' hM' hrep
     have hset : ∀ k, (listed.setIfInBounds i true).getD k false = if i = k then true else listed.getD k false := fun k => ur _ _ _ (by rw [hs]; exact hilf)
     refine ih _ _ s' h0 (by simp [hs]) (fun k hk => by rw [hset, if_neg (by omega)]; exact hbig k hk) ?_ (ht.trans ht') ?_ (by rw [hM', wu, hMl]) ?_ (by rw [jX]; exact hn) (by rw [yk]; exact hd.mono ht.ok ht') ?_
     ·have := xH (by rw [hs]; exact hilf) hun lf.length
      rw [if_pos hilf] at this
      omega
     ·intro t d' hd'
      by_cases htd : o.dst = some t
      ·have e : lkS l E F (fun k => (listed.setIfInBounds i true).getD k false) t l.length = some r.d := by
        rw [gZ (i + 1) l.length (by omega) fun j oj h1 h2 hj hjd => ?_]
        ·unfold lkS
         rw [ho', hr]
         simp only
         rw [if_pos ⟨by rw [hset, if_pos rfl], htd⟩]
        ·rw [hset, if_neg (by omega)]
         obtain ⟨fj, hfj⟩ : ∃ fj, fps[j]? = some fj := ⟨fps[j], qat (by omega)⟩
         rcases (hone j oj fj hj hfj).2.2.2.2 i o fi (by omega) ho' hfi with h3 | h3
         ·exact undone j h2 h3
         ·exact (meet_no (t := t) h3.2.1 (List.mem_append_right _ (by simp [htd])) (by simp [hjd])).elim
       rw [e] at hd'
       obtain rfl := qay hd'
       have hsz : t < b.tmps.size := by
        rw [htd] at g2
        rw [hn]
        exact Nat.blt_eq.mp g2
       rw [htd, yB, if_pos ⟨rfl, hsz⟩]
       exact hrep
      ·have e : jh (b.put o.dst v) t = jh b t := by
        cases hod : o.dst with
        | none => rfl
        | some x => rw [yB, if_neg (fun q => htd (by rw [hod, q.1]))]
       rw [e]
       refine (hF t d' ?_).mono ht.ok ht'
       rw [← hd']
       refine jQ _ fun j oj hj hoj hjd => ?_
       rw [hset]
       by_cases ej : i = j
       ·subst ej
        rw [ho'] at hoj
        obtain rfl := qay hoj
        exact absurd hjd htd
       ·rw [if_neg ej]
     ·intro x hx
      rw [hM', ww _ _ _ (by omega), hM x hx]
      cases hw : vq r.wr x with
      | none =>
       rw [Option.none_or]
       refine jv _ fun j rj hj hrj hwj => ?_
       rw [hset]
       by_cases ej : i = j
       ·subst ej
        rw [hr] at hrj
        obtain rfl := qay hrj
        rw [hw] at hwj; cases hwj
       ·rw [if_neg ej]
      | some k =>
       rw [Option.some_or]
       have hxw : x ∈ fi.2 := by
        rw [← hwi]
        refine Classical.byContradiction fun hno => ?_
        rw [jA _ _ hno] at hw
        cases hw
       rw [jB (i + 1) l.length (by omega) fun j rj h1 h2 hrj hwj => ?_]
       ·unfold ya
        rw [hr]
        simp only
        rw [if_pos (by rw [hset, if_pos rfl]), hw, Option.some_or]
       ·rw [hset, if_neg (by omega)]
        obtain ⟨oj, fj, hoj, hfj⟩ := at_ j (by omega)
        rcases (hone j oj fj hoj hfj).2.2.2.2 i o fi (by omega) ho' hfi with h3 | h3
        ·exact undone j h2 h3
        ·refine (meet_no h3.2.2.2 (g3 x hxw) ?_).elim
         obtain ⟨_, _, r', hr', _, _, _, hw', _⟩ := e3 j oj fj hoj hfj
         rw [hrj] at hr'
         obtain rfl := qay hr'
         rw [← hw']
         refine Classical.byContradiction fun hno => ?_
         rw [jA _ _ hno] at hwj
         cases hwj
     ·intro j k hj hjl hk
      rw [hset] at hj ⊢
      by_cases e : i = k
      ·rw [if_pos e]
      ·rw [if_neg e]
       by_cases ej : i = j
       ·subst ej; exact done k hk
       ·rw [if_neg ej] at hj
        exact hcl j k hj hjl hk
    unfold wpOpIn
    rw [ho]
    simp only
    rw [wv hg hslot]
    cases pc with
    | true =>
     rw [if_pos rfl]
     refine vb hnd (hop rfl b s ht.ok (fun x hx d' hd' => ?_) (fun x hx => ?_)) fun s' v ht' ⟨q1, q2⟩ => next s' v ht' q1 ?_
     ·cases x with
      | tmp t => exact hslot t d' (List.mem_append_left _ (List.mem_filterMap.2 ⟨.tmp t, by simpa using hx, rfl⟩)) hd'
      | const v => obtain rfl := qay hd'; exact .val v
      | func g => obtain rfl := qay hd'; exact Rep.fn (vs := []) (us := []) rfl rfl (fun j d v h => by simp at h) (fun j d v h => by simp at h)
      | global g => obtain rfl := qay hd'; exact .val _
     ·by_cases hxl : x < M.length
      ·rw [hM x hxl, wP x hxl, mset x hx]
      ·rw [qa4 (by omega), qa4 (by rw [Mup_len]; omega)]
     ·rw [hrd]
      unfold gdd
      split
      ·exact q2
      ·exact .opt (fun _ => q2) (fun h => by cases h)
    | false =>
     rw [if_neg (by simp)]
     have hgs : o.guard.isSome = true := by
      unfold Gd at hg
      cases e : o.guard with
      | none => rw [e] at hg; cases hg
      | some x => rfl
     refine ⟨fun _ _ => trivial, next s undef (Tr.refl ht.ok) (by rw [hgw rfl]; rfl) ?_⟩
     rw [hrd]
     unfold gdd
     split
     ·rename_i e; rw [e] at hgs; cases hgs
     ·exact .opt (fun h => by cases h) (fun _ => rfl)
 obtain ⟨h0, s, h1, h2, h3, h4, h5, h6⟩ := hi
 subst h1 h2
 have hst := wq h3.ok { s.w with drawn := s.w.drawn + 1 } rfl rfl rfl rfl
 have hno : ∀ k, (qa7 lf.toArray.size false).getD k false = false := fun k => by
  simp only [Array.getD_eq_getD_getElem?, Array.getElem?_replicate]
  split <;> rfl
 have := main lf.length (qa7 lf.toArray.size false) a ⟨s.β, s.I, s.M, { s.w with drawn := s.w.drawn + 1 }⟩ h0 (by simp) (fun k _ => hno k) (by
   have := wy lf.toArray.size lf.length (by simp)
   exact this) (h3.trans hst) (fun t d hd => ?_) rfl (fun i hi => ?_) h5 (h6.mono h3.ok hst) (fun j i hj => by rw [hno] at hj; cases hj)
 ·simpa using this
 ·rw [gZ 0 l.length (by omega) fun j o _ _ _ _ => hno j] at hd
  exact (h4 t d hd).mono h3.ok hst
 ·rw [jB 0 l.length (by omega) fun j r _ _ _ _ => hno j]
  rfl
end Go.Proofs.YtofklkbfkoliiaaGreat
namespace Go.Proofs.YtofklkbfkoliiaaGreat
set_option linter.unusedVariables false
set_option linter.unusedSimpArgs false
open Go.RowKit
section
variable {P : Program} {pc : Bool} {o : Oper} {F : Fr} {M : List Blk}
theorem xP {T T' : TypeId} {x : Operand} {i p k : Nat} {l : List D} {R : List Value} (ho : o.op = .load T x) (hT : tyB P T = some (true, k)) (hx : Ev pc F x (.loc i p)) (hM : M[i]? = some (.mix T' l)) (hR : (l.drop p).take k = R.map .val) (hl : R.length = k) : DOp P pc o F M [i] (.val (.agg R.toArray)) [] := by
 intro hp a s hok hops hfp
 have hr := qq hp hx (by simp [ho, Op.operands]) hops
 generalize hv : a.eval x = vx at hr
 cases hr with
 | @loc _ _ b h =>
  obtain ⟨b', vs, e1, e2, e3, e4⟩ := hok.blk i _ _ (by rw [hfp i (by simp)]; exact hM) h
  cases e1
  have hvs : (vs.drop p).take k = R := by
   have hlen : ((vs.drop p).take k).length = R.length := by
    have h1 := congrArg List.length hR
    rw [qaT, qaZ, List.length_map] at h1
    rw [qaT, qaZ, e3, h1]
   refine List.ext_getElem hlen fun j h1 h2 => ?_
   have h3 : ((l.drop p).take k)[j]? = some (.val R[j]) := by rw [hR, qbb, qat h2]; rfl
   have hjk : j < k := by omega
   rw [qbh, if_pos hjk, qba] at h3
   have h5 : vs[p + j]? = some ((vs.drop p).take k)[j] := by
    have := qat h1
    rw [qbh, if_pos hjk, qba] at this
    exact this
   exact (e4 _ _ _ h3 h5).val_eq
  have hc : qW s.w b 0 vs := qd e2 0
  have hr := ja hc p k hvs
  rw [qau] at hr
  exact qN hok (jq ho hT hv hr hl) (.val _)
end
theorem jc {σ : List Nat} {V : Nat → Bool} {M : List Blk} {d d' : D} {l l' : List D} (h1 : vw σ V M d = some d') (h2 : vwL σ V M l = some l') : vwL σ V M (d :: l) = some (d' :: l') := by rw [vwL, h1, h2]
theorem XN {σ : List Nat} {V : Nat → Bool} {M : List Blk} {i : Nat} {T : TypeId} {sz n : Nat} {l : List D} (hp : pos σ i = none) (hV : V i = true) (hM : M[i]? = some (.arx T sz n l)) (h : D.nlL l = true) : vw σ V M (.arr i) = some (.slm sz n l) := by
 rw [vw, hp]
 show ui σ V M i = _
 unfold ui
 rw [hV, hM]
 show (gA σ V M _).map _ = _
 rw [Qk σ V M l h]; rfl
end Go.Proofs.YtofklkbfkoliiaaGreat
namespace Go.Proofs.YtofklkbfkoliiaaGreat
set_option linter.unusedVariables false
set_option linter.unusedSimpArgs false
open Go.RowKit
def Mem.blk : Mem → Blk
 | .gone => .gone
 | .flat T L => .flat T L
 | .arr T sz n L => .arr T sz n L
 | .que T sz n L => .que T sz n L
theorem XO {s : St} {h : Value} {B : Mem} (hk : BlkOk s h B.blk) : MemOk s.w h B := by cases B <;> exact hk
theorem uE (B : Mem) : B.blk.live = B.live := by cases B <;> rfl
theorem blk_owns {B : Mem} {h : Value} {b : Nat} : jb B.blk h b ↔ hb h = some b := by cases B <;> exact Iff.rfl
theorem Yv {s : St} (ho : Ok s) {i j : Nat} {Bs : List Mem} {B : Mem} {hs : List Value} {h : Value} (hi : s.M[i]? = some (.fam Bs)) (hj : s.M[j]? = some B.blk) (hl : B.live = true) (hβi : s.β[i]? = some (.tuple hs.toArray)) (hβj : s.β[j]? = some h) :
  Tr s ⟨s.β.set i (.tuple (hs ++ [h]).toArray), s.I, (s.M.set j .gone).set i (.fam (Bs ++ [B])), s.w⟩ := by
 have hne : i ≠ j := fun e => by subst e; rw [hi] at hj; cases B <;> cases hj
 have hil := (qas.1 hi).1
 have hjl := (qas.1 hj).1
 have hf := wL (k := 0) ho hi hβi
 have hlen := hf.len
 have hm : MemOk s.w h B := XO (ho.blk j _ h hj hβj)
 have other : ∀ b, jb (.fam (Bs ++ [B])) (.tuple (hs ++ [h]).toArray) b → jb (.fam Bs) (.tuple hs.toArray) b ∨ hb h = some b := by
  rintro b ⟨hs', k, B', u, e1, e2, e3, e4, e5⟩
  have e1 : hs ++ [h] = hs' := by simpa using e1
  subst e1
  by_cases hk : k < Bs.length
  ·rw [qaN hk] at e2
   rw [qaN (by omega)] at e4
   exact .inl ⟨hs, k, B', u, rfl, e2, e3, e4, e5⟩
  ·rw [qaP (by omega)] at e2 e4
   have hk0 : k - hs.length = 0 := by have := (qas.1 e4).1; simp at this; omega
   rw [hk0] at e4
   simp at e4
   subst e4
   exact .inr e5
 have lvi : ∀ b, jb (.fam Bs) (.tuple hs.toArray) b → Live s b := fun b hb => qk hi rfl hβi hb
 have lvj : ∀ b, hb h = some b → Live s b := fun b hb => qk hj (by rw [uE]; exact hl) hβj (blk_owns.2 hb)
 have ne : ∀ (k : Nat) kb, (s.M.set j .gone)[k]? = some kb → kb.live = true → j ≠ k ∧ s.M[k]? = some kb := fun k kb hkb hlv => by
  by_cases hk : j = k
  ·subst hk
   rw [qaI hjl] at hkb
   cases hkb; cases hlv
  ·rw [qaG hk] at hkb; exact ⟨hk, hkb⟩
 refine kR ho i (s.M.set j .gone) _ _ s.w (by simp) (fun k kb hkb => ?_) hil (.inr (.inr ⟨hs, hs ++ [h], hβi, rfl, fun k u hu => ?_⟩)) (by simp) ⟨_, rfl, ?_⟩ (fun b hb k kb hh hne' q1 q2 q3 q4 => ?_) (fun b hb => .inr ((other b hb).elim (lvi b) (lvj b))) (fun b hb => (ho.lt b ((other b hb).elim (lvi b) (lvj b))).1) (fun _ => False) (fun _ h => h.elim) (fun _ _ _ _ => rfl) rfl rfl rfl (qaO _)
 ·by_cases hk : j = k
  ·subst hk
   rw [qaI hjl] at hkb
   exact .inr (qay hkb).symm
  ·rw [qaG hk] at hkb; exact .inl hkb
 ·rw [qaN (qas.1 hu).1]; exact hu
 ·have split : ∀ (k : Nat) B' u, (Bs ++ [B])[k]? = some B' → (hs ++ [h])[k]? = some u → (Bs[k]? = some B' ∧ hs[k]? = some u) ∨ (k = Bs.length ∧ B' = B ∧ u = h) := by
   intro k B' u e2 e4
   by_cases hk : k < Bs.length
   ·rw [qaN hk] at e2
    rw [qaN (by omega)] at e4
    exact .inl ⟨e2, e4⟩
   ·rw [qaP (by omega)] at e2 e4
    have hk0 : k - Bs.length = 0 := by have := (qas.1 e2).1; simp at this; omega
    rw [show k - hs.length = 0 by omega] at e4
    rw [hk0] at e2
    simp at e2 e4
    exact .inr ⟨by omega, e2.symm, e4.symm⟩
  refine ⟨by simp [hlen], fun k B' u e2 e4 => ?_, fun k k' B1 B2 u1 u2 b e1 l1 e2 e3 f1 l2 f2 f3 => ?_⟩
  ·rcases split k B' u e2 e4 with ⟨a, c⟩ | ⟨_, rfl, rfl⟩
   ·exact hf.ok k B' u a c
   ·exact hm
  ·rcases split k B1 u1 e1 e2 with ⟨a, c⟩ | ⟨rfl, rfl, rfl⟩ <;> rcases split k' B2 u2 f1 f2 with ⟨a', c'⟩ | ⟨rfl, rfl, rfl⟩
   ·exact hf.inj k k' B1 B2 u1 u2 b a l1 c e3 a' l2 c' f3
   ·exact absurd (ho.inj i j _ _ _ _ b hi rfl hβi ⟨hs, k, B1, u1, rfl, a, l1, c, e3⟩ hj (by rw [uE]; exact hl) hβj (blk_owns.2 f3)) hne
   ·exact absurd (ho.inj i j _ _ _ _ b hi rfl hβi ⟨hs, k', B2, u2, rfl, a', l2, c', f3⟩ hj (by rw [uE]; exact hl) hβj (blk_owns.2 e3)) hne
   ·rfl
 ·obtain ⟨hjk, q1⟩ := ne k kb q1 q2
  rcases other b hb with h1 | h1
  ·exact hne' (ho.inj i k _ kb _ hh b hi rfl hβi h1 q1 q2 q3 q4).symm
  ·exact hjk (ho.inj j k _ kb _ hh b hj (by rw [uE]; exact hl) hβj (blk_owns.2 h1) q1 q2 q3 q4)
theorem Ad {s : St} (ho : Ok s) {j : Nat} (hj : s.M[j]? = some .hole) : Tr s ⟨s.β.set j (.tuple #[]), s.I, s.M.set j (.fam []), s.w⟩ := by
 have hjl : j < s.M.length := (qas.1 hj).1
 have hβ : s.β[j]? = some .nilFunc := by
  have hjb : j < s.β.length := by rw [ho.len]; exact hjl
  have e : s.β[j]? = some s.β[j] := qat hjb
  have : s.β[j] = .nilFunc := ho.blk j .hole _ hj e
  rw [e, this]
 have no : ∀ b, ¬ jb (.fam []) (.tuple #[]) b := by
  rintro b ⟨hs, k, B, u, e1, e2, _⟩
  simp at e2
 exact kR ho j s.M (.tuple #[]) (.fam []) s.w rfl (fun i k h => .inl h) hjl (.inl hβ) (by simp) ⟨[], rfl, rfl, fun k B u h => by simp at h, fun k k' B B' u u' b h => by simp at h⟩ (fun b hb => (no b hb).elim) (fun b hb => (no b hb).elim) (fun b hb => (no b hb).elim) (fun _ => False) (fun _ h => h.elim) (fun _ _ _ _ => rfl) rfl rfl rfl (qaO _)
section
variable {P : Program} {s0 : St} {n : Cx}
theorem XP {F : Fr} {M : List Blk} {a : Act} {w : World} {j : Nat} (h : Inv s0 n F M a w) (hj : M[j]? = some .hole) : Inv s0 n F (M.set j (.fam [])) a w := by
 obtain ⟨h0, s, rfl, rfl, h3, h4, h5, h6⟩ := h
 have tt := Ad h3.ok hj
 exact ⟨h0, ⟨s.β.set j (.tuple #[]), s.I, s.M.set j (.fam []), s.w⟩, rfl, rfl, h3.trans tt, fun x d hd => (h4 x d hd).mono h3.ok tt, h5, h6.mono h3.ok tt⟩
theorem Jf {c : Code} {F : Fr} {M M' : List Blk} {K : Cont} (j : Nat) (hj : M[j]? = some .hole) (hM' : M.set j (.fam []) = M') (h : dwp P s0 n c F M' K) : dwp P s0 n c F M K := by
 subst hM'
 exact fun a w hi => h a w (XP hi hj)
end
theorem Kv (m : Nat) : okσ m (qaY m) = true := by
 simp only [okσ, qav, decide_eq_true_eq, qaV, List.mem_range, beq_iff_eq]
 exact ⟨fun x h => List.getElem?_range h, List.nodup_range⟩
theorem Qm {m : Nat} : ∀ (l : List D) (j : Nat) d, D.ltL m l = true → l[j]? = some d → d.lt m = true
 | [], j, d, _, h => by simp at h
 | x :: l, j, d, h, hj => by
  simp only [D.ltL, qav] at h
  cases j with
  | zero => simp at hj; subst hj; exact h.1
  | succ j => simp at hj; exact Qm l j d h.2 hj
theorem DFun.abs {P : Program} {f : FuncId} {args : List D} {Min Mout : List Blk} {B : Mem} {Bs : List Mem} (m : Nat) {wr : List (Nat × Blk)} {d : D} {g : Nat → Nat → D} (h : DFun P f args Min d (Mout ++ [B.blk])) (hm : Min.length = m) (hargs : D.ltL m args = true) (hl : B.live = true)
  (hlive : Min.all (·.live) = true) (hn : decide (qaY m ++ [m + 1]).Nodup = true)
  (hMin : j5 (qaY m) nov (Min ++ [.fam Bs, .hole]) (qaY m) = some Min)
  (hwr : yg (qaY m ++ [m + 1]) (qaY m ++ [m + 1]) (Mout ++ [B.blk]) = some wr) (hupd : upd (Min ++ [.fam Bs, .hole]) wr = Mout ++ [.fam Bs, B.blk])
  {d' : D} (hsb : sb (qaY m ++ [m + 1]) d = some d') (hd' : ∀ (s : St) v, Rep s d' v → s.M[m + 1]? = some .gone ∨ True → ∀ (hs : List Value), s.β[m]? = some (.tuple hs.toArray) → (∀ u, s.β[m + 1]? = some u → hs[Bs.length]? = some u) → Rep s (g m Bs.length) v)
  (hset : ((Mout ++ [.fam Bs, B.blk]).set (m + 1) .gone).set m (.fam (Bs ++ [B])) = Mout ++ [.fam (Bs ++ [B]), .gone])
  (hout : j5 (qaY (m + 1)) nov (Mout ++ [.fam (Bs ++ [B]), .gone]) (qaY (m + 1)) = some (Mout ++ [.fam (Bs ++ [B])])) (hok : okσ (m + 1) (qaY (m + 1)) = true) (hg : vw (qaY (m + 1)) nov (Mout ++ [.fam (Bs ++ [B]), .gone]) (g m Bs.length) = some (g m Bs.length))
  (hMl : Mout.length = m) : DFun P f args (Min ++ [.fam Bs]) (g m Bs.length) (Mout ++ [.fam (Bs ++ [B])]) := by
 refine ⟨h.1, fun s vs ho hM hr => ?_⟩
 have t1 := gQ ho
 obtain ⟨s1, hs1⟩ : ∃ s1 : St, s1 = ⟨s.β ++ [.nilFunc], s.I, s.M ++ [.hole], s.w⟩ := ⟨_, rfl⟩
 rw [← hs1] at t1
 have hM1 : s1.M = Min ++ [.fam Bs, .hole] := by rw [hs1, hM]; simp
 have hw1 : s1.w = s.w := by rw [hs1]
 have hn' : (qaY m ++ [m + 1]).Nodup := of_decide_eq_true hn
 have hnσ := (List.nodup_append.1 hn').1
 have hMin1 : j5 (qaY m) nov s1.M (qaY m) = some Min := by rw [hM1]; exact hMin
 have hokm : okσ m (qaY m) = true := Kv m
 have hargs1 : Reps (vst s1 (qaY m) nov Min) args vs := ⟨hr.1, fun j d v h1 h2 => jT t1.ok ((hr.2 j d v h1 h2).mono ho t1) d (JL hokm d (Qm args j d hargs h1))⟩
 have hc := h.2 (vst s1 (qaY m) nov Min) vs (vk t1.ok hMin1 hnσ) rfl hargs1
 have hcw : (vst s1 (qaY m) nov Min).w = s.w := hw1
 rw [hcw] at hc
 refine Calls.mono hc ?_
 rintro e w' ⟨s2, rfl, ht, hres⟩
 obtain ⟨v, rfl, hrep, hM2⟩ : ∃ v, e = .returned v ∧ Rep s2 d v ∧ s2.M = Mout ++ [B.blk] := by
  rcases hres with ⟨dd, v, h1, h2, h3, h4⟩ | ⟨_, _, _, _, hno⟩
  ·exact ⟨v, h1, h3 ▸ h2, h4⟩
  ·exact hno.elim
 have hν : ∀ i ∈ [m + 1], s1.M[i]? = some .hole := fun i hi => by
  simp at hi; subst hi; rw [hM1, qaP (by omega), hm, show m + 1 - m = 1 by omega]; rfl
 obtain ⟨q1, q2⟩ := gr (ν := [m + 1]) (M3 := upd s1.M wr) t1.ok hMin1 hlive hn' hν ht hM2 hwr rfl (fun ⟨_, h⟩ => by cases h)
 obtain ⟨s3, hs3⟩ : ∃ s3 : St, s3 = back s1 s2 (qaY m) nov [m + 1] (upd s1.M wr) := ⟨_, rfl⟩
 have q3 := q2 _ v _ hrep (fun ⟨_, h⟩ => by cases h) hsb
 rw [← hs3] at q1 q3
 have hM3 : s3.M = Mout ++ [.fam Bs, B.blk] := by rw [hs3]; show upd s1.M wr = _; rw [hM1, hupd]
 have hfam : s3.M[m]? = some (.fam Bs) := by rw [hM3, qaP (by omega), hMl, Nat.sub_self]; rfl
 have harr : s3.M[m + 1]? = some B.blk := by rw [hM3, qaP (by omega), hMl, show m + 1 - m = 1 by omega]; rfl
 have hlβ := q1.ok.len
 have hm1 : m + 1 < s3.M.length := (qas.1 harr).1
 obtain ⟨x, hx⟩ : ∃ x, s3.β[m]? = some x := ⟨_, qat (by rw [hlβ]; omega)⟩
 obtain ⟨y, hy⟩ : ∃ y, s3.β[m + 1]? = some y := ⟨_, qat (by rw [hlβ]; exact hm1)⟩
 obtain ⟨hs, rfl, hfo⟩ := q1.ok.blk m _ x hfam hx
 have t4 := Yv q1.ok hfam harr hl hx hy
 obtain ⟨s4, hs4⟩ : ∃ s4 : St, s4 = ⟨s3.β.set m (.tuple (hs ++ [y]).toArray), s3.I, (s3.M.set (m + 1) .gone).set m (.fam (Bs ++ [B])), s3.w⟩ := ⟨_, rfl⟩
 rw [← hs4] at t4
 have hM4 : s4.M = Mout ++ [.fam (Bs ++ [B]), .gone] := by rw [hs4]; show (s3.M.set _ _).set _ _ = _; rw [hM3, hset]
 have r4 := q3.mono q1.ok t4
 have r5 : Rep s4 (g m Bs.length) v := by
  refine hd' s4 v r4 (.inr trivial) (hs ++ [y]) (by rw [hs4]; simp only; rw [qaI (by rw [hlβ]; omega)]) fun u hu => ?_
  rw [hs4] at hu
  simp only at hu
  rw [qaG (by omega), hy] at hu
  cases hu
  rw [qaP (by rw [hfo.len]; exact qaO _), hfo.len, Nat.sub_self]
  rfl
 have hout4 : j5 (qaY (m + 1)) nov s4.M (qaY (m + 1)) = some (Mout ++ [.fam (Bs ++ [B])]) := by rw [hM4]; exact hout
 have tall := (t1.trans q1).trans t4
 refine ⟨vst s4 (qaY (m + 1)) nov _, ?_, vl ho tall hout4 (by rw [hM]; simp [hm]) hok, .inl ⟨_, v, rfl, jT t4.ok r5 _ (by rw [hM4]; exact hg), rfl, rfl⟩⟩
 show s4.w = s2.w
 rw [hs4, hs3]; rfl
theorem DFun.absR {P : Program} {f : FuncId} {args : List D} {Min Mout : List Blk} {T : TypeId} {sz q : Nat} {L : List Value} (Bs : List Mem) (m : Nat) {wr : List (Nat × Blk)} (h : DFun P f args Min (.arr m) (Mout ++ [.arr T sz q L])) (hm : Min.length = m) (hargs : D.ltL m args = true)
  (hlive : Min.all (·.live) = true)
  (hMin : j5 (qaY m) nov (Min ++ [.fam Bs, .hole]) (qaY m) = some Min)
  (hwr : yg (qaY m ++ [m + 1]) (qaY m ++ [m + 1]) (Mout ++ [.arr T sz q L]) = some wr) (hupd : upd (Min ++ [.fam Bs, .hole]) wr = Mout ++ [.fam Bs, .arr T sz q L])
  (hset : ((Mout ++ [Blk.fam Bs, Blk.arr T sz q L]).set (m + 1) .gone).set m (.fam (Bs ++ [Mem.arr T sz q L])) = Mout ++ [.fam (Bs ++ [.arr T sz q L]), .gone])
  (hout : j5 (qaY (m + 1)) nov (Mout ++ [.fam (Bs ++ [.arr T sz q L]), .gone]) (qaY (m + 1)) = some (Mout ++ [.fam (Bs ++ [.arr T sz q L])]))
  (hMl : Mout.length = m) : DFun P f args (Min ++ [.fam Bs]) (.farr m Bs.length) (Mout ++ [.fam (Bs ++ [.arr T sz q L])]) := by
 refine DFun.abs (B := Mem.arr T sz q L) (d' := .arr (m + 1)) (g := fun i k => .farr i k) m h hm hargs rfl hlive ?_ hMin hwr hupd ?_ (fun s v hr _ hs h1 h2 => ?_) hset hout ?_ ?_ hMl
 ·simp [List.nodup_append, List.nodup_range]; omega
 ·simp [sb]
 ·cases hr with
  | arr h => exact .farr h1 (h2 _ h)
 ·exact Kv _
 ·have hp : pos (qaY (m + 1)) m = some m := Yh _ m m List.nodup_range (by simp)
  unfold vw; rw [hp]
end Go.Proofs.YtofklkbfkoliiaaGreat
namespace Go.Proofs.YtofklkbfkoliiaaGreat
set_option linter.unusedVariables false
set_option linter.unusedSimpArgs false
open Go.RowKit
theorem xQ {s : St} (hok : Ok s) {i k sz n : Nat} {T : TypeId} {Bs : List Mem} {L : List Value} {hs : List Value} {u : Value} (hM : s.M[i]? = some (.fam Bs)) (h : s.β[i]? = some (.tuple hs.toArray)) (hB : Bs[k]? = some (.arr T sz n L)) (hk : hs[k]? = some u) : s.w.ownsRow 0 T sz u n L :=
 (wL (k := k) hok hM h).ok k _ _ hB hk
theorem Ae {s : St} (ho : Ok s) {i k : Nat} {Bs : List Mem} {hs : List Value} {B B' : Mem} {u : Value} {b : Nat} (hi : s.M[i]? = some (.fam Bs)) (hβ : s.β[i]? = some (.tuple hs.toArray)) (hB : Bs[k]? = some B) (hl : B.live = true) (hl' : B'.live = true) (hu : hs[k]? = some u) (hub : hb u = some b) (p : Nat) (C : List Value)
  (hm : MemOk (s.w.setCells b p C) u B') : Tr s ⟨s.β.set i (.tuple hs.toArray), s.I, s.M.set i (.fam (Bs.set k B')), s.w.setCells b p C⟩ := by
 have hil := (qas.1 hi).1
 have hf := wL (k := k) ho hi hβ
 obtain ⟨r1, r2, r3, r4⟩ := y0 b C p s.w
 have hkl := (qas.1 hB).1
 have old : ∀ (q : Nat) X, (Bs.set k B')[q]? = some X → X.live = true → ∃ Y, Bs[q]? = some Y ∧ Y.live = true := by
  intro q X h1 h2
  by_cases e : k = q
  ·subst e; exact ⟨B, hB, hl⟩
  ·rw [qaG e] at h1; exact ⟨X, h1, h2⟩
 have tw : ∀ b', jb (.fam (Bs.set k B')) (.tuple hs.toArray) b' → jb (.fam Bs) (.tuple hs.toArray) b' := by
  rintro b' ⟨hs', q, X, y, e1, e2, e3, e4, e5⟩
  have e1 : hs = hs' := by simpa using e1
  subst e1
  obtain ⟨Y, f1, f2⟩ := old q X e2 e3
  exact ⟨hs, q, Y, y, rfl, f1, f2, e4, e5⟩
 refine kR ho i s.M _ _ _ rfl (fun _ _ h => .inl h) hil (.inr (.inl hβ)) (by simp) ⟨hs, rfl, by rw [List.length_set]; exact hf.len, fun q X y h1 h2 => ?_, fun q q' X X' y y' b' h1 l1 h2 h3 g1 m1 g2 g3 => ?_⟩ (fun b' hb' j kj hj hne h1 h2 h3 h4 => ?_) (fun b' hb' => .inr (qk hi rfl hβ (tw b' hb'))) (fun b' hb' => ?_) (fun _ => False) (fun _ h => h.elim) (fun b' hlt hne _ => ?_) r2 r3 r4 (by rw [r1]; exact qaO _)
 ·by_cases e : k = q
  ·subst e
   rw [qaI hkl] at h1
   cases h1
   rw [hu] at h2; cases h2
   exact hm
  ·rw [qaG e] at h1
   refine (hf.ok q X y h1 h2).mono fun b' hlv hbb => kJ b C p s.w b' fun e2 => ?_
   subst e2
   exact e (hf.inj k q B X u y b' hB hl hu hub h1 hlv h2 hbb)
 ·obtain ⟨Y, f1, f2⟩ := old q X h1 l1
  obtain ⟨Y', f1', f2'⟩ := old q' X' g1 m1
  exact hf.inj q q' Y Y' y y' b' f1 f2 h2 h3 f1' f2' g2 g3
 ·exact hne (ho.inj j i kj _ hj _ b' h1 h2 h3 h4 hi rfl hβ (tw b' hb'))
 ·rw [r1]; exact (ho.lt b' (qk hi rfl hβ (tw b' hb'))).1
 ·refine kJ b C p s.w b' fun e => hne ?_
  rw [e]
  exact ⟨hs, k, B', u, rfl, by rw [qaI hkl], hl', hu, hub⟩
section
variable {P : Program} {pc : Bool} {o : Oper} {F : Fr} {M : List Blk}
theorem Qn {T T' : TypeId} {x : Operand} {q : TypeId × Nat × Nat} {i k sz n : Nat} {Bs : List Mem} {L : List Value} (ho : o.op = .call { callee := .builtin .len, args := #[x], argTypes := #[T] }) (hT : slE P T = some q) (hx : Ev pc F x (.farr i k)) (hM : M[i]? = some (.fam Bs)) (hB : Bs[k]? = some (.arr T' sz n L)) : DOp P pc o F M [i] (.val (.int .i64 n)) [] := by
 intro hp a s hok hops hfp
 obtain ⟨e1, _⟩ := kM hT
 have hr := qq hp hx (by simp [ho, Op.operands, Call.operands]) hops
 generalize hv : a.eval x = vx at hr
 cases hr with
 | farr h hkk =>
  have hM' : s.M[i]? = some (.fam Bs) := by rw [hfp i (by simp)]; exact hM
  have hk := xQ hok hM' h hB hkk
  refine qN hok (kP ho (fun cs => rfl) ?_) (.val (.int .i64 n))
  rcases hk.2 with ⟨e2, e3⟩ | ⟨g, cap, cur, e2, _⟩
  ·cases e2; simp [Builtin.len_, hv, run_underlying e1, goInt, e3]
  ·cases e2; simp [Builtin.len_, hv, run_underlying e1, goInt]
theorem Jg {T T' e : TypeId} {x y : Operand} {i k sz by' n : Nat} {Bs : List Mem} {L : List Value} {kd : IntKind} {z : Int} (j : Nat) (ho : o.op = .indexAddr T x y) (hT : slE P T = some (e, sz, by')) (hx : Ev pc F x (.farr i k)) (hy : Ev pc F y (.val (.int kd z))) (hM : M[i]? = some (.fam Bs)) (hB : Bs[k]? = some (.arr T' sz n L)) (hz : pc = true → z = (j : Int)) (hj : pc = true → j < n) : DOp P pc o F M [i] (.faloc i k (j * sz)) [] := by
 intro hp a s hok hops hfp
 have hr := qq hp hx (by simp [ho, Op.operands]) hops
 have h2 := (qq hp hy (by simp [ho, Op.operands]) hops).val_eq
 have hz := hz hp
 have hj := hj hp
 subst hz
 generalize hv : a.eval x = vx at hr
 cases hr with
 | @farr _ _ ad n' c hs h hkk =>
  have hM' : s.M[i]? = some (.fam Bs) := by rw [hfp i (by simp)]; exact hM
  have hk := xQ hok hM' h hB hkk
  rcases hk.2 with ⟨e1, e2⟩ | ⟨g, cap, cur, e1, e2, e3, e4, e5, e6, e7⟩
  ·exfalso; omega
  ·cases e1
   refine qN hok (j9 ho hT hv h2 (by omega) (by omega)) ?_
   rw [Addr.add_mid, qau, qbe]
   exact .faloc h hkk
theorem Af {T T' : TypeId} {x : Operand} {i k p q sz n : Nat} {Bs : List Mem} {L : List Value} {v : Value} (ho : o.op = .load T x) (hT : tyB P T = some (false, q)) (hx : Ev pc F x (.faloc i k p)) (hM : M[i]? = some (.fam Bs)) (hB : Bs[k]? = some (.arr T' sz n L)) (hR : L[p]? = some v) : DOp P pc o F M [i] (.val v) [] := by
 intro hp a s hok hops hfp
 have hr := qq hp hx (by simp [ho, Op.operands]) hops
 generalize hv : a.eval x = vx at hr
 cases hr with
 | @faloc _ _ _ n' c b hs h hkk =>
  have hM' : s.M[i]? = some (.fam Bs) := by rw [hfp i (by simp)]; exact hM
  have hk := xQ hok hM' h hB hkk
  rcases hk.2 with ⟨e1, e2⟩ | ⟨g, cap, cur, e1, e2, e3, e4, e5, e6, e7⟩
  ·cases e1
  ·cases e1
   have hc0 := qK (qd e3 0) 0 (n * sz)
   have hc1 : qW s.w b 0 L := by simpa [e7] using hc0
   exact qN hok (j8 ho hT hv (by simpa using hc1 p v hR)) (.val v)
theorem Ag {T T' : TypeId} {x y : Operand} {i m p k sz n : Nat} {rw' : Bool} {v : Value} {Bs : List Mem} {L C L' : List Value} (ho : o.op = .store T x y) (hT : tyB P T = some (rw', k)) (hx : Ev pc F x (.faloc i m p)) (hy : Ev pc F y (.val v)) (hM : M[i]? = some (.fam Bs)) (hB : Bs[m]? = some (.arr T' sz n L)) (hC : v.cells.toList = C) (hk : C.length = k) (h1 : C.all (·.oneCell') = true)
  (hfit : p + C.length ≤ L.length) (hL : jC L p C = L') : DOp P pc o F M [i] .junk [(i, .fam (Bs.set m (.arr T' sz n L')))] := by
 intro hp a s hok hops hfp
 have hr := qq hp hx (by simp [ho, Op.operands]) hops
 have h2 := (qq hp hy (by simp [ho, Op.operands]) hops).val_eq
 have hM' : s.M[i]? = some (.fam Bs) := by rw [hfp i (by simp)]; exact hM
 subst hL
 generalize hv : a.eval x = vx at hr
 cases hr with
 | @faloc _ _ _ n' c b hs h hkk =>
  have hk' := xQ hok hM' h hB hkk
  rcases hk'.2 with ⟨e1, e2⟩ | ⟨g, cap, cur, e1, e2, e3, e4, e5, e6, e7⟩
  ·cases e1
  ·cases e1
   have hle := qa8 sz e4
   have hlL := hk'.1
   have hcell := qd e3 0
   have hrun := gv (P := P) (w := s.w) ho hT hv h2 hC hk (fun j hj => by
     have := hcell (p + j) _ (by simpa using qat (by simp; omega : p + j < cur.toList.length))
     rw [qau] at this
     rw [this]; rfl) (fun j hj => by simp [World.frozen?, e3]) (fun u hu => qaV.1 h1 u hu)
   refine yR (s' := ⟨s.β.set i (.tuple hs.toArray), s.I, s.M.set i (.fam (Bs.set m (.arr T' sz n (jC L p C)))), s.w.setCells b p C⟩) hrun (Ae hok hM' h hB rfl rfl hkk rfl p C ?_) rfl
   have hsl := jD C cur.toList p
   refine ⟨by rw [jD]; exact hlL, .inr ⟨b, c, (jC cur.toList p C).toArray, rfl, e2, kI b C p s.w cur.toList T' (by simpa using e3), e4, e5, by simp [hsl]; simpa using e6, ?_⟩⟩
   have hcurlen : cur.toList.length = c * sz := by simpa using e6
   rw [jx C cur.toList p (by omega), jx C L p hfit]
   have hcut : cur.toList = L ++ cur.toList.drop L.length := by
    have := List.take_append_drop (n * sz) cur.toList
    rw [e7, ← hlL] at this
    exact this.symm
   generalize cur.toList.drop L.length = R at hcut
   rw [hcut]
   have t1 : (L ++ R).take p = L.take p := List.take_append_of_le_length (by omega)
   have t2 : (L ++ R).drop (p + C.length) = L.drop (p + C.length) ++ R := List.drop_append_of_le_length (by omega)
   rw [t1, t2, ← hlL, ← qa1]
   refine List.take_left' ?_
   simp; omega
theorem Qo {T T' : TypeId} {x : Operand} {i k j q n : Nat} {Bs : List Mem} {α : Type} {en : α → List Value} {l : List α} {v : Value} (ho : o.op = .load T x) (hT : tyB P T = some (false, q)) (hx : Ev pc F x (.faloc i k (j * 1))) (hM : M[i]? = some (.fam Bs)) (hB : Bs[k]? = some (.arr T' 1 n (l.flatMap en))) (hen : ∀ a, (en a).length = 1) (hj : j < l.length) (hv : (en l[j])[0]? = some v) : DOp P pc o F M [i] (.val v) [] :=
 Af ho hT hx hM hB (by have := Kg (c := 0) hen hj (by omega); rw [Nat.add_zero] at this; rw [this, hv])
theorem Qp {T T' : TypeId} {x y : Operand} {i m j n : Nat} {rw' : Bool} {v : Value} {Bs : List Mem} {α : Type} {en : α → List Value} {l : List α} (q : α) (ho : o.op = .store T x y) (hT : tyB P T = some (rw', 1)) (hx : Ev pc F x (.faloc i m (j * 1))) (hy : Ev pc F y (.val v)) (hM : M[i]? = some (.fam Bs)) (hB : Bs[m]? = some (.arr T' 1 n (l.flatMap en))) (hC : v.cells.toList = en q) (hen : ∀ a, (en a).length = 1) (hj : j < l.length) (h1 : (en q).all (·.oneCell') = true) : DOp P pc o F M [i] .junk [(i, .fam (Bs.set m (.arr T' 1 n ((l.set j q).flatMap en))))] :=
 Ag ho hT hx hy hM hB hC (hen _) h1 (by
  have h2 : (j + 1) * 1 ≤ l.length * 1 := qa8 _ hj
  rw [hen, jM hen]; omega) (JU hen hj q)
end
theorem Kw {α : Type} {σ : List Nat} {V : Nat → Bool} {M : List Blk} {f g : α → D} (h : ∀ a, vw σ V M (f a) = some (g a)) : ∀ l : List α, vwL σ V M (l.flatMap fun a => [f a]) = some (l.flatMap fun a => [g a])
 | [] => rfl
 | a :: l => by
  rw [qaL, qaL]
  show vwL σ V M (f a :: l.flatMap fun a => [f a]) = some (g a :: l.flatMap fun a => [g a])
  rw [vwL, h a, Kw h l]
theorem Kx {α : Type} {τ : List Nat} {f g : α → D} (h : ∀ a, sb τ (f a) = some (g a)) : ∀ l : List α, sbL τ (l.flatMap fun a => [f a]) = some (l.flatMap fun a => [g a])
 | [] => rfl
 | a :: l => by
  rw [qaL, qaL]
  show sbL τ (f a :: l.flatMap fun a => [f a]) = some (g a :: l.flatMap fun a => [g a])
  rw [sbL, h a, Kx h l]
theorem qB {α : Type} {σ : List Nat} {V : Nat → Bool} {M : List Blk} {T : TypeId} {n n' : Nat} {f g : α → D} {l l' : List α} (hn : n = n') (hl : l = l') (h : ∀ a, vw σ V M (f a) = some (g a)) : (vwL σ V M (l.flatMap fun a => [f a])).map (Blk.arx T 1 n) = some (Blk.arx T 1 n' (l'.flatMap fun a => [g a])) := by
 subst hn hl
 rw [Kw h]
 rfl
theorem kg {α : Type} {τ : List Nat} {T : TypeId} {n : Nat} {f g : α → D} {l : List α} (h : ∀ a, sb τ (f a) = some (g a)) : sbB τ (.arx T 1 n (l.flatMap fun a => [f a])) = some (.arx T 1 n (l.flatMap fun a => [g a])) := by
 show (sbL τ _).map _ = _
 rw [Kx h]; rfl
theorem Gg {σ : List Nat} {V : Nat → Bool} {M : List Blk} : ∀ (a b a' b' : List D), gA σ V M a = some a' → gA σ V M b = some b' → gA σ V M (a ++ b) = some (a' ++ b')
 | [], b, a', b', h1, h2 => by rw [gA] at h1; cases h1; exact h2
 | d :: a, b, a', b', h1, h2 => by
  rw [gA] at h1
  cases e1 : vw1 σ V M d with
  | none => rw [e1] at h1; simp at h1
  | some d1 =>
   cases e2 : gA σ V M a with
   | none => rw [e1, e2] at h1; simp at h1
   | some a1 =>
    rw [e1, e2] at h1
    obtain rfl := qay h1
    rw [qaE, gA, e1, Gg a b a1 b' e2 h2]
    rfl
theorem xt {α : Type} {σ : List Nat} {V : Nat → Bool} {M : List Blk} {f g : α → List D} : ∀ (l : List α), (∀ a ∈ l, gA σ V M (f a) = some (g a)) → gA σ V M (l.flatMap f) = some (l.flatMap g)
 | [], _ => rfl
 | a :: l, h => by
  rw [qaL, qaL]
  exact Gg _ _ _ _ (h a (qa6 ..)) (xt l fun b hb => h b (qa9 _ hb))
theorem XQ {α : Type} {σ : List Nat} {V : Nat → Bool} {M : List Blk} {i sz : Nat} {T : TypeId} {n : Nat} {l : List α} {f g : α → List D} (hp : pos σ i = none) (hV : V i = true) (hM : M[i]? = some (.arx T sz n (l.flatMap f))) (h : ∀ a ∈ l, gA σ V M (f a) = some (g a)) : vw σ V M (.arr i) = some (.slm sz n (l.flatMap g)) := by
 rw [vw, hp]
 show ui σ V M i = _
 unfold ui
 rw [hV, hM]
 show (gA σ V M _).map _ = _
 rw [xt l h]; rfl
theorem WJ {σ : List Nat} {V : Nat → Bool} {M : List Blk} {j k sz n : Nat} {T : TypeId} {L : List Value} {Bs : List Mem} (hp : pos σ j = none) (hV : V j = true) (hM : M[j]? = some (.fam Bs)) (hB : Bs[k]? = some (.arr T sz n L)) : vw1 σ V M (.farr j k) = some (.slf sz n L) := by
 simp only [vw1, hp, yf, hV, cond_true, hM, hB]
theorem zq {α : Type} {σ : List Nat} {V : Nat → Bool} {M : List Blk} {f g : α → List D} (h : ∀ a, vwL σ V M (f a) = some (g a)) : ∀ l : List α, vwL σ V M (l.flatMap f) = some (l.flatMap g)
 | [] => rfl
 | a :: l => by
  have app : ∀ (a b a' b' : List D), vwL σ V M a = some a' → vwL σ V M b = some b' → vwL σ V M (a ++ b) = some (a' ++ b') := by
   intro a
   induction a with
   | nil => intro b a' b' h1 h2; rw [vwL] at h1; cases h1; exact h2
   | cons d a ih =>
    intro b a' b' h1 h2
    rw [vwL] at h1
    cases e1 : vw σ V M d with
    | none => rw [e1] at h1; simp at h1
    | some d1 =>
     cases e2 : vwL σ V M a with
     | none => rw [e1, e2] at h1; simp at h1
     | some a1 =>
      rw [e1, e2] at h1
      obtain rfl := qay h1
      rw [qaE, vwL, e1, ih b a1 b' e2 h2]
      rfl
  rw [qaL, qaL]
  exact app _ _ _ _ (h a) (zq h l)
theorem zr {α : Type} {τ : List Nat} {f g : α → List D} (h : ∀ a, sbL τ (f a) = some (g a)) : ∀ l : List α, sbL τ (l.flatMap f) = some (l.flatMap g)
 | [] => rfl
 | a :: l => by
  have app : ∀ (a b a' b' : List D), sbL τ a = some a' → sbL τ b = some b' → sbL τ (a ++ b) = some (a' ++ b') := by
   intro a
   induction a with
   | nil => intro b a' b' h1 h2; rw [sbL] at h1; cases h1; exact h2
   | cons d a ih =>
    intro b a' b' h1 h2
    rw [sbL] at h1
    cases e1 : sb τ d with
    | none => rw [e1] at h1; simp at h1
    | some d1 =>
     cases e2 : sbL τ a with
     | none => rw [e1, e2] at h1; simp at h1
     | some a1 =>
      rw [e1, e2] at h1
      obtain rfl := qay h1
      rw [qaE, sbL, e1, ih b a1 b' e2 h2]
      rfl
  rw [qaL, qaL]
  exact app _ _ _ _ (h a) (zr h l)
theorem qO {α : Type} {σ : List Nat} {V : Nat → Bool} {M : List Blk} {T : TypeId} {sz n n' : Nat} {f g : α → List D} {l l' : List α} (hn : n = n') (hl : l = l') (h : ∀ a, vwL σ V M (f a) = some (g a)) : (vwL σ V M (l.flatMap f)).map (Blk.arx T sz n) = some (Blk.arx T sz n' (l'.flatMap g)) := by
 subst hn hl
 rw [zq h]; rfl
theorem ki {α : Type} {τ : List Nat} {T : TypeId} {sz n : Nat} {f g : α → List D} {l : List α} (h : ∀ a, sbL τ (f a) = some (g a)) : sbB τ (.arx T sz n (l.flatMap f)) = some (.arx T sz n (l.flatMap g)) := by
 show (sbL τ _).map _ = _
 rw [zr h]; rfl
section
variable {P : Program} {pc : Bool} {o : Oper} {F : Fr} {M : List Blk}
theorem WK {T e T2 : TypeId} {by' sz n m i j q : Nat} {x y : Operand} {l l2 : List D} {Z : List Value} (ho : o.op = .call { callee := .builtin .append, args := #[x, y], argTypes := #[T, T] }) (hT : slE P T = some (e, sz, by')) (hZ : zrC P e = some Z) (hZl : Z.length = sz)
  (hx : Ev pc F x (.arr i)) (hy : Ev pc F y (.arr q)) (hMq : M[q]? = some (.arx T2 sz m l2)) (hM : M[i]? = some (.arx e sz n l)) (hj : M[j]? = some .hole) (h1 : l2.all D.oc2 = true) (hbd : pc = true → (n + m) * by' ≤ 140737488355328 ∧ n + m ≤ 140737488355328) :
  DOp P pc o F M [i, j, q] (.arr j) [(i, .gone), (j, .arx e sz (n + m) (l ++ l2))] := by
 intro hp a s hok hops hfp
 obtain ⟨e1, ti, e2, e3, e4⟩ := kM hT
 obtain ⟨ti', z, q1, q2, q3⟩ := jE hZ
 rw [e2] at q1
 obtain rfl := qay q1
 obtain ⟨b1, b2⟩ := hbd hp
 have hM' : s.M[i]? = some (.arx e sz n l) := by rw [hfp i (by simp)]; exact hM
 have hj' : s.M[j]? = some .hole := by rw [hfp j (by simp)]; exact hj
 have hij : i ≠ j := fun h => by subst h; rw [hM'] at hj'; cases hj'
 have hjl : j < s.β.length := by rw [hok.len]; exact (qas.1 hj').1
 have hrx := qq hp hx (by simp [ho, Op.operands, Call.operands]) hops
 have hry := qq hp hy (by simp [ho, Op.operands, Call.operands]) hops
 generalize hv : a.eval x = vx at hrx
 generalize hvy : a.eval y = vy at hry
 cases hry with
 | @arr _ a2 m2 cap2 hβq =>
 have hMq' : s.M[q]? = some (.arx T2 sz m l2) := by rw [hfp q (by simp)]; exact hMq
 obtain ⟨vs2, hk2, hvl2, hel2⟩ := hok.blk q _ _ hMq' hβq
 have hl2 : l2.length = m * sz := by rw [← hvl2]; exact hk2.1
 have hso : SrcOk s (.slice a2 m2 cap2) m vs2 := by
  rcases hk2.2 with ⟨e1, e2⟩ | ⟨g, cap, cur, e1, e2, e3, e4, e5, e6, e7⟩
  ·cases e1
   exact ⟨none, 0, by rw [e2], .inl ⟨rfl, e2, rfl, qaW (by rw [hvl2, hl2, e2, Nat.zero_mul])⟩⟩
  ·cases e1
   refine ⟨_, _, rfl, .inr ⟨_, rfl, fun k u hk => ?_⟩⟩
   rw [Addr.add_mid]
   have hc0 := qK (qd e3 0) 0 (m * sz)
   have hc1 : qW s.w g 0 vs2 := by simpa [e7] using hc0
   exact hc1 k u hk
 have hone : ∀ u ∈ vs2, u.oneCell' = true := fun u hu => by
  obtain ⟨k, hk, rfl⟩ := List.getElem_of_mem hu
  have hk2 : k < l2.length := by omega
  exact Qi (hel2 k _ _ (qat hk2) (qat hk)) (qaV.1 h1 _ (qbf hk2))
 cases hrx with
 | @arr _ ad n' c hβ =>
  obtain ⟨vs, hk, hvl, hel⟩ := hok.blk i _ _ hM' hβ
  obtain ⟨h', w', r1, r2, r3, r4⟩ := vr (P := P) (ty := o.type) (m := m) e1 e2 e3 e4 q2 (by rw [← hZl, ← q3]; simp) hk (by rw [hvl2]; exact hl2) hso hone (by unfold maxLen; omega) b1
  have hs' : (h' = .slice none 0 0) ∨ ∃ a n c, h' = .slice (some a) n c := by
   rcases r2.2 with ⟨q, _⟩ | ⟨g, cap, cur, q, _⟩
   ·exact .inl q
   ·exact .inr ⟨_, _, _, q⟩
  have hs0 : (Value.slice ad n' c = .slice none 0 0) ∨ ∃ a n k, Value.slice ad n' c = .slice (some a) n k := by
   rcases hk.2 with ⟨q, _⟩ | ⟨g, cap, cur, q, _⟩
   ·exact .inl q
   ·exact .inr ⟨_, _, _, q⟩
  have o1 := u4 hs'
  have o0 := u4 hs0
  have hblk : s.w.heap.size ≤ w'.heap.size := r3.size
  have hβj : s.β[j]? = some .nilFunc := by
   have q : s.β[j]? = some s.β[j] := qat hjl
   have : s.β[j] = .nilFunc := hok.blk j .hole _ hj' q
   rw [q, this]
  have from_ : ∀ b, hb h' = some b → s.w.heap.size ≤ b ∨ (hb (Value.slice ad n' c) = some b) := by
   intro b hbb
   rw [o1] at hbb
   rcases r4 b hbb with h | h
   ·exact .inr (by rw [o0]; exact h)
   ·exact .inl h
  have hnd' : ∀ (k : Nat) h, s.β[k]? = some h → h ≠ .nilFunc → (s.β.set j h')[k]? = some h := fun k h hk' hne => by
   by_cases e : j = k
   ·subst e; rw [hβj] at hk'; exact absurd (qay hk').symm hne
   ·rw [qaG e]; exact hk'
  have imm' : ∀ b, s.I b → w'.heap[b]? = s.w.heap[b]? := fun b hI => r3.block b (hok.il b hI) fun h => by
   rw [← o0] at h
   exact (hok.lt b (qk hM' rfl hβ h.symm)).2 hI
  have hblkx : BlkOk ⟨s.β.set j h', s.I, (s.M.set i .gone).set j (.arx e sz (n + m) (l ++ l2)), w'⟩ h' (.arx e sz (n + m) (l ++ l2)) := by
   refine ⟨vs ++ vs2, r2, by simp [hvl, hvl2], fun k d v hk1 hk2 => ?_⟩
   by_cases hlt : k < l.length
   ·rw [qaN hlt] at hk1
    rw [qaN (by omega)] at hk2
    exact Rep.mono' (s' := ⟨s.β.set j h', s.I, (s.M.set i .gone).set j (.arx e sz (n + m) (l ++ l2)), w'⟩) hnd' (fun _ h => h) imm' (hel k d v hk1 hk2)
   ·rw [qaP (by omega)] at hk1 hk2
    rw [hvl] at hk2
    exact Rep.mono' (s' := ⟨s.β.set j h', s.I, (s.M.set i .gone).set j (.arx e sz (n + m) (l ++ l2)), w'⟩) hnd' (fun _ h => h) imm' (hel2 _ d v hk1 hk2)
  have ht : Tr s ⟨s.β.set j h', s.I, (s.M.set i .gone).set j (.arx e sz (n + m) (l ++ l2)), w'⟩ := by
   refine kR hok j (s.M.set i .gone) h' _ w' (by simp) (fun k kb hkb => ?_) (by rw [← hok.len]; exact hjl) (.inl hβj) (by rcases hs' with rfl | ⟨_, _, _, rfl⟩ <;> simp) hblkx (fun b hbb k kb hh hne q1 q2 q3 q4 => ?_) (fun b hbb => (from_ b hbb).imp id fun h => qk hM' rfl hβ h) (fun b hbb => ?_) (fun b => hb (Value.slice ad n' c) = some b) (fun b hdr => ⟨qk hM' rfl hβ hdr, fun k kb hh hne q1 q2 q3 q4 => ?_⟩) (fun b hlt hne hnd => ?_) r3.os r3.tape r3.output hblk
   ·by_cases hki : i = k
    ·subst hki
     have hlt : i < s.M.length := (qas.1 hM').1
     rw [qaI hlt] at hkb
     exact .inr (qay hkb).symm
    ·rw [qaG hki] at hkb; exact .inl hkb
   ·have hki : i ≠ k := fun h => by
     subst h
     have hlt : i < s.M.length := (qas.1 hM').1
     rw [qaI hlt] at q1
     cases q1; cases q2
    rw [qaG hki] at q1
    rcases from_ b hbb with h | h
    ·exact absurd (hok.lt b (qk q1 q2 q3 q4)).1 (Nat.not_lt.2 h)
    ·exact hki (hok.inj i k _ kb _ hh b hM' rfl hβ h q1 q2 q3 q4)
   ·replace hbb : hb h' = some b := hbb
    rw [o1] at hbb
    exact (r2.lt b hbb).2
   ·have hki : i ≠ k := fun h => by
     subst h
     have hlt : i < s.M.length := (qas.1 hM').1
     rw [qaI hlt] at q1
     cases q1; cases q2
    rw [qaG hki] at q1
    exact hki (hok.inj i k _ kb _ hh b hM' rfl hβ hdr q1 q2 q3 q4)
   ·exact r3.block b hlt fun h => hnd (by rw [o0]; exact h.symm)
  refine kV (s' := ⟨s.β.set j h', s.I, (s.M.set i .gone).set j (.arx e sz (n + m) (l ++ l2)), w'⟩) (kP ho (fun cs => by rfl) (by simpa [hv, hvy] using r1)) ht rfl ?_
  rcases hs' with rfl | ⟨_, _, _, rfl⟩
  ·exact .arr (by simp [hjl])
  ·exact .arr (by simp [hjl])
theorem XR {T e : TypeId} {n sz by' : Nat} {ps : List (Nat × Operand)} {ds R : List D} {Z : List Value} (jn : Nat) (ho : o.op = .buildSlice T n ps.toArray) (hT : slE P T = some (e, sz, by')) (hZ : zrC P e = some Z) (hi : ps.map (·.1) = List.range' 0 n) (hv : EvL pc F (ps.map (·.2)) ds) (hc : ds.all D.c1 = true) (hs : ds.all (fun d => d.cs.length == sz) = true)
  (hR : ds.flatMap D.cs = R) (hl : R.length = n * sz) (hn : n ≤ 16777216) (hn2 : n * sz ≤ 16777216) (hj : M[jn]? = some .hole) : DOp P pc o F M [jn] (.arr jn) [(jn, .arx e sz n R)] := by
 intro hp a s hok hops hfp
 have hr := gh (a := a) (s := s) hp _ _ hv (fun x hx => hops x (by rw [ho]; simpa [Op.operands] using hx))
 obtain ⟨vs, hvs⟩ : ∃ vs, vs = (ps.map (·.2)).map a.eval := ⟨_, rfl⟩
 rw [← hvs] at hr
 have hcs := Je ds vs hr hc
 rw [hR] at hcs
 have hcell : ∀ v ∈ vs, v.cells.size = sz := fun v hv' => by
  obtain ⟨j, hj, rfl⟩ := List.getElem_of_mem hv'
  have hj2 : j < ds.length := by have := hr.1; omega
  have h1 := (Jc (hr.2 j _ _ (qat hj2) (qat hj)) (qaV.1 hc _ (qbf hj2))).1
  have h2 := qaV.1 hs _ (qbf hj2)
  simp only [beq_iff_eq] at h2
  rw [h2] at h1
  simpa using h1
 have hrun := j0 (P := P) (w := s.w) ho hT hZ hi hvs.symm hcell hn2
 have hj' : s.M[jn]? = some .hole := by rw [hfp jn (by simp)]; exact hj
 have hjl : jn < s.β.length := by rw [hok.len]; exact (qas.1 hj').1
 obtain ⟨us, hus⟩ : ∃ us, us = vs.flatMap fun v => v.cells.toList := ⟨_, rfl⟩
 rw [← hus] at hrun hcs
 have hul : us.length = n * sz := by rw [hcs.1, hl]
 refine kV (s' := ⟨s.β.set jn (.slice (some ⟨s.w.heap.size, 0, none⟩) n n), s.I, s.M.set jn (.arx e sz n R), _⟩) hrun (gT hok hj' _ _ _ (by simp) (fun b hb => by cases hb; rfl) (fun b h => Below.heap_alloc _ _ _ h) (fun b hb => by cases hb; simp) (by simp) rfl rfl rfl ?_) rfl (.arr (by simp [hjl]))
 have hrow := World.ownsRow_lit (base := 0) (e := e) (size := sz) s.w us.toArray n (qa5 _) (by unfold maxLen; omega) (by simp [hul])
 refine ⟨us, by simpa using hrow, hcs.1, fun j' d v h2 h3 => ?_⟩
 refine Rep.mono' (s := s) (s' := ⟨s.β.set jn (.slice (some ⟨s.w.heap.size, 0, none⟩) n n), s.I, s.M.set jn (.arx e sz n R), s.w.alloc (.cells us.toArray e)⟩) (fun i h hi hne => ?_) (fun _ h => h) (fun b hb => Below.heap_alloc _ _ _ (hok.il b hb)) (hcs.2 j' d v h2 h3)
 by_cases e' : i = jn
 ·subst e'
  exact absurd (hok.blk i _ h hj' hi) hne
 ·rw [qaG (Ne.symm e')]; exact hi
end
end Go.Proofs.YtofklkbfkoliiaaGreat
namespace Go.Proofs.YtofklkbfkoliiaaGreat
set_option linter.unusedVariables false
set_option linter.unusedSimpArgs false
open Go.RowKit
section
variable {P : Program} {pc : Bool} {o : Oper} {F : Fr} {M : List Blk}
theorem uF {T T' : TypeId} {x : Operand} {i p k : Nat} {l R : List D} (ho : o.op = .load T x) (hT : tyB P T = some (true, k)) (hx : Ev pc F x (.loc i p)) (hM : M[i]? = some (.mix T' l)) (hR : (l.drop p).take k = R) (hl : R.length = k) : DOp P pc o F M [i] (.agg R) [] := by
 intro hp a s hok hops hfp
 have hr := qq hp hx (by simp [ho, Op.operands]) hops
 generalize hv : a.eval x = vx at hr
 cases hr with
 | @loc _ _ b h =>
  obtain ⟨b', vs, e1, e2, e3, e4⟩ := hok.blk i _ _ (by rw [hfp i (by simp)]; exact hM) h
  cases e1
  have hlen : ((vs.drop p).take k).length = R.length := by
   rw [← hR, qaT, qaZ, qaT, qaZ, e3]
  have hc : qW s.w b 0 vs := qd e2 0
  have hr := ja hc p k rfl
  rw [qau] at hr
  refine qN hok (jq ho hT hv hr (by omega)) (.agg hlen fun j d v h1 h2 => ?_)
  rw [← hR] at h1
  rcases Nat.lt_or_ge j k with hjk | hjk
  ·rw [qbh, if_pos hjk, qba] at h1 h2
   exact e4 _ _ _ h1 h2
  ·rw [qbh, if_neg (by omega)] at h1
   cases h1
end
theorem XS {s : St} (ho : Ok s) (i : Nat) : Tr s ⟨s.β, s.I, s.M.set i .gone, s.w⟩ := by
 have hnd : ∀ (i : Nat) h, s.β[i]? = some h → h ≠ .nilFunc → s.β[i]? = some h := fun _ _ h _ => h
 have old : ∀ (j : Nat) k, (s.M.set i .gone)[j]? = some k → k = .gone ∨ s.M[j]? = some k := fun j k hj => by
  by_cases e : i = j
  ·subst e
   by_cases hl : i < s.M.length
   ·rw [qaI hl] at hj
    exact .inl (qay hj).symm
   ·rw [qa4 (by simp; omega)] at hj; cases hj
  ·rw [qaG e] at hj; exact .inr hj
 have lv : ∀ b, Live ⟨s.β, s.I, s.M.set i .gone, s.w⟩ b → Live s b := by
  rintro b ⟨j, k, h, h1, h2, h3, h4⟩
  rcases old j k h1 with rfl | h1
  ·cases h2
  ·exact qk h1 h2 h3 h4
 refine ⟨⟨by simp [ho.len], fun j k h h1 h2 => ?_, fun b hb => ho.lt b (lv b hb), ?_, ho.il⟩, jy hnd, fun _ h => h, fun _ h => .inl h, fun _ _ _ => rfl, fun b h => .inr (lv b h), rfl, rfl, rfl, qaO _⟩
 ·rcases old j k h1 with rfl | h1
  ·trivial
  ·exact BlkOk.mono (s := s) (s' := ⟨s.β, s.I, s.M.set i .gone, s.w⟩) hnd (fun _ h => h) (fun _ _ => rfl) (ho.blk j k h h1 h2) (fun _ _ _ => rfl)
 ·intro j j2 k k2 x x2 b a1 a2 a3 a4 c1 c2 c3 c4
  rcases old j k a1 with rfl | a1
  ·cases a2
  ·rcases old j2 k2 c1 with rfl | c1
   ·cases c2
   ·exact ho.inj j j2 k k2 x x2 b a1 a2 a3 a4 c1 c2 c3 c4
theorem Gh {s : St} (ho : Ok s) {j sz n : Nat} {T : TypeId} {L : List Value} {v : Value} (hM : s.M[j]? = some (.arr T sz n L)) (hr : Rep s (.arr j) v) : ∃ I' : Nat → Prop, Tr s ⟨s.β, I', s.M.set j .gone, s.w⟩ ∧ Rep ⟨s.β, I', s.M.set j .gone, s.w⟩ (.slf sz n L) v := by
 cases hr with
 | @arr _ ad n' c hβ =>
  have hk : s.w.ownsRow 0 T sz _ n L := ho.blk j _ _ hM hβ
  rcases hk.2 with ⟨e1, e2⟩ | ⟨g, cap, cur, e1, e2, e3, e4, e5, e6, e7⟩
  ·cases e1; subst e2
   exact ⟨s.I, XS ho j, .slf hk.1 (qaO _) (qa5 _) (fun _ => rfl) (.inl (qaW (by simpa using hk.1)))⟩
  ·cases e1
   refine ⟨fun b => s.I b ∨ b = g, Ja ho hM rfl hβ rfl s.w (fun _ _ => rfl) rfl rfl rfl rfl, .slf hk.1 e4 e5 (fun e => by cases e) (.inr ⟨g, 0, rfl, .inr rfl, ?_⟩)⟩
   have hc := qK (qd e3 0) 0 (n * sz)
   show qW s.w g 0 L
   simpa [e7] using hc
theorem DGives.map {P : Program} {s : St} {post post' : St → Value → Prop} {r : Result Next} (h : DGives P s post r) (f : ∀ s' v, Ok s' → post s' v → ∃ s'', s''.w = s'.w ∧ Tr s' s'' ∧ post' s'' v) : DGives P s post' r := by
 have key : ∀ {w' : World} {v : Value}, (∃ s', s'.w = w' ∧ Tr s s' ∧ post s' v) → ∃ s', s'.w = w' ∧ Tr s s' ∧ post' s' v := by
  rintro w' v ⟨s', rfl, a2, a3⟩
  obtain ⟨s'', b1, b2, b3⟩ := f s' v a2.ok a3
  exact ⟨s'', b1, a2.trans b2, b3⟩
 cases r with
 | halt x w' => exact h
 | ok nx w' =>
  cases nx with
  | value v => exact key h
  | skip => exact key h
  | enter g args =>
   refine ⟨h.1, h.2.mono ?_⟩
   rintro e w'' ⟨s', v, b1, b2, b3, b4⟩
   obtain ⟨s'', c1, c2, c3⟩ := key ⟨s', b2, b3, b4⟩
   exact ⟨s'', v, b1, c1, c2, c3⟩
  | round l f tmps asg body =>
   refine ⟨h.1, h.2.mono ?_⟩
   rintro e w'' ⟨s', v, b1, b2, b3, b4⟩
   obtain ⟨s'', c1, c2, c3⟩ := key ⟨s', b2, b3, b4⟩
   exact ⟨s'', v, b1, c1, c2, c3⟩
  | _ => exact h
section
variable {P : Program} {s0 : St} {n : Cx}
theorem Ve {F : Fr} {M : List Blk} {a : Act} {w : World} {t i : Nat} {e : TypeId} {sz m : Nat} {L : List Value} (h : Inv s0 n F M a w) (ht : lk F t = some (.arr i)) (hM : M[i]? = some (.arr e sz m L)) : Inv s0 n ((t, .slf sz m L) :: F) (M.set i .gone) a w := by
 obtain ⟨h0, s, rfl, rfl, h3, h4, h5, h6⟩ := h
 obtain ⟨I', tt, r1⟩ := Gh h3.ok hM (h4 t _ ht)
 refine ⟨h0, ⟨s.β, I', s.M.set i .gone, s.w⟩, rfl, rfl, h3.trans tt, fun x d hd => ?_, h5, h6.mono h3.ok tt⟩
 rw [jk] at hd
 split at hd
 ·rename_i e'
  subst e'
  obtain rfl := qay hd
  exact r1
 ·exact (h4 x d hd).mono h3.ok tt
theorem Vf {c : Code} {F : Fr} {M M' : List Blk} {K : Cont} (t : Nat) {i : Nat} {e : TypeId} {sz m : Nat} {L : List Value} (ht : lk F t = some (.arr i)) (hM : M[i]? = some (.arr e sz m L)) (hM' : M.set i .gone = M') (h : dwp P s0 n c ((t, .slf sz m L) :: F) M' K) : dwp P s0 n c F M K := by
 subst hM'
 exact fun a w hi => h a w (Ve hi ht hM)
end
theorem WL {s : St} (ho : Ok s) {i j k : Nat} {Bs : List Mem} {B : Mem} {hs : List Value} {u : Value} (hi : s.M[i]? = some (.fam Bs)) (hj : s.M[j]? = some .hole) (hB : Bs[k]? = some B) (hl : B.live = true) (hβi : s.β[i]? = some (.tuple hs.toArray)) (hu : hs[k]? = some u) :
  Tr s ⟨s.β.set j u, s.I, (s.M.set i (.fam (Bs.set k .gone))).set j B.blk, s.w⟩ := by
 have hne : i ≠ j := fun e => by subst e; rw [hi] at hj; cases hj
 have hil := (qas.1 hi).1
 have hjl := (qas.1 hj).1
 have hkl := (qas.1 hB).1
 have hf := wL (k := 0) ho hi hβi
 have hβj : s.β[j]? = some .nilFunc := by
  have hjb : j < s.β.length := by rw [ho.len]; exact hjl
  have e : s.β[j]? = some s.β[j] := qat hjb
  have : s.β[j] = .nilFunc := ho.blk j .hole _ hj e
  rw [e, this]
 have hnd : ∀ (x : Nat) h, s.β[x]? = some h → h ≠ .nilFunc → (s.β.set j u)[x]? = some h := fun x h hx hn => by
  by_cases e : j = x
  ·subst e; rw [hβj] at hx; exact absurd (qay hx).symm hn
  ·rw [qaG e]; exact hx
 have oldM : ∀ (x : Nat) kk, ((s.M.set i (.fam (Bs.set k .gone))).set j B.blk)[x]? = some kk → (x = j ∧ kk = B.blk) ∨ (x = i ∧ kk = .fam (Bs.set k .gone)) ∨ (x ≠ j ∧ x ≠ i ∧ s.M[x]? = some kk) := fun x kk h => by
  by_cases e : j = x
  ·subst e
   rw [qaI (by simpa using hjl)] at h
   exact .inl ⟨rfl, (qay h).symm⟩
  ·rw [qaG e] at h
   by_cases e2 : i = x
   ·subst e2
    rw [qaI hil] at h
    exact .inr (.inl ⟨rfl, (qay h).symm⟩)
   ·rw [qaG e2] at h
    exact .inr (.inr ⟨Ne.symm e, Ne.symm e2, h⟩)
 have oldβ : ∀ (x : Nat) hh, (s.β.set j u)[x]? = some hh → (x = j ∧ hh = u) ∨ (x ≠ j ∧ s.β[x]? = some hh) := fun x hh h => by
  by_cases e : j = x
  ·subst e
   rw [qaI (by rw [ho.len]; exact hjl)] at h
   exact .inl ⟨rfl, (qay h).symm⟩
  ·rw [qaG e] at h
   exact .inr ⟨Ne.symm e, h⟩
 have cls : ∀ (x : Nat) kk hh b, ((s.M.set i (.fam (Bs.set k .gone))).set j B.blk)[x]? = some kk → kk.live = true → (s.β.set j u)[x]? = some hh → jb kk hh b →
   (x = j ∧ hb u = some b) ∨ (x = i ∧ ∃ (k' : Nat) (B' : Mem) (u' : Value), k' ≠ k ∧ Bs[k']? = some B' ∧ B'.live = true ∧ hs[k']? = some u' ∧ hb u' = some b) ∨ (x ≠ j ∧ x ≠ i ∧ s.M[x]? = some kk ∧ s.β[x]? = some hh) := by
  intro x kk hh b a1 a2 a3 a4
  rcases oldM x kk a1 with ⟨rfl, rfl⟩ | ⟨rfl, rfl⟩ | ⟨n1, n2, a1⟩
  ·rcases oldβ _ hh a3 with ⟨_, rfl⟩ | ⟨n, _⟩
   ·exact .inl ⟨rfl, blk_owns.1 a4⟩
   ·exact absurd rfl n
  ·rcases oldβ _ hh a3 with ⟨e, _⟩ | ⟨_, a3⟩
   ·exact absurd e hne
   ·rw [hβi] at a3
    obtain rfl := qay a3
    obtain ⟨hs', k', B', u', e1, e2, e3, e4, e5⟩ := a4
    have e1 : hs = hs' := by simpa using e1
    subst e1
    by_cases e : k = k'
    ·subst e
     rw [qaI hkl] at e2
     obtain rfl := qay e2
     cases e3
    ·rw [qaG e] at e2
     exact .inr (.inl ⟨rfl, k', B', u', Ne.symm e, e2, e3, e4, e5⟩)
  ·rcases oldβ _ hh a3 with ⟨e, _⟩ | ⟨_, a3⟩
   ·exact absurd e n1
   ·exact .inr (.inr ⟨n1, n2, a1, a3⟩)
 have fo : ∀ (k' : Nat) (B' : Mem) (u' : Value) (b : Nat), Bs[k']? = some B' → B'.live = true → hs[k']? = some u' → hb u' = some b → jb (.fam Bs) (.tuple hs.toArray) b := fun k' B' u' b e2 e3 e4 e5 => ⟨hs, k', B', u', rfl, e2, e3, e4, e5⟩
 have lv : ∀ b, Live ⟨s.β.set j u, s.I, (s.M.set i (.fam (Bs.set k .gone))).set j B.blk, s.w⟩ b → Live s b := by
  rintro b ⟨x, kk, hh, a1, a2, a3, a4⟩
  rcases cls x kk hh b a1 a2 a3 a4 with ⟨_, e⟩ | ⟨_, k', B', u', _, e2, e3, e4, e5⟩ | ⟨_, _, a1, a3⟩
  ·exact qk hi rfl hβi (fo k B u b hB hl hu e)
  ·exact qk hi rfl hβi (fo k' B' u' b e2 e3 e4 e5)
  ·exact qk a1 a2 a3 a4
 refine ⟨⟨by simp [ho.len], fun x kk hh h1 h2 => ?_, fun b hb => ho.lt b (lv b hb), ?_, ho.il⟩, jy hnd, fun _ h => h, fun _ h => .inl h, fun _ _ _ => rfl, fun b h => .inr (lv b h), rfl, rfl, rfl, qaO _⟩
 ·rcases oldM x kk h1 with ⟨rfl, rfl⟩ | ⟨rfl, rfl⟩ | ⟨n1, n2, h1⟩
  ·rcases oldβ _ hh h2 with ⟨_, rfl⟩ | ⟨n, _⟩
   ·have hm := hf.ok k B hh hB hu
    cases B <;> exact hm
   ·exact absurd rfl n
  ·rcases oldβ _ hh h2 with ⟨e, _⟩ | ⟨_, h2⟩
   ·exact absurd e hne
   ·rw [hβi] at h2
    obtain rfl := qay h2
    refine ⟨hs, rfl, ⟨by rw [List.length_set]; exact hf.len, fun k' B' u' e2 e4 => ?_, fun k1 k2 B1 B2 u1 u2 b e1 l1 e2 e3 f1 l2 f2 f3 => ?_⟩⟩
    ·by_cases e : k = k'
     ·subst e
      rw [qaI hkl] at e2
      obtain rfl := qay e2
      trivial
     ·rw [qaG e] at e2
      exact hf.ok k' B' u' e2 e4
    ·have un : ∀ (q : Nat) Q, (Bs.set k .gone)[q]? = some Q → Q.live = true → Bs[q]? = some Q := fun q Q g1 g2 => by
      by_cases e : k = q
      ·subst e
       rw [qaI hkl] at g1
       obtain rfl := qay g1
       cases g2
      ·rw [qaG e] at g1; exact g1
     exact hf.inj k1 k2 B1 B2 u1 u2 b (un k1 B1 e1 l1) l1 e2 e3 (un k2 B2 f1 l2) l2 f2 f3
  ·rcases oldβ _ hh h2 with ⟨e, _⟩ | ⟨_, h2⟩
   ·exact absurd e n1
   ·exact BlkOk.mono (s := s) (s' := ⟨s.β.set j u, s.I, (s.M.set i (.fam (Bs.set k .gone))).set j B.blk, s.w⟩) hnd (fun _ h => h) (fun _ _ => rfl) (ho.blk x kk hh h1 h2) (fun _ _ _ => rfl)
 ·intro x x2 kk kk2 y y2 b a1 a2 a3 a4 c1 c2 c3 c4
  rcases cls x kk y b a1 a2 a3 a4 with ⟨ex, e⟩ | ⟨ex, k', B', u', n', e2, e3, e4, e5⟩ | ⟨m1, m2, a1, a3⟩ <;> rcases cls x2 kk2 y2 b c1 c2 c3 c4 with ⟨fx, f⟩ | ⟨fx, k2, B2, u2, n2, f2, f3, f4, f5⟩ | ⟨p1, p2, c1, c3⟩
  ·exact ex.trans fx.symm
  ·exact absurd (hf.inj k k2 B B2 u u2 b hB hl hu e f2 f3 f4 f5).symm n2
  ·exact absurd (ho.inj i x2 _ kk2 _ y2 b hi rfl hβi (fo k B u b hB hl hu e) c1 c2 c3 c4).symm p2
  ·exact absurd (hf.inj k k' B B' u u' b hB hl hu f e2 e3 e4 e5).symm n'
  ·exact ex.trans fx.symm
  ·exact absurd (ho.inj i x2 _ kk2 _ y2 b hi rfl hβi (fo k' B' u' b e2 e3 e4 e5) c1 c2 c3 c4).symm p2
  ·exact absurd (ho.inj i x _ kk _ y b hi rfl hβi (fo k B u b hB hl hu f) a1 a2 a3 a4).symm m2
  ·exact absurd (ho.inj i x _ kk _ y b hi rfl hβi (fo k2 B2 u2 b f2 f3 f4 f5) a1 a2 a3 a4).symm m2
  ·exact ho.inj x x2 kk kk2 y y2 b a1 a2 a3 a4 c1 c2 c3 c4
section
variable {P : Program} {s0 : St} {n : Cx}
theorem XT {F : Fr} {M : List Blk} {a : Act} {w : World} {t i j k : Nat} {e : TypeId} {sz m : Nat} {L : List Value} {Bs : List Mem} (h : Inv s0 n F M a w) (ht : lk F t = some (.farr i k)) (hi : M[i]? = some (.fam Bs)) (hB : Bs[k]? = some (.arr e sz m L)) (hj : M[j]? = some .hole) : Inv s0 n ((t, .arr j) :: F) ((M.set i (.fam (Bs.set k .gone))).set j (.arr e sz m L)) a w := by
 obtain ⟨h0, s, rfl, rfl, h3, h4, h5, h6⟩ := h
 have hlen := h3.ok.len
 have hil := (qas.1 hi).1
 have hjl := (qas.1 hj).1
 obtain ⟨x, hx⟩ : ∃ x, s.β[i]? = some x := ⟨_, qat (by omega)⟩
 obtain ⟨hs, rfl, hfo⟩ := h3.ok.blk i _ x hi hx
 have hkl := (qas.1 hB).1
 obtain ⟨u, hu⟩ : ∃ u, hs[k]? = some u := ⟨_, qat (by rw [hfo.len]; exact hkl)⟩
 have tt := WL (B := .arr e sz m L) h3.ok hi hj hB rfl hx hu
 refine ⟨h0, ⟨s.β.set j u, s.I, (s.M.set i (.fam (Bs.set k .gone))).set j (.arr e sz m L), s.w⟩, rfl, rfl, h3.trans tt, fun z d hd => ?_, h5, h6.mono h3.ok tt⟩
 rw [jk] at hd
 split at hd
 ·rename_i e'
  subst e'
  obtain rfl := qay hd
  have hr := h4 t _ ht
  show Rep _ _ (jh a t)
  generalize hv : jh a t = v at hr
  cases hr with
  | @farr _ _ ad n' c hs' g1 g2 =>
   rw [hx] at g1
   have e1 : hs = hs' := by simpa using g1
   subst e1
   rw [hu] at g2
   obtain rfl := qay g2
   exact .arr (by show (s.β.set j _)[j]? = _; rw [qaI (by rw [hlen]; exact hjl)])
 ·exact (h4 z d hd).mono h3.ok tt
theorem XU {c : Code} {F : Fr} {M M' : List Blk} {K : Cont} (t i : Nat) {j k : Nat} {e : TypeId} {sz m : Nat} {L : List Value} {Bs : List Mem} (ht : lk F t = some (.farr i k)) (hi : M[i]? = some (.fam Bs)) (hB : Bs[k]? = some (.arr e sz m L)) (hj : M[j]? = some .hole) (hM' : (M.set i (.fam (Bs.set k .gone))).set j (.arr e sz m L) = M') (h : dwp P s0 n c ((t, .arr j) :: F) M' K) : dwp P s0 n c F M K := by
 subst hM'
 exact fun a w hh => h a w (XT hh ht hi hB hj)
end
end Go.Proofs.YtofklkbfkoliiaaGreat
