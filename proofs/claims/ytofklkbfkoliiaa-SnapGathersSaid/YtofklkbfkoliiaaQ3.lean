/- Rows made by make, and copied into; parts of arrays with their room cut; A function that is deferred, and recovers, whose one region draws its order: each of the orders by itself; A region that draws its order, where several operations look at what one of them turns, ahead of it or behind it, and read the same. Conditions: the kernel's look at its edges; Functions without a body that touch one cell (package sync/atomic), or mark; a function that is deferred with its arguments; deferred functions that do not recover. Conditions: what such a call's run is; Rows of one's own that hold data: made, measured, looked into; parts of rows of one's own, measured, looked into; Single operations of programs: rows that are turned to their own type, rows made whole and left so, arrays of listed parts, nil rows; Blocks read anew; structs with addresses, whole; slices with no room, cut, and grown by zer. No condition. -/
import Derived.Test.YtofklkbfkoliiaaQ2
import Derived.Laws.IdiomCopy
import Derived.Laws.LoneSync
import Derived.Test.YtofklkbfkoliiaaRows
import Derived.LaidEqlPtr
open List renaming getElem?_eq_some_iff → qaj, getElem?_eq_getElem → qak, length_append → qap, cons_append → qas, getElem?_set_ne → qav, nil_append → qaw, replicate → qax, getElem?_set_self → qaz, getElem?_append_left → qaC, flatMap_cons → qaD, getElem?_append_right → qaH, length_cons → qaI, eq_nil_of_length_eq_zero → qaL, all_eq_true → qaM, length_take → qaN, append_assoc → qaQ, length_drop → qaR, getElem?_eq_none → qaT, mem_cons_self → qaW, mem_cons_of_mem → qaX, mem_of_getElem? → qa0, getElem?_drop → qa2, range → qa3, getElem?_map → qa5, getElem_mem → qa7, ext_getElem? → qa9, mem_range → qba
open Nat renaming zero_add → qal, le_of_ble_eq_true → qaq, le_refl → qaE, zero_le → qaZ, mul_le_mul_right → qa1, succ_mul → qa8, blt → qbb
open Bool renaming and_eq_true → qan, or_eq_false_iff → qar, not_eq_true' → qau, not_eq_false' → qay, or_eq_true → qaA
open Option.some renaming inj → qao
open Go.IntWalk renaming i64_in → qat
open Option renaming map_eq_some_iff → qaB
open Int renaming toNat_natCast → qaV
open Array renaming replicate → qaY
namespace Go.Proofs.Ytofklkbfkoliiaa
set_option linter.unusedVariables false
set_option linter.unusedSimpArgs false
open Go.RowKit
section
variable {P : Program} {pc : Bool} {o : Oper} {F : Fr} {M : List Blk} {T e : TypeId} {by' : Nat} {x y : Operand}
theorem HX (j n : Nat) {k k' : IntKind} {z z' : Int} (z0 : Value) (ho : o.op = .makeSlice T x y) (hT : slE P T = some (e, 1, by')) (hZ : zrC P e = some [z0]) (hx : Ev pc F x (.val (.int k z))) (hy : Ev pc F y (.val (.int k' z'))) (hz : pc = true → z = (n : Int)) (hz' : pc = true → z' = (n : Int)) (hj : M[j]? = some .hole) (hb : pc = true → by' * n ≤ 281474976710656 ∧ n ≤ 9223372036854775807) :
  DOp P pc o F M [j] (.arr j) [(j, .arr e 1 n (qax n z0))] := by
 intro hp a s hok hops hfp
 obtain ⟨e1, ti, e2, e3, e4⟩ := kU hT
 obtain ⟨ti', zv, q1, q2, q3⟩ := jD hZ
 rw [e2] at q1
 obtain rfl := qao q1
 have h1 := (qo hp hx (by simp [ho, Op.operands]) hops).val_eq
 have h2 := (qo hp hy (by simp [ho, Op.operands]) hops).val_eq
 rw [hz hp] at h1
 rw [hz' hp] at h2
 obtain ⟨b1, b2⟩ := hb hp
 have hj' : s.M[j]? = some .hole := by rw [hfp j (by simp)]; exact hj
 have hjl : j < s.β.length := by rw [hok.len]; exact (qaj.1 hj').1
 have hb3 : (ti.bytes : Int) * (n : Int) ≤ 281474976710656 := by
  have h : ((ti.bytes * n : Nat) : Int) ≤ 281474976710656 := by rw [e4]; omega
  rwa [Int.natCast_mul] at h
 have hrun := run_make (P := P) s.w T e ti zv e1 e2 q2 k k' n n (by omega) (Int.le_refl _) hb3 (by omega)
 simp only [qaV] at hrun
 have hc : zv.cells = #[z0] := by
  have := congrArg List.toArray q3
  simpa using this
 have hrow := World.ownsRow_lit (base := 0) (e := e) (size := ti.size) s.w (madeCells zv.cells (n * ti.size)) n (qaZ _) (by unfold maxLen; omega) (size_madeCells _ _)
 rw [hc, e3, Nat.mul_one, toList_madeCells_one] at hrow
 rw [hc, e3, Nat.mul_one] at hrun
 refine k6 (s' := ⟨s.β.set j (.slice (some ⟨s.w.heap.size, 0, none⟩) n n), s.I, s.M.set j (.arr e 1 n (qax n z0)), _⟩) (v := .slice (some ⟨s.w.heap.size, 0, none⟩) n n) ?_ (gX hok hj' _ _ _ (by simp) (fun b hb => by cases hb; rfl) (fun b h => Below.heap_alloc _ _ _ h) (fun b hb => by cases hb; simp) (by simp) rfl rfl rfl hrow) rfl (.arr (by simp [hjl]))
 unfold execOp
 simp only [ho, h1, h2]
 exact kE hrun
theorem HY (j n : Nat) {sz : Nat} {k k' : IntKind} {z z' : Int} {Z : List Value} (ho : o.op = .makeSlice T x y) (hT : slE P T = some (e, sz, by')) (hZ : zrC P e = some Z) (hx : Ev pc F x (.val (.int k z))) (hy : Ev pc F y (.val (.int k' z'))) (hz : pc = true → z = 0) (hz' : pc = true → z' = (n : Int)) (hj : M[j]? = some .hole) (hb : pc = true → by' * n ≤ 281474976710656 ∧ n ≤ 9223372036854775807) :
  DOp P pc o F M [j] (.arr j) [(j, .arr e sz 0 [])] := by
 intro hp a s hok hops hfp
 obtain ⟨e1, ti, e2, e3, e4⟩ := kU hT
 obtain ⟨ti', zv, q1, q2, q3⟩ := jD hZ
 rw [e2] at q1
 obtain rfl := qao q1
 have h1 := (qo hp hx (by simp [ho, Op.operands]) hops).val_eq
 have h2 := (qo hp hy (by simp [ho, Op.operands]) hops).val_eq
 rw [hz hp] at h1
 rw [hz' hp] at h2
 obtain ⟨b1, b2⟩ := hb hp
 have hj' : s.M[j]? = some .hole := by rw [hfp j (by simp)]; exact hj
 have hjl : j < s.β.length := by rw [hok.len]; exact (qaj.1 hj').1
 have hb3 : (ti.bytes : Int) * (n : Int) ≤ 281474976710656 := by
  have h : ((ti.bytes * n : Nat) : Int) ≤ 281474976710656 := by rw [e4]; omega
  rwa [Int.natCast_mul] at h
 have hrun := run_make (P := P) s.w T e ti zv e1 e2 q2 k k' 0 n (Int.le_refl _) (by omega) hb3 (by omega)
 simp only [qaV, Int.toNat_zero] at hrun
 have hrow := World.ownsRow_made (base := 0) (e := e) (size := ti.size) s.w (madeCells zv.cells (n * ti.size)) n (qaZ _) (by unfold maxLen; omega) (size_madeCells _ _)
 rw [e3] at hrow hrun
 refine k6 (s' := ⟨s.β.set j (.slice (some ⟨s.w.heap.size, 0, none⟩) 0 n), s.I, s.M.set j (.arr e sz 0 []), _⟩) (v := .slice (some ⟨s.w.heap.size, 0, none⟩) 0 n) ?_ (gX hok hj' _ _ _ (by simp) (fun b hb => by cases hb; rfl) (fun b h => Below.heap_alloc _ _ _ h) (fun b hb => by cases hb; simp) (by simp) rfl rfl rfl hrow) rfl (.arr (by simp [hjl]))
 unfold execOp
 simp only [ho, h1, h2]
 exact kE hrun
theorem HZ {s : St} (hok : Ok s) {i p sz n n' c b : Nat} {T' : TypeId} {L C : List Value} (hM' : s.M[i]? = some (.arr T' sz n L)) (h : s.β[i]? = some (.slice (some ⟨b, 0, none⟩) n' c)) (hfit : p + C.length ≤ L.length) :
  Tr s ⟨s.β, s.I, s.M.set i (.arr T' sz n (jL L p C)), s.w.setCells b p C⟩ ∧ (∀ j, j < C.length → (s.w.cell? ⟨b, p + j, none⟩).isSome = true) ∧ (∀ j, j < C.length → s.w.frozen? ⟨b, p + j, none⟩ = false) := by
 have hk' : s.w.ownsRow 0 T' sz _ n L := hok.blk i _ _ hM' h
 rcases hk'.2 with ⟨e1, e2⟩ | ⟨g, cap, cur, e1, e2, e3, e4, e5, e6, e7⟩
 ·cases e1
 ·cases e1
  have hle := qa1 sz e4
  have hlL := hk'.1
  have hcell := qh e3 0
  have hcurlen : cur.toList.length = c * sz := by simpa using e6
  have hβ : s.β.set i (.slice (some ⟨b, 0, none⟩) n c) = s.β := by
   apply qa9
   intro k
   by_cases e : i = k
   ·subst e; rw [qaz (qaj.1 h).1, h]
   ·rw [qav e]
  refine ⟨?_, fun j hj => ?_, fun j hj => by simp [World.frozen?, e3]⟩
  ·have ht := yx (k' := .arr T' sz n (jL L p C)) hok hM' rfl h rfl p C ?_
   ·rwa [hβ] at ht
   ·have hsl := gS C cur.toList p
    refine ⟨by rw [gS]; exact hlL, .inr ⟨b, c, (jL cur.toList p C).toArray, rfl, e2, kV b C p s.w cur.toList T' (by simpa using e3), e4, e5, by simp [hsl]; simpa using e6, ?_⟩⟩
    rw [gm C cur.toList p (by omega), gm C L p hfit]
    have hcut : cur.toList = L ++ cur.toList.drop L.length := by
     have := List.take_append_drop (n * sz) cur.toList
     rw [e7, ← hlL] at this
     exact this.symm
    generalize cur.toList.drop L.length = R at hcut
    rw [hcut]
    have t1 : (L ++ R).take p = L.take p := List.take_append_of_le_length (by omega)
    have t2 : (L ++ R).drop (p + C.length) = L.drop (p + C.length) ++ R := List.drop_append_of_le_length (by omega)
    rw [t1, t2, ← hlL, ← qaQ]
    refine List.take_left' ?_
    simp; omega
  ·have := hcell (p + j) _ (by simpa using qak (by simp; omega : p + j < cur.toList.length))
   rw [qal] at this
   rw [this]; rfl
theorem J5 (L : List Value) (p : Nat) : jL L p [] = L := by cases L <;> rfl
theorem H0 {a : Act} {s : St} {T2 : TypeId} {i p n m N : Nat} {d : D} {L L2 : List Value} {fp : List Nat} (hok : Ok s) (hfp : ∀ k ∈ i :: fp, s.M[k]? = M[k]?) (hrx : Rep s (.own i 1 p n) (a.eval x)) (hry : Rep s d (a.eval y)) (ho : o.op = .call { callee := .builtin .copy, args := #[x, y], argTypes := #[T, T2] }) (hT : slE P T = some (e, 1, by')) (hsrc : SrcD M fp d m 1 L2) (hM : M[i]? = some (.arr e 1 N L)) (h1 : L2.all (·.oneCell') = true) :
  DGives P s (fun s' v => s'.M = upd s.M [(i, .arr e 1 N (jL L p (L2.take (min m n))))] ∧ Rep s' (.val (.int .i64 ((min m n : Nat) : Int))) v) ((execOp a.eval o).run P s.w) := by
 obtain ⟨e1, ti, e2, e3, e4⟩ := kU hT
 have hM' : s.M[i]? = some (.arr e 1 N L) := by rw [hfp i (by simp)]; exact hM
 obtain ⟨hl2, a2, c2, hv2, hso⟩ := hsrc s _ hok (fun k hk => hfp k (by simp [hk])) hry
 rw [Nat.mul_one] at hl2
 have hs1 : (P.info? e).map (·.size) = some 1 := by rw [e2]; simp [e3]
 have hil : i < s.M.length := (qaj.1 hM').1
 generalize hv : a.eval x = vx at hrx
 have none_ : ∀ (ad : Option Addr) c, vx = .slice ad n c → min m n = 0 → DGives P s (fun s' v => s'.M = upd s.M [(i, .arr e 1 N (jL L p (L2.take (min m n))))] ∧ Rep s' (.val (.int .i64 ((min m n : Nat) : Int))) v) ((execOp a.eval o).run P s.w) := by
  intro ad c hvx h0
  subst hvx
  have hr := run_copy_none (P := P) s.w T T2 o.type e ad a2 n c m c2 e1 hs1 h0
  rw [h0, List.take_zero, J5]
  refine k6 (s' := s) (v := goInt 0) (k9 ho (fun cs => rfl) (by simpa [hv, hv2] using hr)) (Tr.refl hok) ?_ (.val _)
  show s.M = s.M.set i _
  have : s.M[i] = .arr e 1 N L := (qaj.1 hM').2
  rw [← this, List.set_getElem_self]
 by_cases h0 : min m n = 0
 ·cases hrx with
  | own h ha hN hz hn hc => exact none_ _ _ rfl h0
  | ownnil h => exact none_ _ _ rfl h0
 ·cases hrx with
  | @own _ _ _ _ N' cap c b ad h ha hN hz hn hc =>
   obtain ⟨e0, e5, _, _, _, _⟩ := uU hok hM' h
   subst e0
   rw [Nat.mul_one] at e5
   have had : ad = some ⟨b, p * 1, none⟩ := ha.resolve_left (by omega)
   rw [Nat.mul_one] at had
   subst had
   obtain ⟨ad2, rfl, hcells⟩ : ∃ ad, a2 = some ad ∧ ∀ (j : Nat) u, L2[j]? = some u → s.w.cell? (ad.add j) = some u := by
    rcases hso with ⟨_, h, _⟩ | h
    ·omega
    ·exact h
   have hC : (L2.take (min m n)).length = min m n := by rw [qaN]; omega
   obtain ⟨t1, t2, t3⟩ := HZ (p := p) (C := L2.take (min m n)) hok hM' h (by omega)
   have hr := run_copy_cells (P := P) s.w T T2 o.type e b p n c ad2 m c2 (L2.take (min m n)) e1 hs1 hC (fun j v hj => hcells j v (by
     rw [List.getElem?_take] at hj
     split at hj
     ·exact hj
     ·cases hj)) t2 t3 (fun v hv => qaM.1 h1 v (List.mem_of_mem_take hv))
   rw [hC] at hr
   exact k6 (v := goInt ((min m n : Nat) : Int)) (k9 ho (fun cs => rfl) (by simpa [hv, hv2] using hr)) t1 rfl (.val _)
  | ownnil h => omega
theorem WD {T2 : TypeId} {i p n m N : Nat} {d : D} {L L2 : List Value} {fp : List Nat} (ho : o.op = .call { callee := .builtin .copy, args := #[x, y], argTypes := #[T, T2] }) (hT : slE P T = some (e, 1, by')) (hx : Ev pc F x (.own i 1 p n)) (hy : Ev pc F y d) (hsrc : SrcD M fp d m 1 L2) (hM : M[i]? = some (.arr e 1 N L)) (h1 : pc = true → L2.all (·.oneCell') = true) :
  DOp P pc o F M (i :: fp) (.val (.int .i64 ((min m n : Nat) : Int))) [(i, .arr e 1 N (jL L p (L2.take (min m n))))] := by
 intro hp a s hok hops hfp
 exact H0 hok hfp (qo hp hx (by simp [ho, Op.operands, Call.operands]) hops) (qo hp hy (by simp [ho, Op.operands, Call.operands]) hops) ho hT hsrc hM (h1 hp)
end
section
variable {P : Program} {pc : Bool} {o : Oper} {F : Fr} {M : List Blk} {T T' : TypeId} {x y : Operand} {k k' : IntKind} {p q : Int}
theorem WE (p : Int) (j : Nat) : p.fdiv (2 ^ j) = p / 2 ^ j := Int.fdiv_eq_ediv_of_nonneg _ (Int.le_of_lt (Int.pow_pos (by decide)))
theorem WF (j : Nat) (ho : o.op = .binOp .shr T x y T') (hx : Ev pc F x (.val (.int k p))) (hy : Ev pc F y (.val (.int k' q))) (hq : pc = true → q = (j : Int) ∧ j ≤ k.bits) : DOp P pc o F M [] (.val (.int k (p / 2 ^ j))) [] := by
 refine ui hx hy (by simp [ho, Op.operands]) fun hp a w e1 e2 => ?_
 obtain ⟨h1, h2⟩ := hq hp
 subst h1
 unfold execOp
 simp only [ho, e1, e2]
 refine kE ?_
 have hg : (eqGuard .shr T x y (.int k p) (.int k' (j : Int))).run P w = .ok () w := by unfold eqGuard; rfl
 rw [Sem.run_bind, hg]
 simp only [Result.andThen, binOp, Op.shift]
 rw [if_neg (by omega), qaV, Nat.min_eq_left h2]
 simp [WE]
theorem H1 (j : Nat) (ho : o.op = .binOp .shl T x y T') (hx : Ev pc F x (.val (.int k p))) (hy : Ev pc F y (.val (.int k' q))) (hq : pc = true → q = (j : Int) ∧ j ≤ k.bits) : DOp P pc o F M [] (.val (.int k (k.wrap (p * 2 ^ j)))) [] := by
 refine ui hx hy (by simp [ho, Op.operands]) fun hp a w e1 e2 => ?_
 obtain ⟨h1, h2⟩ := hq hp
 subst h1
 unfold execOp
 simp only [ho, e1, e2]
 refine kE ?_
 have hg : (eqGuard .shl T x y (.int k p) (.int k' (j : Int))).run P w = .ok () w := by unfold eqGuard; rfl
 rw [Sem.run_bind, hg]
 simp only [Result.andThen, binOp, Op.shift]
 rw [if_neg (by omega), qaV, Nat.min_eq_left h2]
 simp
def orZ (k : IntKind) (p q : Int) : Int := k.wrap (BitVec.ofInt k.bits p ||| BitVec.ofInt k.bits q).toNat
theorem H2 (ho : o.op = .binOp .or T x y T') (hx : Ev pc F x (.val (.int k p))) (hy : Ev pc F y (.val (.int k q))) : DOp P pc o F M [] (.val (.int k (orZ k p q))) [] := ga ho hx hy fun w => ⟨by unfold eqGuard; rfl, by simp [binOp, Op.intBits, orZ]⟩
theorem H3 {n b j : Nat} (hb : b < 2 ^ j) (hn : n * 2 ^ j + b < 18446744073709551616) : orZ .u64 ((n : Int) * 2 ^ j) b = (n : Int) * 2 ^ j + b := by
 have hn2 : n * 2 ^ j < 18446744073709551616 := by omega
 have e1 : ((n : Int) * 2 ^ j) = ((n * 2 ^ j : Nat) : Int) := by push_cast; rfl
 have e2 : (BitVec.ofInt 64 ((n * 2 ^ j : Nat) : Int) ||| BitVec.ofInt 64 (b : Int)).toNat = n * 2 ^ j + b := by
  rw [BitVec.ofInt_natCast, BitVec.ofInt_natCast, BitVec.toNat_or, BitVec.toNat_ofNat, BitVec.toNat_ofNat, Nat.mod_eq_of_lt (by omega), Nat.mod_eq_of_lt (by omega)]
  have := Nat.shiftLeft_add_eq_or_of_lt hb n
  rw [Nat.shiftLeft_eq] at this
  exact this.symm
 rw [e1]
 show IntKind.u64.wrap ((BitVec.ofInt 64 ((n * 2 ^ j : Nat) : Int) ||| BitVec.ofInt 64 (b : Int)).toNat : Int) = _
 rw [e2, IntWalk.u64_in _ (by omega)]
 push_cast
 rfl
end
section
variable {P : Program} {pc : Bool} {o : Oper} {F : Fr} {M : List Blk} {T : TypeId} {x lo hi mx : Operand} {n sz : Nat} {α : Type} {en : α → List Value} {l : List α} {k k1 k2 : IntKind} {lz hz mz : Int}
theorem WG (p : Nat) (ho : o.op = .slice T x (some lo) (some hi) (some mx)) (hT : arE P T = some (n, sz)) (hx : Ev pc F x (.dpf (l.flatMap en))) (hlo : Ev pc F lo (.val (.int k lz))) (hhi : Ev pc F hi (.val (.int k1 hz))) (hmx : Ev pc F mx (.val (.int k2 mz))) (hp' : pc = true → lz = (p : Int)) (hq : pc = true → hz = (n : Int)) (hm : pc = true → mz = (n : Int)) (hb : pc = true → p ≤ n) (hl : l.length = n) (hn : n ≤ maxLen) (hen : ∀ a, (en a).length = sz) :
  DOp P pc o F M [] (.slf sz (l.drop p).length ((l.drop p).flatMap en)) [] := by
 intro hp a s hok hops _
 have b1 := hb hp
 have hr := qo hp hx (by simp [ho, Op.operands]) hops
 have h1 := (qo hp hlo (by simp [ho, Op.operands]) hops).val_eq
 have h2 := (qo hp hhi (by simp [ho, Op.operands]) hops).val_eq
 have h3 := (qo hp hmx (by simp [ho, Op.operands]) hops).val_eq
 rw [hp' hp] at h1
 rw [hq hp] at h2
 rw [hm hp] at h3
 obtain ⟨e, i, e1, e2, e3⟩ := uh hT
 have hlen : (l.drop p).length = n - p := by rw [qaR]; omega
 generalize hv : a.eval x = vx at hr
 cases hr with
 | @dpf b off _ hI hc =>
  have sb : ∀ (k : IntKind) (z : Nat) (m : Nat) (cd : BoundsCode), z ≤ m → (Instr.sliceBound (.int k z) m cd).run P s.w = .ok z s.w := fun k z m cd b => by
   simp [Instr.sliceBound, asIntOf, b]
  have hbs : (Instr.sliceBounds false n n (some (a.eval lo)) (some (a.eval hi)) (some (a.eval mx))).run P s.w = .ok (p, n, n) s.w := by
   rw [h1, h2, h3]
   simp [Instr.sliceBounds, sb k p n _ b1, sb k1 n n _ (qaE _), sb k2 n n _ (qaE _)]
  have hrun : (execOp a.eval o).run P s.w = .ok (.value (.slice (some (if n = p then ⟨b, off, none⟩ else (⟨b, off, none⟩ : Addr).add (p * sz))) (n - p) (n - p))) s.w := by
   unfold execOp
   simp only [ho, hv]
   refine kE ?_
   simp [Instr.sliceAt, Instr.sureAddr, run_underlying e1, Sem.run_bind, hbs, sizeOf, typeInfo, e2, e3]
  refine qN hok hrun ?_
  rw [hlen]
  have hpart : (l.drop p).flatMap en = (l.flatMap en).drop (p * sz) := by rw [yk hen]
  have hfl : ((l.drop p).flatMap en).length = (n - p) * sz := by rw [jN hen, hlen]
  refine .slf hfl (qaE _) (by omega) (fun e => by cases e) ?_
  by_cases hz0 : n - p = 0
  ·left
   exact qaL (by rw [hfl, hz0]; simp)
  ·right
   rw [if_neg (by omega)]
   refine ⟨b, off + p * sz, by rw [JI], hI, ?_⟩
   rw [hpart]
   intro j v hj
   rw [qa2] at hj
   rw [Nat.add_assoc]
   exact hc _ v hj
end
section
variable {P : Program} {pc : Bool} {o : Oper} {F : Fr} {M : List Blk} {T e : TypeId} {by' n : Nat} {ds : List D} {Z : List Value}
def D.isSlf : D → Bool
 | .slf _ _ _ => true
 | _ => false
theorem Y7 : ∀ {ds : List D}, ds.all D.isSlf = true → D.nlL ds = true
 | [], _ => rfl
 | d :: ds, h => by
  rw [List.all_cons, qan] at h
  have h2 := Y7 h.2
  cases d with
  | slf sz n L => simp [D.nlL, D.nl, h2]
  | _ => cases h.1
theorem J6 {s : St} {d : D} {v : Value} (h : Rep s d v) (hd : d.isSlf = true) : v.cells = #[v] := by
 cases h <;> first | rfl | cases hd
theorem WH {ps : List (Nat × Operand)} (ho : o.op = .buildSlice T n ps.toArray) (hT : slE P T = some (e, 1, by')) (hZ : zrC P e = some Z) (hi : ps.map (·.1) = List.range' 0 n) (hv : EvL pc F (ps.map (·.2)) ds) (hs : ds.all D.isSlf = true) (hn : n ≤ 16777216) :
  DOp P pc o F M [] (.slm 1 n ds) [] := by
 intro hp a s hok hops _
 obtain ⟨r1, r2⟩ := gh (a := a) (s := s) hp _ _ hv (fun x hx => hops x (by rw [ho]; simpa [Op.operands] using hx))
 obtain ⟨vs, hvs⟩ : ∃ vs, vs = (ps.map (·.2)).map a.eval := ⟨_, rfl⟩
 rw [← hvs] at r1 r2
 have hcell : ∀ v ∈ vs, v.cells = #[v] := fun v hv' => by
  obtain ⟨j, hj, rfl⟩ := List.getElem_of_mem hv'
  have hj2 : j < ds.length := by omega
  exact J6 (r2 j _ _ (qak hj2) (qak hj)) (qaM.1 hs _ (qa7 hj2))
 have hlen : vs.length = n := by
  rw [hvs, List.length_map, List.length_map]
  have := congrArg List.length hi
  simpa using this
 have hflat : ∀ us : List Value, (∀ v ∈ us, v.cells = #[v]) → (us.flatMap fun v => v.cells.toList) = us := fun us h => by
  induction us with
  | nil => rfl
  | cons u us ih => rw [qaD, h u (qaW ..), ih fun v hv => h v (qaX _ hv)]; rfl
 have hrun := gp (P := P) (w := s.w) ho hT hZ hi hvs.symm (fun v hv => by rw [hcell v hv]; rfl) (by omega)
 rw [hflat vs hcell] at hrun
 have ht := w8 hok (.cells vs.toArray e)
 refine k6 (s' := ⟨s.β, fun b => s.I b ∨ b = s.w.heap.size, s.M, _⟩) hrun ht rfl (.slm (Y7 hs) (by omega) (qaE _) (by unfold maxLen; omega) (fun e => by cases e) r1 (fun j d v h1 h2 => (r2 j d v h1 h2).mono hok ht) (.inr ⟨_, 0, rfl, .inr rfl, ?_⟩))
 simpa using qh (heap_alloc_new s.w _) 0
theorem WI : ∀ {l : List D} {j : Nat} {d : D}, D.nlL l = true → l[j]? = some d → d.nl = true
 | [], j, d, _, h => by simp at h
 | a :: l, j, d, h, hj => by
  unfold D.nlL at h
  rw [qan] at h
  cases j with
  | zero => simp at hj; subst hj; exact h.1
  | succ j => exact WI h.2 (by simpa using hj)
theorem vi {x y : Operand} {k : IntKind} {z : Int} {d : D} (j : Nat) (ho : o.op = .indexAddr T x y) (hT : slE P T = some (e, 1, by')) (hx : Ev pc F x (.slm 1 n ds)) (hy : Ev pc F y (.val (.int k z))) (hz : pc = true → z = (j : Int)) (hd : ds[j]? = some d) : DOp P pc o F M [] (.dpm [d]) [] := by
 intro hp a s hok hops _
 have hr := qo hp hx (by simp [ho, Op.operands]) hops
 have h2 := (qo hp hy (by simp [ho, Op.operands]) hops).val_eq
 have hjl : j < ds.length := (qaj.1 hd).1
 have hz' := hz hp
 generalize hv : a.eval x = vx at hr
 cases hr with
 | @slm _ _ cap ad _ vs hnl hl hn hc ha hvl h hm =>
  rcases hm with hm | ⟨b, q, rfl, hI, hcl⟩
  ·rw [hm] at hjl; simp at hjl
  ·have hrun := gl (P := P) (w := s.w) ho hT hv h2 (by omega) (by omega)
   rw [Addr.add_mid] at hrun
   have hjv : j < vs.length := by omega
   refine qN hok hrun (.dpm (vs := [vs[j]]) ?_ hI (fun i v hi => ?_) rfl (fun i d' v h1 h2 => ?_))
   ·unfold D.nlL
    rw [WI hnl hd]; rfl
   ·cases i with
    | zero =>
     simp at hi
     subst hi
     have e : q + z.toNat * 1 + 0 = q + j := by omega
     rw [e]
     exact hcl j _ (qak hjv)
    | succ i => simp at hi
   ·cases i with
    | zero =>
     simp at h1 h2
     subst h1 h2
     exact h j _ _ hd (qak hjv)
    | succ i => simp at h1
end
section
variable {P : Program} {pc : Bool} {o : Oper} {F : Fr} {M : List Blk}
def D.oc : D → Bool
 | .slf _ _ _ => true
 | .slm _ _ _ => true
 | .arr _ => true
 | .fn _ _ _ => true
 | .farr _ _ => true
 | .floc _ _ _ => true
 | .val u => u.oneCell'
 | _ => false
theorem Yk {s : St} {d : D} {v : Value} (h : Rep s d v) (hd : d.oc = true) : v.oneCell' = true := by
 cases h with
 | val v => exact hd
 | slf => rfl
 | slm => rfl
 | arr => rfl
 | fn => rfl
 | farr => rfl
 | floc => rfl
 | _ => cases hd
theorem uX {T : TypeId} {ps : List (Nat × Operand)} {vs : List Value} {offs : List (Nat × Nat)} {Z R : List Value} {a : Act} {w : World} (ho : o.op = .build T ps.toArray) (hT : fdL P T = some offs) (hZ : zrC P T = some Z) (hvs : (ps.map (·.2)).map a.eval = vs)
  (hB : vP offs Z.length ((ps.map (·.1)).zip (vs.map fun v => v.cells.toList)) = true) (hR : vt offs Z ((ps.map (·.1)).zip (vs.map fun v => v.cells.toList)) = R) : (execOp a.eval o).run P w = .ok (.value (.agg R.toArray)) w := by
 obtain ⟨i, z, e1, e2, e3⟩ := jD hZ
 unfold fdL at hT
 split at hT
 ·rename_i fs hu
  have hparts : (ps.toArray.map fun (i, x) => (i, a.eval x)).toList = (ps.map (·.1)).zip vs := by
   rw [← hvs]
   simp only [List.map_toArray]
   clear hB hR hvs ho
   induction ps with
   | nil => rfl
   | cons p ps ih => simp only [List.map_cons, List.zip_cons_cons]; rw [← ih]
  have hz : ((ps.map (·.1)).zip vs).map (fun p => (p.1, p.2.cells.toList)) = (ps.map (·.1)).zip (vs.map fun v => v.cells.toList) := by
   rw [List.zip_map_right]
   rfl
  have hpl : (fs.mapM fun f => (do pure (f.offset, ← sizeOf f.type) : Sem (Nat × Nat))).run P w = .ok offs.toArray w := by
   rw [Array.mapM_eq_mapM_toList, Sem.run_map, zk (P := P) (w := w) _ _ (fun f b hb => ?_) fs.toList offs hT]
   ·rfl
   ·simp only [qaB] at hb
    obtain ⟨j, hj, rfl⟩ := hb
    simp [sizeOf, typeInfo, hj]
  have hf := vQ (offs := offs) ((ps.map (·.1)).zip vs) z.cells (by rw [hz, ← Array.length_toList, e3]; exact hB)
  rw [hz, e3, hR] at hf
  unfold execOp
  simp only [ho]
  refine kE ?_
  have hz0 : (zeroValue T).run P w = .ok z w := by simp [zeroValue, typeInfo, e1, e2]
  simp only [Instr.build, Sem.run_bind, hz0, run_underlying hu, Result.andThen_ok, hpl, hparts, hf, Sem.run_pure]
 ·cases hT
theorem Jf {T : TypeId} {x : Operand} {d : D} {offs : List (Nat × Nat)} {z0 : Value} {Z : List Value} (ho : o.op = .build T #[(0, x)]) (hT : fdL P T = some ((0, 1) :: offs)) (hZ : zrC P T = some (z0 :: Z)) (hx : Ev pc F x d) (hd : d.isSlf = true) : DOp P pc o F M [] (.agg (d :: Z.map .val)) [] := by
 intro hp a s hok hops _
 have hr := qo hp hx (by simp [ho, Op.operands]) hops
 have hc := J6 hr hd
 have hrun := uX (P := P) (ps := [(0, x)]) (vs := [a.eval x]) (a := a) (w := s.w) (R := a.eval x :: Z) ho hT hZ rfl (by simp [vP, hc]) (by simp [vt, hc, jL])
 refine qN hok hrun (.agg (by simp) fun j e v h1 h2 => ?_)
 cases j with
 | zero => simp at h1 h2; subst h1 h2; exact hr
 | succ j =>
  simp at h1 h2
  rw [h2] at h1
  simp at h1
  subst h1
  exact .val _
theorem Y8 {T : TypeId} {x : Operand} {ds : List D} {Z : List Value} (ho : o.op = .build T #[(0, x)]) (hx : Ev pc F x (.agg ds)) (hT : fdL P T = some [(0, ds.length)]) (hZ : zrC P T = some Z) (hl : Z.length = ds.length) : DOp P pc o F M [] (.agg ds) [] := by
 intro hp a s hok hops _
 have hr := qo hp hx (by simp [ho, Op.operands]) hops
 generalize hv : a.eval x = vx at hr
 cases hr with
 | @agg _ vs hvl h =>
  have hrun := uX (P := P) (ps := [(0, x)]) (vs := [.agg vs.toArray]) (a := a) (w := s.w) (R := vs) ho hT hZ (by simp [hv]) (by simp [vP, Value.cells, hvl, hl]) (by
   simp only [List.map_cons, List.map_nil, List.zip_cons_cons, List.zip_nil_left, vt, List.getElem?_cons_zero, Value.cells]
   exact uj (by omega))
  exact qN hok hrun (.agg hvl h)
theorem qz {T : TypeId} {x : Operand} {ds : List D} (j : Nat) (ho : o.op = .box T x) (hx : Ev pc F x (.agg ds)) (hj : M[j]? = some .hole) : DOp P pc o F M [j] (.loc j 0) [(j, .mix T ds)] := by
 intro hp a s hok hops hfp
 have hr := qo hp hx (by simp [ho, Op.operands]) hops
 have hj' : s.M[j]? = some .hole := by rw [hfp j (by simp)]; exact hj
 have hjl : j < s.β.length := by rw [hok.len]; exact (qaj.1 hj').1
 have hβ : s.β[j]? = some .nilFunc := by
  have e : s.β[j]? = some s.β[j] := qak hjl
  have : s.β[j] = .nilFunc := hok.blk j .hole _ hj' e
  rw [e, this]
 generalize hv : a.eval x = vx at hr
 cases hr with
 | @agg _ vs hvl h =>
  have ht : Tr s ⟨s.β.set j (.pointer (some ⟨s.w.heap.size, 0, none⟩)), s.I, s.M.set j (.mix T ds), s.w.alloc (.cells vs.toArray T)⟩ := by
   refine gX hok hj' _ _ _ (by simp) (fun b hb => by simpa [hb] using (qao hb).symm) (fun b h => Below.heap_alloc _ _ _ h) (fun b hb => ?_) (by simp) rfl rfl rfl ⟨_, vs, rfl, heap_alloc_new s.w _, hvl, fun k e v hk hv => ?_⟩
   ·cases hb; simp
   ·refine Rep.mono' (s := s) (s' := ⟨s.β.set j (.pointer (some ⟨s.w.heap.size, 0, none⟩)), s.I, s.M.set j (.mix T ds), s.w.alloc (.cells vs.toArray T)⟩) (fun i h hi hne => ?_) (fun _ h => h) (fun b hI => Below.heap_alloc _ _ _ (hok.il b hI)) (h k e v hk hv)
    show (s.β.set j _)[i]? = some h
    by_cases e : j = i
    ·subst e; rw [hi] at hβ; exact absurd (qao hβ) hne
    ·rw [qav e]; exact hi
  refine k6 (v := .pointer (some ⟨s.w.heap.size, 0, none⟩)) ?_ ht rfl (xG hjl rfl)
  unfold execOp
  simp only [ho, hv]
  rfl
theorem kL {T T' : TypeId} {x y : Operand} {i k : Nat} {rw' : Bool} {ds : List D} {L : List Value} (ho : o.op = .store T x y) (hT : tyB P T = some (rw', k)) (hx : Ev pc F x (.loc i 0)) (hy : Ev pc F y (.agg ds)) (hM : M[i]? = some (.flat T' L)) (hk : ds.length = k) (hfit : ds.length = L.length) (h1 : ds.all D.oc = true) : DOp P pc o F M [i] .junk [(i, .mix T' ds)] := by
 intro hp a s hok hops hfp
 have hr := qo hp hx (by simp [ho, Op.operands]) hops
 have hry := qo hp hy (by simp [ho, Op.operands]) hops
 have hM' : s.M[i]? = some (.flat T' L) := by rw [hfp i (by simp)]; exact hM
 generalize hv : a.eval x = vx at hr
 generalize hvy : a.eval y = vy at hry
 cases hr with
 | @loc _ _ b h =>
  cases hry with
  | @agg _ vs hvl hd =>
   obtain ⟨b', e1, e2⟩ := hok.blk i _ _ hM' h
   cases e1
   have hcell := qh e2 0
   have hoc : ∀ u ∈ vs, u.oneCell' = true := fun u hu => by
    obtain ⟨j, hj, rfl⟩ := List.getElem_of_mem hu
    have hj2 : j < ds.length := by omega
    exact Yk (hd j _ _ (qak hj2) (qak hj)) (qaM.1 h1 _ (qa7 hj2))
   have hrun := ym (P := P) (w := s.w) (C := vs) ho hT hv hvy rfl (by omega) (fun j hj => by
     have hp' : j < L.length := by omega
     have := hcell j L[j] (by simp [hp'])
     rw [qal] at this
     rw [qal, this]; rfl) (fun j hj => by simp [World.frozen?, e2]) hoc
   have hβ : s.β.set i (.pointer (some ⟨b, 0, none⟩)) = s.β := by
    apply qa9
    intro k
    by_cases e : i = k
    ·subst e; rw [qaz (qaj.1 h).1, h]
    ·rw [qav e]
   refine y9 (s' := ⟨s.β.set i (.pointer (some ⟨b, 0, none⟩)), s.I, s.M.set i (.mix T' ds), s.w.setCells b 0 vs⟩) hrun (yx hok hM' rfl h rfl 0 _ ?_) rfl
   have hall : jL L 0 vs = vs := uj (by omega)
   have hblk := kV b vs 0 s.w L T' e2
   rw [hall] at hblk
   refine ⟨b, vs, rfl, hblk, hvl, fun j e v hj hv' => ?_⟩
   refine Rep.mono' (s := s) (s' := ⟨s.β.set i (.pointer (some ⟨b, 0, none⟩)), s.I, s.M.set i (.mix T' ds), s.w.setCells b 0 vs⟩) (fun k x hk _ => by show (s.β.set i _)[k]? = _; rw [hβ]; exact hk) (fun _ h => h) (fun b' hI => ja b _ 0 s.w b' fun e => ?_) (hd j e v hj hv')
   subst e
   exact (hok.lt b' (ql hM' rfl h rfl)).2 hI
end
section
variable {P : Program} {pc : Bool} {o : Oper} {F : Fr} {M : List Blk}
def ptT (P : Program) (T : TypeId) : Option TypeId := match P.underlying T with
 | some (.pointer e) => some e
 | _ => none
theorem ux {P : Program} {T e : TypeId} (h : ptT P T = some e) : P.underlying T = some (.pointer e) := by
 unfold ptT at h
 split at h
 ·rename_i e' h1; cases h; exact h1
 ·cases h
theorem Y9 {T T' e : TypeId} {x : Operand} {i q : Nat} (ho : o.op = .binOp .eql T x (.const (.pointer none)) T') (hT : ptT P T = some e) (hx : Ev pc F x (.loc i q)) : DOp P pc o F M [] (.val (.bool false)) [] := by
 intro hp a s hok hops _
 have hr := qo hp hx (by simp [ho, Op.operands]) hops
 generalize hv : a.eval x = vx at hr
 cases hr with
 | @loc _ _ b h =>
  refine qN (v := .bool false) hok ?_ (.val _)
  unfold execOp
  simp only [ho, hv]
  refine kE ?_
  have hc : a.eval (.const (.pointer none)) = .pointer none := rfl
  rw [hc]
  have hg : (eqGuard .eql T x (.const (.pointer none)) (.pointer (some ⟨b, q, none⟩)) (.pointer none)).run P s.w = .ok () s.w := by unfold eqGuard; rfl
  rw [Sem.run_bind, hg]
  have he := run_equal_pointer_nil (P := P) s.w T (some ⟨b, q, none⟩) (by rw [show P.pointee T = e by simp [Program.pointee, ux hT]]; exact ux hT)
  simp only [Result.andThen, binOp, Sem.run_bind, he]
  rfl
end
section
variable {P : Program} {pc : Bool} {o : Oper} {F : Fr} {M : List Blk}
theorem Qa {α : Type} {en : α → List Value} {r : List α} {T e : TypeId} {sz by' : Nat} {x hi mx : Operand} {k k' : IntKind} {h h' : Int} {j : Nat} (ho : o.op = .slice T x none (some hi) (some mx)) (hT : slE P T = some (e, sz, by')) (hx : Ev pc F x (.slf sz r.length (r.flatMap en))) (hhi : Ev pc F hi (.val (.int k h))) (hmx : Ev pc F mx (.val (.int k' h')))
  (hh : pc = true → h = (j : Int)) (hm : pc = true → h' = (j : Int)) (hj : pc = true → j ≤ r.length) (hen : ∀ a, (en a).length = sz) : DOp P pc o F M [] (.slf sz (r.take j).length ((r.take j).flatMap en)) [] := by
 intro hp a s hok hops _
 have hr := qo hp hx (by simp [ho, Op.operands]) hops
 have e1 := (qo hp hhi (by simp [ho, Op.operands]) hops).val_eq
 have e2 := (qo hp hmx (by simp [ho, Op.operands]) hops).val_eq
 rw [hh hp] at e1
 rw [hm hp] at e2
 have hjl := hj hp
 obtain ⟨q1, ti, q2, q3, q4⟩ := kU hT
 have hlen : (r.take j).length = j := by rw [qaN]; omega
 generalize hv : a.eval x = vx at hr
 cases hr with
 | @slf _ _ cap ad _ hl hn hc ha hL =>
  have hjc : j ≤ cap := by omega
  have hrun : (execOp a.eval o).run P s.w = .ok (.value (.slice ad j j)) s.w := by
   unfold execOp
   simp only [ho, hv, Option.map_some, Option.map_none, e1, e2]
   refine kE ?_
   have hj0 : (0 : Int) ≤ (j : Int) ∧ (j : Int) ≤ (cap : Int) := by omega
   simp [Instr.sliceAt, Instr.slice, run_underlying q1, Sem.run_bind, Instr.sliceBounds, Instr.sliceBound, asIntOf, hjc, sizeOf, typeInfo, q2, Addr.add_zero']
  refine qN hok hrun ?_
  rw [hlen]
  refine .slf (by rw [jN hen, hlen]) (qaE _) (by omega) (fun e => by have := ha e; omega) ?_
  rcases hL with hL | ⟨b, q, e, hI, hcl⟩
  ·left
   have : (r.take j).flatMap en = (r.flatMap en).take (j * sz) := by rw [yl hen]
   rw [this, hL]; simp
  ·right
   refine ⟨b, q, e, hI, ?_⟩
   have : (r.take j).flatMap en = (r.flatMap en).take (j * sz) := by rw [yl hen]
   rw [this]
   have h5 := qM hcl 0 (j * sz)
   simpa using h5
end
end Go.Proofs.Ytofklkbfkoliiaa
namespace Go.Proofs.Ytofklkbfkoliiaa
set_option linter.unusedVariables false
set_option linter.unusedSimpArgs false
open Go.RowKit
def WJ (md : Region.Mode) (ops : Array Oper) : Nat → Array Bool → List (List Nat)
 | 0, _ => [[]]
 | f + 1, listed => match Region.ready md ops listed with
  | [] => [[]]
  | i :: r => (i :: r).flatMap fun j => (WJ md ops f (listed.setIfInBounds j true)).map (j :: ·)
theorem Qb {md : Region.Mode} {ops : Array Oper} : ∀ (f t : Nat) (listed : Array Bool), Region.linearise.go md ops f t listed [] ∈ WJ md ops f listed
 | 0, t, listed => by simp [Region.linearise.go, WJ]
 | f + 1, t, listed => by
  simp only [Region.linearise.go]
  change (match (Region.ready md ops listed)[t % (Region.ready md ops listed).length]? with
   | some i => Region.linearise.go md ops f (t / (Region.ready md ops listed).length) (listed.setIfInBounds i true) [i]
   | none => [].reverse) ∈ _
  unfold WJ
  cases hr : Region.ready md ops listed with
  | nil => simp
  | cons x xs =>
   have hlt : t % (x :: xs).length < (x :: xs).length := Nat.mod_lt _ (by simp)
   rw [qak hlt]
   simp only []
   rw [linearise_go_acc, List.reverse_singleton, List.singleton_append]
   exact List.mem_flatMap.2 ⟨_, qa7 hlt, List.mem_map.2 ⟨_, Qb f _ _, rfl⟩⟩
def WK (ops : Array Oper) : List (List Nat) := WJ .any ops ops.size (qaY ops.size false)
theorem Yl {P : Program} {ops : Array Oper} (hm : P.follows .mixedOrders = true) (t : Nat) : Region.schedule (P.follows .mixedOrders) ops t ∈ WK ops := by
 simp only [Region.schedule, hm, Bool.true_or, if_true]
 exact Qb _ _ _
def J7 (ops : Array Oper) (L : List Nat) : List Oper := L.filterMap (ops[·]?)
theorem zr {G : Fence} {k : Nat} {P : Program} {ops : Array Oper} {Q : Exit → Act → World → Prop} : ∀ L : List Nat, wpOpsIn G k P ops Q L = wpListIn G k P ops Q (J7 ops L)
 | [] => by funext a w; rfl
 | i :: L => by
  funext a w
  have ih := zr (G := G) (k := k) (P := P) (ops := ops) (Q := Q) L
  cases ho : ops[i]? with
  | none => simp only [wpOpsIn, J7, List.filterMap_cons, ho]; exact congrFun (congrFun ih a) w
  | some o => simp only [wpOpsIn, J7, List.filterMap_cons, ho, wpListIn]; rw [ih]; rfl
theorem Vg {P : Program} {ops : Array Oper} {Q : Exit → Act → World → Prop} {b : Frame} {k : List Item} {cs : List Frame} {tail : List Nat} (hro : b.roundOf = none)
  (hQ : ∀ e a w, Q e a w → e = .normal) (l : List Nat) :
  ∀ (a : Act) (w : World), wpOpsIn (wd none) 0 P ops Q l a w →
   ∃ a' w', Q .normal a' w' ∧ StepsIn (Machine.fenced P Fence.wide) P (lone (b.atR a (.inRegion ops (l ++ tail) :: k)) cs w) (lone (b.atR a' (.inRegion ops tail :: k)) cs w') := by
 induction l with
 | nil => exact fun a w h => ⟨a, w, h, StepsIn.refl _⟩
 | cons i rest ih =>
  intro a w h
  simp only [wpOpsIn] at h
  rw [qas]
  cases ho : ops[i]? with
  | none =>
   simp only [ho] at h
   obtain ⟨a', w', hq, hs'⟩ := ih a w h
   have hs := stepR_op_skip (P := P) (b := b) (a := a) (k := k) (cs := cs) (w := w) (ops := ops) (i := i) (rest := rest ++ tail) (by simp [ho])
   simp only [ho, Option.bind_none, Act.put] at hs
   exact ⟨a', w', hq, .head (fenced_wide _ _) hs hs'⟩
  | some o =>
   simp only [ho] at h
   by_cases hw : Region.wanted o (yielded ops a.tmps) = true
   ·simp only [hw, if_true, Oper.wpIn] at h
    obtain ⟨_, h⟩ := h
    rw [show (wd none).round = none from rfl] at h
    simp only [Oper.uponIn] at h
    have hg := stepGR_op (P := P) (b := b) (k := k) (cs := cs) (w := w) (rest := rest ++ tail) ho hw
    rw [hro] at hg
    have hfin : ∀ v, (b.atR a (.inRegion ops (i :: (rest ++ tail)) :: k)).finish v = b.atR (a.put o.dst v) (.inRegion ops (rest ++ tail) :: k) := by
     intro v; rw [Frame.finish_atR, ho]; rfl
    split at h
    ·rename_i v w' hr'
     have hr'' : (o.semAt none a.eval).run P w = .ok (.value v) w' := hr'
     obtain ⟨a', w'', hq, hs'⟩ := ih _ _ h
     refine ⟨a', w'', hq, .head (fenced_wide _ _) (step_lone_go ?_) hs'⟩
     rw [hg, ← hfin]; simp [stepG.apply, hr'']
    ·rename_i w' hr'
     have hr'' : (o.semAt none a.eval).run P w = .ok .skip w' := hr'
     obtain ⟨a', w'', hq, hs'⟩ := ih _ _ h
     refine ⟨a', w'', hq, .head (fenced_wide _ _) (step_lone_go ?_) hs'⟩
     rw [hg, ← hfin]; simp [stepG.apply, hr'']
    ·rename_i d w' hr'
     have hr'' : (o.semAt none a.eval).run P w = .ok (.defer d) w' := hr'
     obtain ⟨a', w'', hq, hs'⟩ := ih _ _ h
     refine ⟨a', w'', hq, .head (fenced_wide _ _) (step_lone_go ?_) hs'⟩
     have : ({ b.atR a (.inRegion ops (i :: (rest ++ tail)) :: k) with defers := d :: a.defers } : Frame).finish undef =
       b.atR ({ a with defers := d :: a.defers }.put o.dst undef) (.inRegion ops (rest ++ tail) :: k) := by
      have := Frame.finish_atR b { a with defers := d :: a.defers } ops i (rest ++ tail) k undef
      rw [ho] at this; exact this
     rw [hg]; simp only [stepG.apply, Sem.runT_eq, hr'', GStep.bare_after]
     exact congrArg (fun fr => GStep.go { frame := fr, callers := cs, status := .running, dying := none } w') this
    ·rename_i f args w' hr'
     have hr'' : (o.semAt none a.eval).run P w = .ok (.enter f args) w' := hr'
     obtain ⟨hn, hF, h⟩ := h
     obtain ⟨e, w'', fr, hR, hsteps, hfn, hleave⟩ := h (b.atR a (.inRegion ops (i :: (rest ++ tail)) :: k) :: cs) (gM _ _)
     have henter : step P (lone (b.atR a (.inRegion ops (i :: (rest ++ tail)) :: k)) cs w) =
       .next (lone (Frame.enter P f args .normal) (b.atR a (.inRegion ops (i :: (rest ++ tail)) :: k) :: cs) w') :=
      step_lone_go (by rw [hg]; simp [stepG.apply, hr'', Frame.atR])
     cases e with
     | returned v =>
      obtain ⟨a', w₃, hq, hs'⟩ := ih _ _ hR
      refine ⟨a', w₃, hq, .head (fenced_wide _ _) henter (StepsIn.trans (hsteps.mono fun _ _ => fenced_wide _ _) (.head (fenced_wide _ _) ?_ hs'))⟩
      rw [← hfin]; exact step_leave_returned hleave
     | panicked chain => cases hQ _ _ _ hR
     | outgrown => obtain ⟨a₀, w₀, hq⟩ := hR; cases hQ _ _ _ hq
    ·rename_i row args w' hr'
     have hr'' : (o.semAt none a.eval).run P w = .ok (.row row args) w' := hr'
     obtain ⟨hn, h⟩ := h
     obtain ⟨v, w'', hR, hsteps⟩ := h (b.atR a (.inRegion ops (i :: (rest ++ tail)) :: k)) cs (gM _ _)
     have henter : step P (lone (b.atR a (.inRegion ops (i :: (rest ++ tail)) :: k)) cs w) =
       .next (lone (Frame.ofRow P row args .normal) (b.atR a (.inRegion ops (i :: (rest ++ tail)) :: k) :: cs) w') :=
      step_lone_go (by rw [hg]; simp [stepG.apply, hr'', Frame.atR])
     obtain ⟨a', w₃, hq, hs'⟩ := ih _ _ hR
     refine ⟨a', w₃, hq, .head (fenced_wide _ _) henter ?_⟩
     rw [← hfin] at hs'; exact StepsIn.trans (hsteps.mono fun _ _ => fenced_wide _ _) hs'
    ·rename_i l f tmps assign body w' hr'
     have hr'' : (o.semAt none a.eval).run P w = .ok (.round l f tmps assign body) w' := hr'
     obtain ⟨hn, _, h⟩ := h
     obtain ⟨e, w'', hR, hsteps⟩ := h (b.atR a (.inRegion ops (i :: (rest ++ tail)) :: k)) cs (gM _ _)
     have henter : step P (lone (b.atR a (.inRegion ops (i :: (rest ++ tail)) :: k)) cs w) =
       .next (lone (Frame.round l f tmps assign body .normal) (b.atR a (.inRegion ops (i :: (rest ++ tail)) :: k) :: cs) w') :=
      step_lone_go (by rw [hg]; simp [stepG.apply, hr'', Frame.atR])
     cases e with
     | returned v =>
      obtain ⟨a', w₃, hq, hs'⟩ := ih _ _ hR
      refine ⟨a', w₃, hq, .head (fenced_wide _ _) henter ?_⟩
      rw [← hfin] at hs'
      have hsteps : StepsIn _ P _ _ := hsteps
      exact StepsIn.trans (hsteps.mono fun _ _ => fenced_wide _ _) hs'
     | panicked chain => cases hQ _ _ _ hR
     | outgrown => obtain ⟨a₀, w₀, hq⟩ := hR; cases hQ _ _ _ hq
    ·rename_i v w' hr'
     cases hQ _ _ _ h
    ·exact h.elim
   ·simp only [hw, if_false, Bool.false_eq_true] at h
    obtain ⟨_, h⟩ := h
    obtain ⟨a', w', hq, hs'⟩ := ih _ _ h
    have hs := stepR_op_skip (P := P) (b := b) (a := a) (k := k) (cs := cs) (w := w) (ops := ops) (i := i) (rest := rest ++ tail)
     (by simp [ho]; simpa using hw)
    simp only [ho, Option.bind_some] at hs
    exact ⟨a', w', hq, .head (fenced_wide _ _) hs hs'⟩
def Kn (Q : Fr → List Blk → Prop) : Cont
 | .normal, F, M => Q F M
 | _, _, _ => False
theorem Vh {fn : Func} {args : List D} {N m : Nat} {s : St} {vs : List Value} (hn : fn.ntmps = N) (hle : Nat.ble args.length N = true) (hok : Ok s) (hr : Reps s args vs) :
  Inv s ⟨N, none, m, [], false⟩ (fr0 0 args) s.M { tmps := vs.toArray ++ qaY (fn.ntmps - vs.toArray.size) undef, defers := [] } { s.w with drawn := s.w.drawn + 1 } := by
 obtain ⟨hl, hr⟩ := hr
 have hle := qaq hle
 generalize ha : ({ tmps := vs.toArray ++ qaY (fn.ntmps - vs.toArray.size) undef, defers := [] } : Act) = a0
 have hsize : a0.tmps.size = N := by subst ha; simp; omega
 have hslot : ∀ t d, lk (fr0 0 args) t = some d → Rep s d (jf a0 t) := by
  intro t d hd
  obtain ⟨_, h2⟩ := uT args 0 t d hd
  simp only [Nat.sub_zero] at h2
  have hlt : t < args.length := (qaj.1 h2).1
  have hv : vs[t]? = some vs[t] := qak (by omega)
  have : jf a0 t = vs[t] := by
   subst ha
   unfold jf
   simp only [Array.getD_eq_getD_getElem?]
   rw [Array.getElem?_append_left (by simp; omega)]
   simp [show t < vs.length by omega]
  rw [this]
  exact hr t d _ h2 hv
 have hst := v6 hok { s.w with drawn := s.w.drawn + 1 } rfl rfl rfl rfl
 refine ⟨hok, ⟨s.β, s.I, s.M, { s.w with drawn := s.w.drawn + 1 }⟩, rfl, rfl, hst, fun t d hd => (hslot t d hd).mono hok hst, hsize, ?_⟩
 rw [← ha]
 exact .nil
theorem J8 {P : Program} {f : FuncId} {fn : Func} {id : Nat} {ops : Array Oper} {o : Oper} {args : List D} {F0 : Fr} {Min Mout : List Blk} {pn : Option D} {dr : D} {N t : Nat} (m r : Nat) (Ls : List (List Nat)) (hmx : P.follows .mixedOrders = true) (hcb : yE P f = true) (hf : P.funcs[f]? = some fn)
  (hc : fn.body = some (.region id ops true)) (hn : fn.ntmps = N) (hle : Nat.ble args.length N = true) (hF : fr0 0 args = F0) (hm : Min.length = m) (hor : ops[r]? = some o) (hLs : WK ops = Ls)
  (ho : o.op = .call { callee := .builtin .recover, args := #[], argTypes := #[] }) (hg : o.guard = none) (hd : o.dst = some t) (ht : qbb t N = true)
  (h : ∀ s0 : St, s0.M.length ≤ m → ∀ L ∈ Ls, ∃ L1 L2, L = L1 ++ r :: L2 ∧ Walk P s0 ⟨N, none, m, [], false⟩ ops (J7 ops L1) F0 Min
   (Kn fun F M => Walk P s0 ⟨N, none, m, [], false⟩ ops (J7 ops L2) ((t, zn pn) :: F) M (Kret P fn m [] (fun d M => d = dr ∧ M = Mout) (fun _ _ => False)))) :
  DDef P f args Min pn none Mout := by
 subst hF
 subst hLs
 refine ⟨hcb, fun s vs u hok hM hr hmode => ⟨trivial, fun c0 cs hu hroom => ?_⟩⟩
 subst hu
 subst hm
 have hlen : s.M.length ≤ Min.length := by rw [hM]; exact qaE _
 let b : Frame := { (default : Frame) with fn := f, kind := .deferred, roundOf := none }
 have henter : Frame.enter P f vs.toArray .deferred = b.atR { tmps := vs.toArray ++ qaY (fn.ntmps - vs.toArray.size) undef, defers := [] } [.code (.region id ops true)] := by
  simp [Frame.enter, Frame.atR, hf, hc, b]
 rw [henter]
 obtain ⟨L1, L2, hL, hw1⟩ := h s hlen _ (Yl (ops := ops) hmx (s.w.tape s.w.drawn (.order b.fn id)))
 have hi := Vh (m := Min.length) hn hle hok hr
 rw [hM] at hi
 have h1 := hw1 _ _ hi
 rw [show Cx.ρ ⟨N, none, Min.length, [], false⟩ s = none from rfl, ← zr] at h1
 obtain ⟨a1, w1, hq1, hs1⟩ := Vg (b := b) (k := []) (cs := c0 :: cs) (tail := r :: L2) rfl (fun e a w hq => by
  cases e with
  | normal => rfl
  | ret => obtain ⟨_, _, _, hk⟩ := hq; exact hk.elim
  | exit id => obtain ⟨_, _, _, hk⟩ := hq; exact hk.elim
  | goto l => obtain ⟨_, _, _, hk⟩ := hq; exact hk.elim
  | panic ch => obtain ⟨_, _, _, _, hk⟩ := hq; exact hk.elim
  | outgrown => exact hq.elim) L1 _ _ h1
 obtain ⟨F, M, ⟨h0, s1, q1, q2, q3, q4, q5, q6⟩, hk⟩ := hq1
 obtain ⟨hrec, hset⟩ := yU hmode
 have hi2 : Inv s ⟨N, none, Min.length, [], false⟩ ((t, zn pn) :: F) M (a1.put o.dst (yz c0.mode).1) w1 := by
  refine ⟨h0, s1, q1, q2, q3, ?_, by rw [jM]; exact q5, by rw [yb]; exact q6⟩
  rw [hd]
  exact FOk.put (s := s1) (F := F) q4 (by rw [q5]; exact Nat.blt_eq.mp ht) (hrec.mono hok q3)
 have h2 := hk _ _ hi2
 rw [show Cx.ρ ⟨N, none, Min.length, [], false⟩ s = none from rfl, ← zr] at h2
 obtain ⟨e, a', w', hq, harr⟩ := wp_opsIn _ _ _ h2 b [] ({ c0 with mode := (yz c0.mode).2 } :: cs) rfl trivial (gM _ _)
 refine uo (P := P) (b := b) hok hlen hf rfl rfl rfl hset hq (ArrivesIn.of_steps (.head (fenced_wide _ _) stepR_region_draw ?_) harr)
 rw [hL]
 refine StepsIn.trans hs1 (.one (fenced_wide _ _) ?_)
 exact zm (P := P) (b := b) (a := a1) (k := []) (c0 := c0) (cs := cs) (w := w1) (ops := ops) (i := r) (rest := L2) (o := o) rfl rfl hor hg ho
theorem WL {s : St} {v : Value} (sz : Nat) (h : Rep s (.val (.slice none 0 0)) v) : Rep s (.slf sz 0 []) v := by
 cases h; exact .slf (by simp) (qaE _) (qaZ _) (fun _ => rfl) (.inl rfl)
theorem WM {pc : Bool} {F : Fr} {x : Operand} (sz : Nat) (h : Ev pc F x (.val (.slice none 0 0))) : Ev pc F x (.slf sz 0 []) := by
 obtain ⟨d, h1, h2⟩ := h
 exact ⟨d, h1, fun s v hp hr => WL sz (h2 s v hp hr)⟩
section
variable {P : Program} {pc : Bool} {o : Oper} {F : Fr} {M : List Blk}
theorem J9 {T T' e : TypeId} {x : Operand} {l : List D} (ho : o.op = .binOp .eql T x (.const (.pointer none)) T') (hT : ptT P T = some e) (hx : Ev pc F x (.dpm l)) : DOp P pc o F M [] (.val (.bool false)) [] := by
 intro hp a s hok hops _
 have hr := qo hp hx (by simp [ho, Op.operands]) hops
 generalize hv : a.eval x = vx at hr
 cases hr with
 | @dpm b q _ _ _ _ _ _ _ =>
  refine qN (v := .bool false) hok ?_ (.val _)
  unfold execOp
  simp only [ho, hv]
  refine kE ?_
  have hc : a.eval (.const (.pointer none)) = .pointer none := rfl
  rw [hc]
  have hg : (eqGuard .eql T x (.const (.pointer none)) (.pointer (some ⟨b, q, none⟩)) (.pointer none)).run P s.w = .ok () s.w := by unfold eqGuard; rfl
  rw [Sem.run_bind, hg]
  have he := run_equal_pointer_nil (P := P) s.w T (some ⟨b, q, none⟩) (by rw [show P.pointee T = e by simp [Program.pointee, ux hT]]; exact ux hT)
  simp only [Result.andThen, binOp, Sem.run_bind, he]
  rfl
theorem xK {f q : Nat} {T : TypeId} {x : Operand} {l : List D} (ho : o.op = .fieldAddr T x f) (hT : fdO P T f = some q) (hx : Ev pc F x (.dpm l)) : DOp P pc o F M [] (.dpm (l.drop q)) [] := by
 intro hp a s hok hops hfp
 have hr := qo hp hx (by simp [ho, Op.operands]) hops
 generalize hv : a.eval x = vx at hr
 cases hr with
 | @dpm b c _ vs hnl hI hc hl h =>
  refine qN hok (wy ho hT hv) (.dpm (vs := vs.drop q) (vH q hnl) hI (fun j v hj => ?_) (by simp [hl]) fun j d v hj hv => ?_)
  ·rw [qa2] at hj
   rw [Nat.add_assoc]
   exact hc _ v hj
  ·rw [qa2] at hj hv
   exact h _ d v hj hv
end
end Go.Proofs.Ytofklkbfkoliiaa
namespace Go.Proofs.Ytofklkbfkoliiaa
set_option linter.unusedVariables false
set_option linter.unusedSimpArgs false
open Go.RowKit
def Qc (ops : Array Oper) (bj : Nat) (S : List Nat) (sj i j : Nat) (oi oj : Oper) (fi fj : List Nat × List Nat) : Bool :=
 bj.testBit i || !(gH oi.dst.toList (jU ops oj) || gH (jU ops oi) oj.dst.toList || (gH fi.2 fj.1 && !(i == sj && S.contains j)) || (gH fi.1 fj.2 && !(S.contains i && j == sj)))
def Qd (S : List Nat) (sj : Nat) (fpS : List Nat) (n : Nat) (l : List Oper) (fps : List (List Nat × List Nat)) : Bool :=
 let bs := zg l []
 (fps.length == l.length && (qa3 l.length).all fun j =>
  match l[j]?, fps[j]? with
  | some oj, some fj => oj.after.all (fun e => !Region.binds .any e || qbb e.on j) && K0 n oj.dst && gc oj.op && fj.2.all (fun x => fj.1.contains x) && (qa3 j).all fun i =>
   match l[i]?, fps[i]? with
   | some oi, some fi => Qc l.toArray (bs.getD j 0) S sj i j oi oj fi fj
   | _, _ => false
  | _, _ => false) && ((qa3 l.length).all fun j => match fps[j]? with
   | some fj => j == sj || !(gH fj.2 fpS) || (qbb sj j && gd l sj j && S.all fun i => gd l i j)
   | none => false) && qbb sj l.length
def Lex3 (P : Program) (ops : Array Oper) (S : List Nat) (sj : Nat) (fpS : List Nat) (M0 Ma : List Blk) : Nat → List Oper → List (List Nat × List Nat) → Fr → List Blk → (Fr → List Blk → Prop) → Prop
 | _, [], _, F, M, Q => Q F M
 | _, _ :: _, [], _, _, _ => False
 | k, o :: rest, (fp, wi) :: fps, F, M, Q => ∃ pc d wr, Gd ops o F pc ∧ DOp P pc o F M fp d wr ∧ wr.map (·.1) = wi ∧ (o.guard.isSome = true → wr = []) ∧ ((k ∈ S → (∀ x ∈ fp, x ∈ fpS) ∧ wr = [] ∧ DOp P pc o F M0 fp d [] ∧ DOp P pc o F Ma fp d []) ∧ (k = sj → ∀ x ∈ fpS, (upd M0 wr)[x]? = Ma[x]?)) ∧ Lex3 P ops S sj fpS M0 Ma (k + 1) rest fps (putF o.dst (gdd o pc d) F) (upd M wr) Q
theorem Kv {P : Program} {ops : Array Oper} {S : List Nat} {sj : Nat} {fpS : List Nat} {M0 Ma : List Blk} {Q : Fr → List Blk → Prop} : ∀ (l : List Oper) (fps : List (List Nat × List Nat)) (F : Fr) (M : List Blk) (b : Nat), fps.length = l.length → Lex3 P ops S sj fpS M0 Ma b l fps F M Q →
  ∃ E : List Rc, E.length = l.length ∧ Q (Fup l E F l.length) (Mup E M l.length) ∧ ∀ (k : Nat) o f, l[k]? = some o → fps[k]? = some f → ∃ pc d r, E[k]? = some r ∧ r.d = gdd o pc d ∧ Gd ops o (Fup l E F k) pc ∧ DOp P pc o (Fup l E F k) (Mup E M k) f.1 d r.wr ∧ r.wr.map (·.1) = f.2 ∧ (o.guard.isSome = true → r.wr = []) ∧
   (b + k ∈ S → (∀ x ∈ f.1, x ∈ fpS) ∧ r.wr = [] ∧ DOp P pc o (Fup l E F k) M0 f.1 d [] ∧ DOp P pc o (Fup l E F k) Ma f.1 d []) ∧ (b + k = sj → ∀ x ∈ fpS, (upd M0 r.wr)[x]? = Ma[x]?)
 | [], [], F, M, b, _, h => ⟨[], rfl, h, fun k o f hk => by simp at hk⟩
 | o :: l, (fp, wi) :: fps, F, M, b, hl, h => by
  obtain ⟨pc, d, wr, h1, h2, h3, h4, ⟨g1, g2⟩, h5⟩ := h
  obtain ⟨E, e1, e2, e3⟩ := Kv l fps _ _ (b + 1) (by simpa using hl) h5
  have fup : ∀ k, Fup (o :: l) (⟨gdd o pc d, wr⟩ :: E) F (k + 1) = Fup l E (putF o.dst (gdd o pc d) F) k := by
   intro k
   induction k with
   | zero => rfl
   | succ k ih =>
    rw [Fup]
    simp only [List.getElem?_cons_succ]
    rw [ih]
    conv => rhs; rw [Fup]
  have mup : ∀ k, Mup (⟨gdd o pc d, wr⟩ :: E) M (k + 1) = Mup E (upd M wr) k := by
   intro k
   induction k with
   | zero => rfl
   | succ k ih =>
    rw [Mup]
    simp only [List.getElem?_cons_succ]
    rw [ih]
    conv => rhs; rw [Mup]
  refine ⟨⟨gdd o pc d, wr⟩ :: E, by simp [e1], by rw [qaI, fup, mup]; exact e2, fun k p f hk hf => ?_⟩
  cases k with
  | zero =>
   simp at hk hf
   subst hk; subst hf
   exact ⟨pc, d, _, rfl, rfl, h1, h2, h3, h4, g1, g2⟩
  | succ k =>
   rw [fup, mup, show b + (k + 1) = b + 1 + k by omega]
   simpa using e3 k p f (by simpa using hk) (by simpa using hf)
 | [], _ :: _, _, _, _, hl, _ => by simp at hl
 | _ :: _, [], _, _, _, hl, _ => by simp at hl
section
variable {P : Program} {ops : Array Oper} {S : List Nat} {sj k : Nat} {fpS : List Nat} {M0 Ma : List Blk} {o : Oper} {rest : List Oper} {fp wi : List Nat} {fps : List (List Nat × List Nat)} {F : Fr} {M M1 : List Blk} {Q : Fr → List Blk → Prop} {d : D} {wr : List (Nat × Blk)} {t : Nat}
theorem Qe (hk : (S.contains k || k == sj) = false) (hg : o.guard = none) (h : DOp P true o F M fp d wr) (hw : wr.map (·.1) = wi)
  (hq : Lex3 P ops S sj fpS M0 Ma (k + 1) rest fps (putF o.dst d F) (upd M wr) Q) : Lex3 P ops S sj fpS M0 Ma k (o :: rest) ((fp, wi) :: fps) F M Q := by
 simp only [qar, beq_eq_false_iff_ne] at hk
 have hk1 : k ∉ S := fun h => by have := hk.1; simp [h] at this
 unfold Lex3
 refine ⟨true, d, wr, gd_n hg, h, hw, fun h => ?_, ⟨fun e => absurd e hk1, fun e => absurd e hk.2⟩, ?_⟩
 ·rw [hg] at h; cases h
 ·unfold gdd; rw [hg]; exact hq
theorem WN (hk : (S.contains k || k == sj) = false) (hg : o.guard = none) (hd : o.dst = some t) (h : DOp P true o F M fp d [])
  (hq : Lex3 P ops S sj fpS M0 Ma (k + 1) rest fps ((t, d) :: F) M Q) : Lex3 P ops S sj fpS M0 Ma k (o :: rest) ((fp, []) :: fps) F M Q := Qe hk hg h rfl (by rw [hd]; exact hq)
theorem H4 (hk : (S.contains k || k == sj) = false) (hg : o.guard = none) (hd : o.dst = some t) (h : DOp P true o F M fp d wr) (hw : wr.map (·.1) = wi) (hM : upd M wr = M1)
  (hq : Lex3 P ops S sj fpS M0 Ma (k + 1) rest fps ((t, d) :: F) M1 Q) : Lex3 P ops S sj fpS M0 Ma k (o :: rest) ((fp, wi) :: fps) F M Q := Qe hk hg h hw (by rw [hd, hM]; exact hq)
theorem H5 (hk : (S.contains k && !(k == sj)) = true) (hf : (fp.all fun x => fpS.contains x) = true) (hg : o.guard = none) (hd : o.dst = some t) (h : DOp P true o F M fp d []) (h0 : DOp P true o F M0 fp d []) (h' : DOp P true o F Ma fp d [])
  (hq : Lex3 P ops S sj fpS M0 Ma (k + 1) rest fps ((t, d) :: F) M Q) : Lex3 P ops S sj fpS M0 Ma k (o :: rest) ((fp, []) :: fps) F M Q := by
 simp only [qan, qau, beq_eq_false_iff_ne] at hk
 unfold Lex3
 refine ⟨true, d, [], gd_n hg, h, rfl, fun _ => rfl, ⟨fun _ => ⟨fun x hx => by simpa using qaM.1 hf x hx, rfl, h0, h'⟩, fun e => absurd e hk.2⟩, ?_⟩
 unfold gdd; rw [hg, hd]; exact hq
theorem H6 (hk : (k == sj && !(S.contains k)) = true) (hg : o.guard = none) (hd : o.dst = some t) (h : DOp P true o F M fp d wr) (hw : wr.map (·.1) = wi) (hM : upd M wr = M1) (hM' : ∀ x ∈ fpS, (upd M0 wr)[x]? = Ma[x]?)
  (hq : Lex3 P ops S sj fpS M0 Ma (k + 1) rest fps ((t, d) :: F) M1 Q) : Lex3 P ops S sj fpS M0 Ma k (o :: rest) ((fp, wi) :: fps) F M Q := by
 simp only [qan, qau, beq_iff_eq] at hk
 have hk1 : k ∉ S := fun h => by have := hk.2; simp [h] at this
 unfold Lex3
 refine ⟨true, d, wr, gd_n hg, h, hw, fun h => ?_, ⟨fun e => absurd e hk1, fun _ => hM'⟩, ?_⟩
 ·rw [hg] at h; cases h
 ·unfold gdd; rw [hg, hd, hM]; exact hq
theorem WO (h : Q F M) : Lex3 P ops S sj fpS M0 Ma k [] [] F M Q := h
end
theorem Vi {P : Program} {s0 : St} {n : Cx} {id : Nat} {l : List Oper} {F : Fr} {M : List Blk} {K : Cont} (S : List Nat) (sj : Nat) (fpS : List Nat) (Ma : List Blk) (fps : List (List Nat × List Nat)) (hMaB : Ma.length = M.length) (hm : P.follows .mixedOrders = true) (hB : Qd S sj fpS n.n l fps = true) (h : Lex3 P l.toArray S sj fpS M Ma 0 l fps F M (fun F M => K .normal F M)) :
  dwp P s0 n (.region id l.toArray true) F M K := by
 intro a w hi
 refine wpIn_region_any hm ?_
 simp only [Qd, qan, beq_iff_eq, qaM, qba] at hB
 obtain ⟨⟨⟨hlen, hB⟩, hmid0⟩, hsj⟩ := hB
 have hsj := Nat.blt_eq.mp hsj
 obtain ⟨E, e1, e2, e3'⟩ := Kv l fps F M 0 hlen h
 have e3 : ∀ (k : Nat) o f, l[k]? = some o → fps[k]? = some f → ∃ pc d r, E[k]? = some r ∧ r.d = gdd o pc d ∧ Gd l.toArray o (Fup l E F k) pc ∧ DOp P pc o (Fup l E F k) (Mup E M k) f.1 d r.wr ∧ r.wr.map (·.1) = f.2 ∧ (o.guard.isSome = true → r.wr = []) := fun k o f h1 h2 => by
  obtain ⟨pc, d, r, q1, q2, q3, q4, q5, q6, _⟩ := e3' k o f h1 h2
  exact ⟨pc, d, r, q1, q2, q3, q4, q5, q6⟩
 have at_ : ∀ k, k < l.length → ∃ o f, l[k]? = some o ∧ fps[k]? = some f := fun k hk => ⟨l[k], fps[k], qak hk, qak (by omega)⟩
 have hone : ∀ (j : Nat) o f, l[j]? = some o → fps[j]? = some f → (∀ e ∈ o.after.toList, Region.binds .any e = true → e.on < j) ∧ K0 n.n o.dst = true ∧ gc o.op = true ∧ (∀ x ∈ f.2, x ∈ f.1) ∧ ∀ (i : Nat) oi fi, i < j → l[i]? = some oi → fps[i]? = some fi → gd l i j = true ∨ (gH oi.dst.toList (jU l.toArray o) = false ∧ gH (jU l.toArray oi) o.dst.toList = false ∧ (gH fi.2 f.1 = false ∨ (i = sj ∧ j ∈ S)) ∧ (gH fi.1 f.2 = false ∨ (i ∈ S ∧ j = sj))) := by
  intro j o f ho hf
  have hj : j < l.length := (qaj.1 ho).1
  have h1 := hB j hj
  rw [ho, hf] at h1
  simp only [qan, qaM, qba] at h1
  obtain ⟨⟨⟨⟨h1, h2⟩, hnd⟩, h3⟩, h4⟩ := h1
  refine ⟨fun e he hb => ?_, h2, hnd, fun x hx => by simpa using h3 x hx, fun i oi fi hij hoi hfi => ?_⟩
  ·have := Array.all_eq_true_iff_forall_mem.1 h1 e (by simpa using he)
   rw [hb] at this
   exact Nat.blt_eq.mp (by simpa using this)
  ·have h5 := h4 i hij
   rw [hoi, hfi] at h5
   simp only [Qc, qaA, qau, qar, Bool.and_eq_false_iff, qay, qan, beq_iff_eq, List.contains_iff_mem] at h5
   rcases h5 with h5 | ⟨⟨⟨q1, q2⟩, q3⟩, q4⟩
   ·exact .inl h5
   ·exact .inr ⟨q1, q2, q3, q4⟩
 have meet_no : ∀ {x : List Nat} {y : List Nat} {t : Nat}, gH x y = false → t ∈ x → t ∈ y → False := by
  intro x y t hm hx hy
  simp only [gH, List.any_eq_false] at hm
  exact hm t hx (by simpa using hy)
 have hM0 : ∃ s : St, s.M = M := by obtain ⟨_, s, h1, _⟩ := hi; exact ⟨s, h1⟩
 have main : ∀ (f : Nat) (listed : Array Bool) (b : Act) (s : St), Ok s0 → listed.size = l.length → unl listed l.length = f → Tr s0 s →
   (∀ t d, lkS l E F (fun k => listed.getD k false) t l.length = some d → Rep s d (jf b t)) → s.M.length = M.length → (∀ i, i < M.length → s.M[i]? = gR E M (fun k => listed.getD k false) i l.length) →
   b.tmps.size = n.n → DfOk s0 s n.mks n.U b.defers → (∀ j i, listed.getD j false = true → j < l.length → gd l i j = true → listed.getD i false = true) →
   wpAnyIn (wd (n.ρ s0)) 0 P .any l.toArray (PostK s0 n K) f listed b s.w := by
  intro f
  induction f with
  | zero =>
   intro listed b s h0 hs hu ht hF hMl hM hn hd _
   have hall := vN _ hu
   refine ⟨?_, ?_⟩
   ·cases hr : Region.ready .any l.toArray listed with
    | nil => rfl
    | cons i r =>
     have hi : i ∈ Region.ready .any l.toArray listed := by rw [hr]; exact qaW ..
     obtain ⟨h1, o, h2, _⟩ := mem_ready.1 hi
     have hil : i < l.length := by simpa using (Array.getElem?_eq_some_iff.1 h2).1
     rw [yF hs hil, hall i hil] at h1
     cases h1
   ·refine ⟨_, _, ⟨h0, s, ?_, rfl, ht, ?_, hn, hd⟩, e2⟩
    ·refine qa9 fun i => ?_
     by_cases hi : i < M.length
     ·rw [hM i hi, wJ i hi]
      exact jm _ fun j r hj _ _ => hall j hj
     ·rw [qaT (by omega), qaT (by rw [Mup_len]; omega)]
    ·intro t d hd'
     rw [wI] at hd'
     refine hF t d ?_
     rw [← hd']
     exact jF _ fun j o hj _ _ => hall j hj
  | succ f ih =>
   intro listed b s h0 hs hu ht hF hMl hM hn hd hcl
   refine ⟨fun hnone => ?_, fun i hi => ?_⟩
   ·exfalso
    obtain ⟨i, h1, h2, h3⟩ := uf l.length (listed := listed) (by omega)
    obtain ⟨o, fi, ho, hfi⟩ := at_ i h1
    obtain ⟨g1, _⟩ := hone i o fi ho hfi
    have : i ∈ Region.ready .any l.toArray listed := mem_ready.2 ⟨by rw [yF hs h1]; exact h2, o, by simpa using ho, fun e he hb => h3 _ (g1 e (by simpa using he) hb)⟩
    rw [hnone] at this
    cases this
   ·obtain ⟨hun, o, ho, hall⟩ := mem_ready.1 hi
    have ho' : l[i]? = some o := by simpa using ho
    have hil : i < l.length := (qaj.1 ho').1
    rw [yF hs hil] at hun
    obtain ⟨fi, hfi⟩ : ∃ fi, fps[i]? = some fi := ⟨fps[i], qak (by omega)⟩
    obtain ⟨pc, d, r, hr, hrd, hg, hop, hwi, hgw, hsoft, _⟩ := e3' i o fi ho' hfi
    rw [qal] at hsoft
    obtain ⟨g1, g2, hnd, g3, g4⟩ := hone i o fi ho' hfi
    have done : ∀ j, gd l j i = true → listed.getD j false = true := by
     intro j hj
     obtain ⟨e, he, hb, hcase⟩ := wH ho' hj
     have h1 := hall e (by simpa using he) hb
     rcases hcase with rfl | ⟨h2, h3⟩
     ·exact h1
     ·exact hcl e.on j h1 (by omega) h3
    have undone : ∀ j, j < l.length → gd l i j = true → listed.getD j false = false := by
     intro j hj h1
     cases e : listed.getD j false with
     | false => rfl
     | true => rw [hcl j i e hj h1] at hun; cases hun
    have tset : ∀ t, t ∈ jU l.toArray o → lkS l E F (fun k => listed.getD k false) t l.length = lkS l E F (fun _ => true) t i := by
     intro t ht
     rw [gN i l.length (by omega) fun j oj h1 h2 hj hjd => ?_]
     ·refine jF i fun j oj hj hoj hjd => ?_
      obtain ⟨fj, hfj⟩ : ∃ fj, fps[j]? = some fj := ⟨fps[j], qak (by omega)⟩
      rcases g4 j oj fj hj hoj hfj with h1 | h1
      ·exact done j h1
      ·exact (meet_no h1.1 (by simp [hjd]) ht).elim
     ·by_cases e : j = i
      ·subst e; exact hun
      ·obtain ⟨fj, hfj⟩ : ∃ fj, fps[j]? = some fj := ⟨fps[j], qak (by omega)⟩
       rcases (hone j oj fj hj hfj).2.2.2.2 i o fi (by omega) ho' hfi with h3 | h3
       ·exact undone j h2 h3
       ·exact (meet_no h3.2.1 ht (by simp [hjd])).elim
    have wmem0 : ∀ x, x ∈ fi.1 → ∀ (j : Nat) rj fj, E[j]? = some rj → fps[j]? = some fj → j < l.length → (y8 rj.wr x).isSome = true → x ∈ fj.2 := by
     intro x _ j rj fj hrj hfj hj hw
     obtain ⟨oj, _, hoj, _⟩ := at_ j hj
     obtain ⟨_, _, r', hr', _, _, _, hw', _⟩ := e3 j oj fj hoj hfj
     rw [hrj] at hr'
     obtain rfl := qao hr'
     rw [← hw']
     refine Classical.byContradiction fun hno => ?_
     rw [jr _ _ hno] at hw
     cases hw
    have msetS : i ∈ S → ∀ x, x ∈ fi.1 → x < M.length → gR E M (fun k => listed.getD k false) x l.length = if listed.getD sj false = true then Ma[x]? else M[x]? := by
     intro hiS x hx hxl
     obtain ⟨hsub, hwr, _, _⟩ := hsoft hiS
     have hxS := hsub x hx
     have hoth : ∀ (j : Nat) rj, j ≠ sj → j < l.length → E[j]? = some rj → (y8 rj.wr x).isSome = true → sj < j ∧ listed.getD j false = false := by
      intro j rj hne hjl hrj hw
      obtain ⟨oj, fj, hoj, hfj⟩ := at_ j hjl
      have hxw := wmem0 x hx j rj fj hrj hfj hjl hw
      have h7 := hmid0 j hjl
      rw [hfj] at h7
      simp only [qaA, qau, qan, beq_iff_eq, qaM] at h7
      rcases h7 with (h7 | h7) | ⟨⟨h7, h8⟩, h9⟩
      ·exact absurd h7 hne
      ·exact (meet_no h7 hxw hxS).elim
      ·exact ⟨Nat.blt_eq.mp h7, undone j hjl (h9 i hiS)⟩
     by_cases hl : listed.getD sj false = true
     ·rw [if_pos hl, js (sj + 1) l.length (by omega) fun j rj h1 h2 hrj hw => (hoth j rj (by omega) h2 hrj hw).2]
      obtain ⟨oj, fj, hoj, hfj⟩ := at_ sj hsj
      obtain ⟨_, _, rj, hrj, _, _, _, _, _, _, hj⟩ := e3' sj oj fj hoj hfj
      have hj := hj (qal _) x hxS
      have hlow : gR E M (fun k => listed.getD k false) x sj = M[x]? := by
       rw [js 0 sj (by omega) fun j r' h1 h2 hr' hw => absurd (hoth j r' (by omega) (by omega) hr' hw).1 (by omega)]
       rfl
      unfold gR
      rw [hrj]
      simp only
      rw [if_pos hl, hlow]
      rw [← wb _ _ _ hxl]; exact hj
     ·rw [if_neg hl, js 0 l.length (by omega) fun j rj h1 h2 hrj hw => by
       by_cases e : j = sj
       ·subst e; simpa using hl
       ·exact (hoth j rj e h2 hrj hw).2]
      rfl
    have mset : i ∉ S → ∀ x, x ∈ fi.1 → gR E M (fun k => listed.getD k false) x l.length = gR E M (fun _ => true) x i := by
     intro hsf x hx
     have wmem : ∀ (j : Nat) rj fj, E[j]? = some rj → fps[j]? = some fj → j < l.length → (y8 rj.wr x).isSome = true → x ∈ fj.2 := by
      intro j rj fj hrj hfj hj hw
      obtain ⟨oj, _, hoj, _⟩ := at_ j hj
      obtain ⟨_, _, r', hr', _, _, _, hw', _⟩ := e3 j oj fj hoj hfj
      rw [hrj] at hr'
      obtain rfl := qao hr'
      rw [← hw']
      refine Classical.byContradiction fun hno => ?_
      rw [jr _ _ hno] at hw
      cases hw
     rw [js i l.length (by omega) fun j rj h1 h2 hrj hw => ?_]
     ·refine jm i fun j rj hj hrj hw => ?_
      obtain ⟨oj, fj, hoj, hfj⟩ := at_ j (by omega)
      rcases g4 j oj fj hj hoj hfj with h1 | h1
      ·exact done j h1
      ·rcases h1.2.2.1 with h1 | h1
       ·exact (meet_no h1 (wmem j rj fj hrj hfj (by omega) hw) hx).elim
       ·exact absurd h1.2 hsf
     ·by_cases e : j = i
      ·subst e; exact hun
      ·obtain ⟨oj, fj, hoj, hfj⟩ := at_ j (by omega)
       rcases (hone j oj fj hoj hfj).2.2.2.2 i o fi (by omega) ho' hfi with h3 | h3
       ·exact undone j h2 h3
       ·rcases h3.2.2.2 with h4 | h4
        ·exact (meet_no h4 hx (wmem j rj fj hrj hfj h2 hw)).elim
        ·exact absurd h4.1 hsf
    have hslot : ∀ t d, t ∈ o.looksAt l.toArray → lk (Fup l E F i) t = some d → Rep s d (jf b t) := by
     intro t d' ht hd'
     refine hF t d' ?_
     rw [tset t (List.mem_append_left _ ht), ← wI]
     exact hd'
    have next : ∀ (s' : St) (v : Value), Tr s s' → s'.M = upd s.M r.wr → Rep s' r.d v → wpAnyIn (wd (n.ρ s0)) 0 P .any l.toArray (PostK s0 n K) f (listed.setIfInBounds i true) (b.put o.dst v) s'.w := by
     intro s' v ht' hM' hrep
     have hset : ∀ k, (listed.setIfInBounds i true).getD k false = if i = k then true else listed.getD k false := fun k => ug _ _ _ (by rw [hs]; exact hil)
     refine ih _ _ s' h0 (by simp [hs]) ?_ (ht.trans ht') ?_ (by rw [hM', v8, hMl]) ?_ (by rw [jM]; exact hn) (by rw [yb]; exact hd.mono ht.ok ht') ?_
     ·have := xD (by rw [hs]; exact hil) hun l.length
      rw [if_pos hil] at this
      omega
     ·intro t d' hd'
      by_cases htd : o.dst = some t
      ·have e : lkS l E F (fun k => (listed.setIfInBounds i true).getD k false) t l.length = some r.d := by
        rw [gN (i + 1) l.length (by omega) fun j oj h1 h2 hj hjd => ?_]
        ·unfold lkS
         rw [ho', hr]
         simp only
         rw [if_pos ⟨by rw [hset, if_pos rfl], htd⟩]
        ·rw [hset, if_neg (by omega)]
         obtain ⟨fj, hfj⟩ : ∃ fj, fps[j]? = some fj := ⟨fps[j], qak (by omega)⟩
         rcases (hone j oj fj hj hfj).2.2.2.2 i o fi (by omega) ho' hfi with h3 | h3
         ·exact undone j h2 h3
         ·exact (meet_no (t := t) h3.2.1 (List.mem_append_right _ (by simp [htd])) (by simp [hjd])).elim
       rw [e] at hd'
       obtain rfl := qao hd'
       have hsz : t < b.tmps.size := by
        rw [htd] at g2
        rw [hn]
        exact Nat.blt_eq.mp g2
       rw [htd, yr, if_pos ⟨rfl, hsz⟩]
       exact hrep
      ·have e : jf (b.put o.dst v) t = jf b t := by
        cases hod : o.dst with
        | none => rfl
        | some x => rw [yr, if_neg (fun q => htd (by rw [hod, q.1]))]
       rw [e]
       refine (hF t d' ?_).mono ht.ok ht'
       rw [← hd']
       refine jF _ fun j oj hj hoj hjd => ?_
       rw [hset]
       by_cases ej : i = j
       ·subst ej
        rw [ho'] at hoj
        obtain rfl := qao hoj
        exact absurd hjd htd
       ·rw [if_neg ej]
     ·intro x hx
      rw [hM', wb _ _ _ (by omega), hM x hx]
      cases hw : y8 r.wr x with
      | none =>
       rw [Option.none_or]
       refine jm _ fun j rj hj hrj hwj => ?_
       rw [hset]
       by_cases ej : i = j
       ·subst ej
        rw [hr] at hrj
        obtain rfl := qao hrj
        rw [hw] at hwj; cases hwj
       ·rw [if_neg ej]
      | some k =>
       rw [Option.some_or]
       have hxw : x ∈ fi.2 := by
        rw [← hwi]
        refine Classical.byContradiction fun hno => ?_
        rw [jr _ _ hno] at hw
        cases hw
       rw [js (i + 1) l.length (by omega) fun j rj h1 h2 hrj hwj => ?_]
       ·unfold gR
        rw [hr]
        simp only
        rw [if_pos (by rw [hset, if_pos rfl]), hw, Option.some_or]
       ·rw [hset, if_neg (by omega)]
        obtain ⟨oj, fj, hoj, hfj⟩ := at_ j (by omega)
        rcases (hone j oj fj hoj hfj).2.2.2.2 i o fi (by omega) ho' hfi with h3 | h3
        ·exact undone j h2 h3
        ·rcases h3.2.2.2 with h4 | h4
         rotate_left
         ·rw [← hwi, (hsoft h4.1).2.1] at hxw
          cases hxw
         refine (meet_no h4 (g3 x hxw) ?_).elim
         obtain ⟨_, _, r', hr', _, _, _, hw', _⟩ := e3 j oj fj hoj hfj
         rw [hrj] at hr'
         obtain rfl := qao hr'
         rw [← hw']
         refine Classical.byContradiction fun hno => ?_
         rw [jr _ _ hno] at hwj
         cases hwj
     ·intro j k hj hjl hk
      rw [hset] at hj ⊢
      by_cases e : i = k
      ·rw [if_pos e]
      ·rw [if_neg e]
       by_cases ej : i = j
       ·subst ej; exact done k hk
       ·rw [if_neg ej] at hj
        exact hcl j k hj hjl hk
    unfold wpOpIn
    rw [ho]
    simp only
    rw [wa hg hslot]
    cases pc with
    | true =>
     rw [if_pos rfl]
     have hlook : ∀ x ∈ o.op.operands, ∀ d', ev (Fup l E F i) x = some d' → Rep s d' (b.eval x) := fun x hx d' hd' => by
      cases x with
      | tmp t => exact hslot t d' (List.mem_append_left _ (List.mem_filterMap.2 ⟨.tmp t, by simpa using hx, rfl⟩)) hd'
      | const v => obtain rfl := qao hd'; exact .val v
      | func g => obtain rfl := qao hd'; exact Rep.fn (vs := []) (us := []) rfl rfl (fun j d v h => by simp at h) (fun j d v h => by simp at h)
      | global g => obtain rfl := qao hd'; exact .val _
     have hgive : DGives P s (fun s' v => s'.M = upd s.M r.wr ∧ Rep s' d v) ((execOp b.eval o).run P s.w) := by
      by_cases hsf : i ∈ S
      ·obtain ⟨_, hwr, hop1, hop2⟩ := hsoft hsf
       rw [hwr]
       by_cases hl : listed.getD sj false = true
       ·refine hop2 rfl b s ht.ok hlook fun x hx => ?_
        by_cases hxl : x < M.length
        ·rw [hM x hxl, msetS hsf x hx hxl, if_pos hl]
        ·rw [qaT (by omega), qaT (by rw [hMaB]; omega)]
       ·refine hop1 rfl b s ht.ok hlook fun x hx => ?_
        by_cases hxl : x < M.length
        ·rw [hM x hxl, msetS hsf x hx hxl, if_neg hl]
        ·rw [qaT (by omega), qaT (by omega)]
      ·refine hop rfl b s ht.ok hlook fun x hx => ?_
       by_cases hxl : x < M.length
       ·rw [hM x hxl, wJ x hxl, mset hsf x hx]
       ·rw [qaT (by omega), qaT (by rw [Mup_len]; omega)]
     refine yT hnd hgive fun s' v ht' ⟨q1, q2⟩ => next s' v ht' q1 ?_
     ·rw [hrd]
      unfold gdd
      split
      ·exact q2
      ·exact .opt (fun _ => q2) (fun h => by cases h)
    | false =>
     rw [if_neg (by simp)]
     have hgs : o.guard.isSome = true := by
      unfold Gd at hg
      cases e : o.guard with
      | none => rw [e] at hg; cases hg
      | some x => rfl
     refine ⟨fun _ _ => trivial, next s undef (Tr.refl ht.ok) (by rw [hgw hgs]; rfl) ?_⟩
     rw [hrd]
     unfold gdd
     split
     ·rename_i e; rw [e] at hgs; cases hgs
     ·exact .opt (fun h => by cases h) (fun _ => rfl)
 obtain ⟨h0, s, h1, h2, h3, h4, h5, h6⟩ := hi
 subst h1 h2
 have hst := v6 h3.ok { s.w with drawn := s.w.drawn + 1 } rfl rfl rfl rfl
 have hno : ∀ k, (qaY l.toArray.size false).getD k false = false := fun k => by
  simp only [Array.getD_eq_getD_getElem?, Array.getElem?_replicate]
  split <;> rfl
 have := main l.length (qaY l.toArray.size false) a ⟨s.β, s.I, s.M, { s.w with drawn := s.w.drawn + 1 }⟩ h0 (by simp) (by
   have := wc l.toArray.size l.length (by simp)
   exact this) (h3.trans hst) (fun t d hd => ?_) rfl (fun i hi => ?_) h5 (h6.mono h3.ok hst) (fun j i hj => by rw [hno] at hj; cases hj)
 ·simpa using this
 ·rw [gN 0 l.length (by omega) fun j o _ _ _ _ => hno j] at hd
  exact (h4 t d hd).mono h3.ok hst
 ·rw [js 0 l.length (by omega) fun j r _ _ _ _ => hno j]
  rfl
end Go.Proofs.Ytofklkbfkoliiaa
namespace Go.Proofs.Ytofklkbfkoliiaa
set_option linter.unusedVariables false
set_option linter.unusedSimpArgs false
open Go.RowKit
section
variable {P : Program} {pc : Bool} {o : Oper} {F : Fr} {M : List Blk}
end
section
variable {P : Program} {s0 : St} {n : Cx}
end
section
variable {P : Program} {pc : Bool} {o : Oper} {F : Fr} {M : List Blk}
theorem Ga : ∀ {l : List D} (k : Nat), D.nlL l = true → D.nlL (l.take k) = true
 | _, 0, _ => by simp [D.nlL]
 | [], _ + 1, _ => rfl
 | d :: l, k + 1, h => by
  rw [D.nlL, qan] at h
  rw [List.take_succ_cons, D.nlL, h.1, Ga k h.2]
  rfl
theorem wO {α β : Type} {en : α → List β} {sz : Nat} (hen : ∀ a, (en a).length = sz) : ∀ (l : List α) (k : Nat), (l.flatMap en).drop (k * sz) = (l.drop k).flatMap en
 | l, 0 => by simp
 | [], k + 1 => by simp
 | a :: l, k + 1 => by
  rw [qaD, List.drop_succ_cons, ← wO hen l k, qa8, Nat.add_comm (k * sz), ← List.drop_drop, List.drop_left' (hen a)]
theorem zt {α β : Type} {en : α → List β} {sz : Nat} (hen : ∀ a, (en a).length = sz) : ∀ (l : List α) (k : Nat), (l.flatMap en).take (k * sz) = (l.take k).flatMap en
 | l, 0 => by simp
 | [], k + 1 => by simp
 | a :: l, k + 1 => by
  rw [qaD, List.take_succ_cons, qaD, ← zt hen l k, qa8, Nat.add_comm (k * sz), List.take_add, List.take_left' (hen a), List.drop_left' (hen a)]
theorem vU {α : Type} {mk : α → D} {l : List α} {j : Nat} (h : j < l.length) : (l.flatMap fun a => [mk a])[j]? = some (mk l[j]) := by
 have e : ∀ l : List α, (l.flatMap fun a => [mk a]) = l.map mk := fun l => by
  induction l with
  | nil => rfl
  | cons a l ih => rw [qaD, List.map_cons, ih]; rfl
 rw [e, qa5, qak h]; rfl
end
end Go.Proofs.Ytofklkbfkoliiaa
namespace Go.Proofs.Ytofklkbfkoliiaa
set_option linter.unusedVariables false
set_option linter.unusedSimpArgs false
open Go.RowKit
section
variable {P : Program} {pc : Bool} {o : Oper} {F : Fr} {M : List Blk}
theorem Vj {s : St} (hok : Ok s) {i : Nat} {T' : TypeId} {sz n n' c b : Nat} {l : List D} (h1 : s.M[i]? = some (.arx T' sz n l)) (h2 : s.β[i]? = some (.slice (some ⟨b, 0, none⟩) n' c)) : n' = n ∧ l.length = n * sz ∧ n ≤ c ∧ c ≤ maxLen ∧ ∃ vs : List Value, vs.length = l.length ∧ qZ s.w b 0 vs ∧ ∀ (j : Nat) d v, l[j]? = some d → vs[j]? = some v → Rep s d v := by
 obtain ⟨vs, hk, q3, q4⟩ := hok.blk i _ _ h1 h2
 rcases hk.2 with ⟨e1, e2⟩ | ⟨g, cap, cur, e1, e2, e3, e4, e5, e6, e7⟩
 ·cases e1
 ·cases e1
  have hc0 := qM (qh e3 0) 0 (n * sz)
  exact ⟨rfl, by rw [← q3]; exact hk.1, e4, e5, vs, q3, by simpa [e7] using hc0, q4⟩
theorem uY {T T' e : TypeId} {x y : Operand} {i sz by' n : Nat} {l : List D} {k : IntKind} {z : Int} (j : Nat) (ho : o.op = .indexAddr T x y) (hT : slE P T = some (e, sz, by')) (hx : Ev pc F x (.arr i)) (hy : Ev pc F y (.val (.int k z))) (hM : M[i]? = some (.arx T' sz n l)) (hz : pc = true → z = (j : Int)) (hj : pc = true → j < n) : DOp P pc o F M [i] (.aloc i (j * sz)) [] := by
 intro hp a s hok hops hfp
 have hr := qo hp hx (by simp [ho, Op.operands]) hops
 have h2 := (qo hp hy (by simp [ho, Op.operands]) hops).val_eq
 have hz := hz hp
 have hj := hj hp
 subst hz
 generalize hv : a.eval x = vx at hr
 cases hr with
 | @arr _ ad n' c hb =>
  have hM' : s.M[i]? = some (.arx T' sz n l) := by rw [hfp i (by simp)]; exact hM
  obtain ⟨vs, hk, _⟩ := hok.blk i _ _ hM' hb
  rcases hk.2 with ⟨e1, e2⟩ | ⟨g, cap, cur, e1, e2, e3, e4, e5, e6, e7⟩
  ·exfalso; omega
  ·cases e1
   refine qN hok (gl ho hT hv h2 (by omega) (by omega)) ?_
   rw [Addr.add_mid, qal, qaV]
   exact .aloc hb
theorem Ym {T T' : TypeId} {x : Operand} {i p k sz n : Nat} {l : List D} {d : D} (ho : o.op = .load T x) (hT : tyB P T = some (false, k)) (hx : Ev pc F x (.aloc i p)) (hM : M[i]? = some (.arx T' sz n l)) (hR : l[p]? = some d) : DOp P pc o F M [i] d [] := by
 intro hp a s hok hops hfp
 have hr := qo hp hx (by simp [ho, Op.operands]) hops
 generalize hv : a.eval x = vx at hr
 cases hr with
 | @aloc _ _ n' c b h =>
  obtain ⟨_, hl, _, _, vs, q3, hc, q4⟩ := Vj hok (by rw [hfp i (by simp)]; exact hM) h
  have hpl : p < l.length := (qaj.1 hR).1
  have hv' : vs[p]? = some vs[p] := qak (by omega)
  exact qN hok (gj ho hT hv (by simpa using hc p _ hv')) (q4 p d _ hR hv')
end
end Go.Proofs.Ytofklkbfkoliiaa
namespace Go.Proofs.Ytofklkbfkoliiaa
set_option linter.unusedVariables false
set_option linter.unusedSimpArgs false
open Go.RowKit
theorem Qf {s : St} (ho : Ok s) {j g : Nat} {k : Blk} {h : Value} (hM : s.M[j]? = some k) (hl : k.live = true) (hh : s.β[j]? = some h) (hbb : hb h = some g) (w' : World)
  (hkeep : ∀ b, b ≠ g → w'.heap[b]? = s.w.heap[b]?) (hsz : w'.heap.size = s.w.heap.size) (hos : w'.os = s.w.os) (htape : w'.tape = s.w.tape) (hout : w'.output = s.w.output) :
  Tr s ⟨s.β, fun b => s.I b ∨ b = g, s.M.set j .gone, w'⟩ := by
 have hnd : ∀ (i : Nat) h, s.β[i]? = some h → h ≠ .nilFunc → s.β[i]? = some h := fun _ _ h _ => h
 replace hbb : jd k h g := YY (ho.blk j k h hM hh) hbb
 have hlg : Live s g := ql hM hl hh hbb
 have hg := ho.lt g hlg
 have imm : ∀ b, s.I b → w'.heap[b]? = s.w.heap[b]? := fun b hI => hkeep b fun e => by subst e; exact hg.2 hI
 have old : ∀ (i : Nat) k', (s.M.set j .gone)[i]? = some k' → k'.live = true → i ≠ j ∧ s.M[i]? = some k' := by
  intro i k' h1 h2
  by_cases e : i = j
  ·subst e
   rw [qaz (by have := (qaj.1 hM).1; exact this)] at h1
   cases h1; cases h2
  ·rw [qav (Ne.symm e)] at h1
   exact ⟨e, h1⟩
 have ne : ∀ (i : Nat) k' h' b, i ≠ j → s.M[i]? = some k' → k'.live = true → s.β[i]? = some h' → jd k' h' b → b ≠ g := by
  intro i k' h' b e h1 h2 h3 h4 e2
  subst e2
  exact e (ho.inj i j k' k h' h b h1 h2 h3 h4 hM hl hh hbb)
 have lv : ∀ b, Live ⟨s.β, fun b => s.I b ∨ b = g, s.M.set j .gone, w'⟩ b → Live s b ∧ b ≠ g := by
  rintro b ⟨i, k', h', h1, h2, h3, h4⟩
  obtain ⟨e, a⟩ := old i k' h1 h2
  exact ⟨ql a h2 h3 h4, ne i k' h' b e a h2 h3 h4⟩
 refine ⟨⟨by simp [ho.len], fun i k' h' h1 h2 => ?_, fun b hb => ?_, ?_, fun b hI => ?_⟩, jC hnd, fun _ h => .inl h, fun b h => ?_, fun b hb hn => hkeep b fun e => by subst e; exact hn hlg, fun b h => .inr (lv b h).1, hos, htape, hout, by simp [hsz]⟩
 ·cases hk : k'.live with
  | false =>
   cases k' with
   | gone => trivial
   | hole =>
    by_cases e : i = j
    ·subst e
     rw [qaz (by have := (qaj.1 hM).1; exact this)] at h1
     cases h1
    ·rw [qav (Ne.symm e)] at h1
     exact ho.blk i _ h' h1 h2
   | _ => cases hk
  | true =>
   obtain ⟨e, a⟩ := old i k' h1 hk
   exact BlkOk.mono (s := s) (s' := ⟨s.β, fun b => s.I b ∨ b = g, s.M.set j .gone, w'⟩) hnd (fun _ h => .inl h) imm (ho.blk i k' h' a h2) fun b hl' hb' => hkeep b (ne i k' h' b e a hl' h2 hb')
 ·obtain ⟨h1, h2⟩ := lv b hb
  obtain ⟨h3, h4⟩ := ho.lt b h1
  exact ⟨by show b < w'.heap.size; omega, fun h => h.elim h4 h2⟩
 ·intro i i2 k1 k2 h1 h2 b a1 a2 a3 a4 c1 c2 c3 c4
  obtain ⟨_, a1⟩ := old i k1 a1 a2
  obtain ⟨_, c1⟩ := old i2 k2 c1 c2
  exact ho.inj i i2 k1 k2 h1 h2 b a1 a2 a3 a4 c1 c2 c3 c4
 ·show b < w'.heap.size
  rcases hI with h | h
  ·have := ho.il b h; omega
  ·omega
 ·rcases h with h | h
  ·exact .inl h
  ·subst h; exact .inr (.inr hlg)
section
variable {P : Program} {pc : Bool} {o : Oper} {F : Fr} {M : List Blk} {T e : TypeId} {by' : Nat} {x y : Operand}
theorem DOp.cast {d d' : D} {fp : List Nat} {wr : List (Nat × Blk)} (h : DOp P pc o F M fp d wr) (e : d = d') : DOp P pc o F M fp d' wr := e ▸ h
theorem Qg (n : Nat) {k k' : IntKind} {z z' : Int} (z0 : Value) (ho : o.op = .makeSlice T x y) (hT : slE P T = some (e, 1, by')) (hZ : zrC P e = some [z0]) (hx : Ev pc F x (.val (.int k z))) (hy : Ev pc F y (.val (.int k' z'))) (hz : pc = true → z = (n : Int)) (hz' : pc = true → z' = (n : Int)) (hb : pc = true → by' * n ≤ 281474976710656 ∧ n ≤ 9223372036854775807) :
  DOp P pc o F M [] (.slf 1 n (qax n z0)) [] := by
 intro hp a s hok hops hfp
 obtain ⟨e1, ti, e2, e3, e4⟩ := kU hT
 obtain ⟨ti', zv, q1, q2, q3⟩ := jD hZ
 rw [e2] at q1
 obtain rfl := qao q1
 have h1 := (qo hp hx (by simp [ho, Op.operands]) hops).val_eq
 have h2 := (qo hp hy (by simp [ho, Op.operands]) hops).val_eq
 rw [hz hp] at h1
 rw [hz' hp] at h2
 obtain ⟨b1, b2⟩ := hb hp
 have hb3 : (ti.bytes : Int) * (n : Int) ≤ 281474976710656 := by
  have h : ((ti.bytes * n : Nat) : Int) ≤ 281474976710656 := by rw [e4]; omega
  rwa [Int.natCast_mul] at h
 have hrun := run_make (P := P) s.w T e ti zv e1 e2 q2 k k' n n (by omega) (Int.le_refl _) hb3 (by omega)
 simp only [qaV] at hrun
 have hc : zv.cells = #[z0] := by
  have := congrArg List.toArray q3
  simpa using this
 rw [hc, e3, Nat.mul_one] at hrun
 refine k6 (s' := ⟨s.β, fun b => s.I b ∨ b = s.w.heap.size, s.M, _⟩) (v := .slice (some ⟨s.w.heap.size, 0, none⟩) n n) ?_ (w8 hok (.cells (madeCells #[z0] n) e)) rfl (.slf (by simp) (qaE _) (by unfold maxLen; omega) (fun e => by cases e) (.inr ⟨_, 0, rfl, .inr rfl, ?_⟩))
 ·unfold execOp
  simp only [ho, h1, h2]
  exact kE hrun
 ·have := qh (heap_alloc_new s.w (.cells (madeCells #[z0] n) e)) 0
  simpa [toList_madeCells_one] using this
end
end Go.Proofs.Ytofklkbfkoliiaa
namespace Go.Proofs.Ytofklkbfkoliiaa
set_option linter.unusedVariables false
set_option linter.unusedSimpArgs false
open Go.RowKit
section
variable {P : Program} {s0 : St} {n : Cx}
theorem XM {F : Fr} {M : List Blk} {a : Act} {w : World} {i : Nat} {k k' : Blk} (h : Inv s0 n F M a w) (hM : M[i]? = some k) (hl : k.live = k'.live) (hk : ∀ s h, BlkOk s h k → BlkOk s h k') (hf : k.nf = true := by rfl) (hf' : k'.nf = true := by rfl) : Inv s0 n F (M.set i k') a w := by
 obtain ⟨h0, s, rfl, rfl, h3, h4, h5, h6⟩ := h
 have hnd : ∀ (i : Nat) h, s.β[i]? = some h → h ≠ .nilFunc → s.β[i]? = some h := fun _ _ h _ => h
 have hlt := (qaj.1 hM).1
 have old : ∀ (j : Nat) kk, (s.M.set i k')[j]? = some kk → (j = i ∧ kk = k') ∨ s.M[j]? = some kk := fun j kk hj => by
  by_cases e : i = j
  ·subst e
   rw [qaz hlt] at hj
   exact .inl ⟨rfl, (qao hj).symm⟩
  ·rw [qav e] at hj; exact .inr hj
 have back : ∀ (j : Nat) kk, (s.M.set i k')[j]? = some kk → kk.live = true → ∃ k2, s.M[j]? = some k2 ∧ k2.live = true ∧ ∀ x b, jd kk x b → jd k2 x b := fun j kk hj hlv => by
  rcases old j kk hj with ⟨rfl, rfl⟩ | hj
  ·exact ⟨k, hM, by rw [hl]; exact hlv, fun x b h => (w7 hf).2 ((w7 hf').1 h)⟩
  ·exact ⟨kk, hj, hlv, fun _ _ h => h⟩
 have lv : ∀ b, Live ⟨s.β, s.I, s.M.set i k', s.w⟩ b → Live s b := by
  rintro b ⟨j, kk, x, h1, h2, h3, h4⟩
  obtain ⟨k2, g1, g2, g3⟩ := back j kk h1 h2
  exact ql g1 g2 h3 (g3 _ _ h4)
 have mono : ∀ h kk, BlkOk s h kk → BlkOk ⟨s.β, s.I, s.M.set i k', s.w⟩ h kk := fun h kk hb => BlkOk.mono (s := s) (s' := ⟨s.β, s.I, s.M.set i k', s.w⟩) hnd (fun _ h => h) (fun _ _ => rfl) hb (fun _ _ _ => rfl)
 have tt : Tr s ⟨s.β, s.I, s.M.set i k', s.w⟩ := by
  refine ⟨⟨by simp [h3.ok.len], fun j kk h h1 h2 => ?_, fun b hb => h3.ok.lt b (lv b hb), ?_, h3.ok.il⟩, jC hnd, fun _ h => h, fun _ h => .inl h, fun _ _ _ => rfl, fun b h => .inr (lv b h), rfl, rfl, rfl, qaE _⟩
  ·rcases old j kk h1 with ⟨rfl, rfl⟩ | h1
   ·exact mono _ _ (hk _ _ (h3.ok.blk _ _ h hM h2))
   ·exact mono _ _ (h3.ok.blk j kk h h1 h2)
  ·intro j j2 k1 k2 x x2 b a1 a2 a3 a4 c1 c2 c3 c4
   obtain ⟨q1, g1, g2, g5⟩ := back j k1 a1 a2
   obtain ⟨q2, g3, g4, g6⟩ := back j2 k2 c1 c2
   exact h3.ok.inj j j2 q1 q2 x x2 b g1 g2 a3 (g5 _ _ a4) g3 g4 c3 (g6 _ _ c4)
 exact ⟨h0, ⟨s.β, s.I, s.M.set i k', s.w⟩, rfl, rfl, h3.trans tt, fun x d hd => (h4 x d hd).mono h3.ok tt, h5, h6.mono h3.ok tt⟩
theorem kQ {c : Code} {F : Fr} {M M' : List Blk} {K : Cont} (i : Nat) {k k' : Blk} (hk : ∀ s h, BlkOk s h k → BlkOk s h k') (hM : M[i]? = some k) (hl : k.live = k'.live) (hM' : M.set i k' = M') (h : dwp P s0 n c F M' K) (hf : k.nf = true := by rfl) (hf' : k'.nf = true := by rfl) : dwp P s0 n c F M K := by
 subst hM'
 exact fun a w hi => h a w (XM hi hM hl hk hf hf')
theorem XN {e : TypeId} {sz : Nat} : ∀ s h, BlkOk s h (.arr e sz 0 []) → BlkOk s h (.arx e sz 0 []) := fun s h hk => ⟨[], hk, rfl, fun j d v h => by simp at h⟩
theorem yf {T : TypeId} {L : List Value} : ∀ s h, BlkOk s h (.flat T L) → BlkOk s h (.mix T (L.map D.val)) := fun s h hk => by
 obtain ⟨b, e1, e2⟩ := hk
 refine ⟨b, L, e1, e2, by simp, fun j d v h1 h2 => ?_⟩
 rw [qa5, h2] at h1
 cases h1
 exact .val v
end
section
variable {P : Program} {pc : Bool} {o : Oper} {F : Fr} {M : List Blk}
theorem qi {T T' : TypeId} {x : Operand} {i k : Nat} {l : List D} (ho : o.op = .load T x) (hT : tyB P T = some (true, k)) (hx : Ev pc F x (.loc i 0)) (hM : M[i]? = some (.mix T' l)) (hl : l.length = k) : DOp P pc o F M [i] (.agg l) [] := by
 intro hp a s hok hops hfp
 have hr := qo hp hx (by simp [ho, Op.operands]) hops
 generalize hv : a.eval x = vx at hr
 cases hr with
 | @loc _ _ b h =>
  obtain ⟨b', vs, e1, e2, e3, e4⟩ := hok.blk i _ _ (by rw [hfp i (by simp)]; exact hM) h
  cases e1
  have hc : qZ s.w b 0 vs := qh e2 0
  have hr := jn hc 0 vs.length (R := vs) (by simp)
  exact qN hok (jz ho hT hv (by simpa using hr) (by omega)) (.agg e3 e4)
theorem xL {T T' : TypeId} {x y : Operand} {i k : Nat} {rw' : Bool} {ds l : List D} (ho : o.op = .store T x y) (hT : tyB P T = some (rw', k)) (hx : Ev pc F x (.loc i 0)) (hy : Ev pc F y (.agg ds)) (hM : M[i]? = some (.mix T' l)) (hk : ds.length = k) (hfit : ds.length = l.length) (h1 : ds.all D.oc = true) : DOp P pc o F M [i] .junk [(i, .mix T' ds)] := by
 intro hp a s hok hops hfp
 have hr := qo hp hx (by simp [ho, Op.operands]) hops
 have hry := qo hp hy (by simp [ho, Op.operands]) hops
 have hM' : s.M[i]? = some (.mix T' l) := by rw [hfp i (by simp)]; exact hM
 generalize hv : a.eval x = vx at hr
 generalize hvy : a.eval y = vy at hry
 cases hr with
 | @loc _ _ b h =>
  cases hry with
  | @agg _ vs hvl hd =>
   obtain ⟨b', L, e1, e2, e3, _⟩ := hok.blk i _ _ hM' h
   cases e1
   have hcell := qh e2 0
   have hoc : ∀ u ∈ vs, u.oneCell' = true := fun u hu => by
    obtain ⟨j, hj, rfl⟩ := List.getElem_of_mem hu
    have hj2 : j < ds.length := by omega
    exact Yk (hd j _ _ (qak hj2) (qak hj)) (qaM.1 h1 _ (qa7 hj2))
   have hrun := ym (P := P) (w := s.w) (C := vs) ho hT hv hvy rfl (by omega) (fun j hj => by
     have hp' : j < L.length := by omega
     have := hcell j L[j] (by simp [hp'])
     rw [qal] at this
     rw [qal, this]; rfl) (fun j hj => by simp [World.frozen?, e2]) hoc
   have hβ : s.β.set i (.pointer (some ⟨b, 0, none⟩)) = s.β := by
    apply qa9
    intro k
    by_cases e : i = k
    ·subst e; rw [qaz (qaj.1 h).1, h]
    ·rw [qav e]
   refine y9 (s' := ⟨s.β.set i (.pointer (some ⟨b, 0, none⟩)), s.I, s.M.set i (.mix T' ds), s.w.setCells b 0 vs⟩) hrun (yx hok hM' rfl h rfl 0 _ ?_) rfl
   have hall : jL L 0 vs = vs := uj (by omega)
   have hblk := kV b vs 0 s.w L T' e2
   rw [hall] at hblk
   refine ⟨b, vs, rfl, hblk, hvl, fun j e v hj hv' => ?_⟩
   refine Rep.mono' (s := s) (s' := ⟨s.β.set i (.pointer (some ⟨b, 0, none⟩)), s.I, s.M.set i (.mix T' ds), s.w.setCells b 0 vs⟩) (fun k x hk _ => by show (s.β.set i _)[k]? = _; rw [hβ]; exact hk) (fun _ h => h) (fun b' hI => ja b _ 0 s.w b' fun e => ?_) (hd j e v hj hv')
   subst e
   exact (hok.lt b' (ql hM' rfl h rfl)).2 hI
theorem wB {p : Tmp} {T T' : TypeId} {i k : Nat} {l : List D} (hT : tyB P T = some (true, k)) (h : lk F p = some (.loc i 0)) (hM : M[i]? = some (.mix T' l)) (hl : l.length = k) : RvD P (.cell p T) F M (.agg l) := fun s a ho hMs hF => by
 have hr := hF p _ h
 generalize hv : jf a p = v at hr
 cases hr with
 | @loc _ _ b hb =>
  obtain ⟨b', vs, e1, e2, e3, e4⟩ := ho.blk i _ _ (by rw [hMs]; exact hM) hb
  cases e1
  obtain ⟨dd, ii, h1, h2, h3, h4⟩ := j7 hT
  refine ⟨.agg vs.toArray, ?_, .agg e3 e4⟩
  have hvx' : a.tmps.getD p undef = .pointer (some ⟨b, 0, none⟩) := hv
  simp only [rv, hvx']
  simp only [asAddr, Sem.run_bind, Sem.run_pure, Result.andThen_ok]
  exact run_loadVar_row s.w b T' T vs.toArray (0, 0) dd e2 h1 (by cases dd <;> simp_all [TypeDesc.isRow]) (by simp [h2, h4, hl, e3])
theorem Qh {T : TypeId} {x : Operand} {q : TypeId × Nat × Nat} (ho : o.op = .call { callee := .builtin .cap, args := #[x], argTypes := #[T] }) (hT : slE P T = some q) (hx : Ev pc F x (.val (.slice none 0 0))) : DOp P pc o F M [] (.val (.int .i64 0)) [] := by
 intro hp a s hok hops _
 obtain ⟨e1, _⟩ := kU hT
 have hr := (qo hp hx (by simp [ho, Op.operands, Call.operands]) hops).val_eq
 refine qN hok (k9 ho (fun cs => rfl) ?_) (.val (.int .i64 0))
 simp [Builtin.cap_, hr, run_underlying e1, goInt]
theorem H7 {T : TypeId} {x : Operand} {e : TypeId} {sz by' : Nat} {hi : Option Operand} (ho : o.op = .slice T x none hi none) (hT : slE P T = some (e, sz, by')) (hx : Ev pc F x (.val (.slice none 0 0))) (hhi : Bd pc F hi 0 0) : DOp P pc o F M [] (.val (.slice none 0 0)) [] := by
 intro hp a s hok hops _
 have hr := (qo hp hx (by simp [ho, Op.operands]) hops).val_eq
 have q2 := xi hp hhi (fun u e => by subst e; simp [ho, Op.operands]) hops
 refine qN hok ?_ (.val _)
 have h := yn (P := P) (w := s.w) ho hT hr (l := 0) (h := 0) (.inl ⟨rfl, rfl⟩) q2 (by omega) (by omega) (by omega) (qaE _)
 simpa using h
theorem xu (T U ty e : TypeId) (i : TypeInfo) (z : Value) (w : World) (k : IntKind) (hT : P.underlying T = some (.slice e)) (hU : P.underlying U = some (.int k)) (hi : P.info? e = some i) (hz : i.zero = some z)
  (n : Nat) (h0 : 0 < n) (hs : 0 < i.size) (h63 : (n : Int) ≤ 9223372036854775807) (h48 : n * i.bytes ≤ 281474976710656) :
  (Builtin.append_ #[T, U] ty #[.slice none 0 0, .int k n]).run P w =
   .ok (.slice (some ⟨w.heap.size, 0, none⟩) n (grownCap w n 0 e)) (w.drew.alloc (.cells (Builtin.zeroCells z.cells n ++ Builtin.zeroCells z.cells (grownCap w n 0 e - n)) e)) := by
 have hn : n ≠ 0 := by omega
 have hw : IntKind.i64.wrap (n : Int) = n := qat _ (by omega)
 have h63' : ¬ (9223372036854775807 < (n : Int)) := by omega
 have hneg : ¬ ((n : Int) < 0) := by omega
 have hsz : n * i.size ≠ 0 := Nat.mul_ne_zero hn (by omega)
 have hby : ¬ ((281474976710656 : Int) < (n : Int) * (i.bytes : Int)) := by
  rw [show (n : Int) * (i.bytes : Int) = ((n * i.bytes : Nat) : Int) by simp]; omega
 have h48' : ¬ (281474976710656 < Builtin.nextslicecap n 0 * i.bytes) := by rw [nextslicecap_zero h0]; omega
 have hs' : i.size ≠ 0 := by omega
 have hn0 : ¬ ((n : Int) ≤ 0) := by omega
 have hmx : max (n : Int) 0 = n := by omega
 simp [Builtin.append_, run_underlying hT, run_underlying hU, sizeOf, typeInfo, zeroValue, hi, hz, asInt, asIntOf, hw, hn, hs', hn0, hmx, h63', hneg, hby, h48', Question.forced, run_firstCells_none, newRow, grownCap]
 exact fun h => absurd h hsz
theorem H8 {T U e : TypeId} {by' n sz j : Nat} {k : IntKind} {z : Int} {x y : Operand} {Z : List Value} (ho : o.op = .call { callee := .builtin .append, args := #[x, y], argTypes := #[T, U] }) (hT : slE P T = some (e, sz, by')) (hU : P.underlying U = some (.int k)) (hZ : zrC P e = some Z) (hZl : Z.length = sz) (hs : 0 < sz)
  (hx : Ev pc F x (.val (.slice none 0 0))) (hy : Ev pc F y (.val (.int k z))) (hz : pc = true → z = (n : Int)) (h0 : pc = true → 0 < n) (hj : M[j]? = some .hole) (hb : pc = true → n * by' ≤ 281474976710656 ∧ n ≤ 140737488355328) :
  DOp P pc o F M [j] (.arr j) [(j, .arr e sz n (Builtin.zeroCells Z.toArray n).toList)] := by
 intro hp a s hok hops hfp
 obtain ⟨e1, ti, e2, e3, e4⟩ := kU hT
 obtain ⟨ti', zv, q1, q2, q3⟩ := jD hZ
 rw [e2] at q1
 obtain rfl := qao q1
 have h1 := (qo hp hx (by simp [ho, Op.operands, Call.operands]) hops).val_eq
 have h2 := (qo hp hy (by simp [ho, Op.operands, Call.operands]) hops).val_eq
 rw [hz hp] at h2
 obtain ⟨b1, b2⟩ := hb hp
 have hj' : s.M[j]? = some .hole := by rw [hfp j (by simp)]; exact hj
 have hjl : j < s.β.length := by rw [hok.len]; exact (qaj.1 hj').1
 have hz0 : zv.cells = Z.toArray := by rw [← q3]
 have hrun := xu T U o.type e ti zv s.w k e1 hU e2 q2 n (h0 hp) (by omega) (by omega) (by rw [e4]; exact b1)
 have hge := grownCap_ge s.w n 0 e
 have hrow : (s.w.drew.alloc (.cells (Builtin.zeroCells zv.cells n ++ Builtin.zeroCells zv.cells (grownCap s.w n 0 e - n)) e)).ownsRow 0 e sz (.slice (some ⟨s.w.heap.size, 0, none⟩) n (grownCap s.w n 0 e)) n (Builtin.zeroCells Z.toArray n).toList := by
  have hl1 : (Builtin.zeroCells Z.toArray n).size = n * sz := by rw [size_zeroCells]; simp [hZl]
  refine ⟨by simpa using hl1, .inr ⟨s.w.heap.size, _, _, rfl, qaZ _, heap_alloc_new s.w.drew _, hge, grownCap_le_maxLen s.w _ _ _ (by unfold maxLen; omega), ?_, ?_⟩⟩
  ·rw [Array.size_append, hz0, hl1, size_zeroCells]
   simp only [List.size_toArray, hZl]
   rw [← Nat.add_mul]
   congr 1
   omega
  ·rw [hz0, Array.toList_append, ← hl1, ← Array.length_toList, List.take_left]
 refine k6 (s' := ⟨s.β.set j (.slice (some ⟨s.w.heap.size, 0, none⟩) n (grownCap s.w n 0 e)), s.I, s.M.set j (.arr e sz n (Builtin.zeroCells Z.toArray n).toList), s.w.drew.alloc (.cells (Builtin.zeroCells zv.cells n ++ Builtin.zeroCells zv.cells (grownCap s.w n 0 e - n)) e)⟩) (v := .slice (some ⟨s.w.heap.size, 0, none⟩) n (grownCap s.w n 0 e)) (k9 ho (fun cs => by rfl) (by simpa [h1, h2] using hrun)) (gX hok hj' _ _ _ (by simp) (fun b hb => by cases hb; rfl) (fun b h => Below.heap_alloc s.w.drew _ _ h) (fun b hb => by cases hb; simp) (by simp) rfl rfl rfl hrow) rfl (.arr (by simp [hjl]))
theorem H9 {T e T' : TypeId} {sz sz' by' n i j : Nat} {x : Operand} {hi : Option Operand} {L : List Value} (ho : o.op = .slice T x none hi none) (hT : slE P T = some (e, sz', by')) (hx : Ev pc F x (.arr i)) (hM : M[i]? = some (.arr T' sz n L)) (hhi : Bd pc F hi n 0) (hj : M[j]? = some .hole) :
  DOp P pc o F M [i, j] (.arr j) [(i, .gone), (j, .arr T' sz 0 [])] := by
 intro hp a s hok hops hfp
 have hM' : s.M[i]? = some (.arr T' sz n L) := by rw [hfp i (by simp)]; exact hM
 have hj' : s.M[j]? = some .hole := by rw [hfp j (by simp)]; exact hj
 have hjl : j < s.β.length := by rw [hok.len]; exact (qaj.1 hj').1
 have hrx := qo hp hx (by simp [ho, Op.operands]) hops
 have q2 := xi hp hhi (fun u e => by subst e; simp [ho, Op.operands]) hops
 generalize hv : a.eval x = vx at hrx
 cases hrx with
 | @arr _ ad n' c hβ =>
  have hk : s.w.ownsRow 0 T' sz _ n L := hok.blk i _ _ hM' hβ
  obtain ⟨h', r1, r2, r3⟩ : ∃ h', (execOp a.eval o).run P s.w = .ok (.value h') s.w ∧ s.w.ownsRow 0 T' sz h' 0 [] ∧ hb h' = hb (Value.slice ad n' c) ∧ h' ≠ .nilFunc := by
   rcases hk.2 with ⟨e1, e2⟩ | ⟨g, cap, cur, e1, e2, e3, e4, e5, e6, e7⟩
   ·cases e1; subst e2
    refine ⟨.slice none 0 0, ?_, World.ownsRow_nil s.w 0 T' sz, rfl, by simp⟩
    have h := yn (P := P) (w := s.w) ho hT hv (l := 0) (h := 0) (.inl ⟨rfl, rfl⟩) q2 (by omega) (by omega) (by omega) (qaE _)
    simpa using h
   ·cases e1
    refine ⟨.slice (some ⟨g, 0, none⟩) 0 c, ?_, ⟨by simp, .inr ⟨g, c, cur, rfl, qaZ _, e3, qaZ _, e5, e6, by simp⟩⟩, rfl, by simp⟩
    have h := yn (P := P) (w := s.w) ho hT hv (l := 0) (h := 0) (.inl ⟨rfl, rfl⟩) q2 (by omega) (by omega) (by omega) e4
    rw [h]
    by_cases hc : c = 0
    ·subst hc; simp
    ·simp [hc, Addr.add_zero']
  obtain ⟨r3, r4⟩ := r3
  have hβj : s.β[j]? = some .nilFunc := by
   have q : s.β[j]? = some s.β[j] := qak hjl
   have : s.β[j] = .nilFunc := hok.blk j .hole _ hj' q
   rw [q, this]
  have hlt : i < s.M.length := (qaj.1 hM').1
  have ne : ∀ (k : Nat) kb, (s.M.set i .gone)[k]? = some kb → kb.live = true → i ≠ k ∧ s.M[k]? = some kb := fun k kb hkb hl => by
   by_cases hki : i = k
   ·subst hki
    rw [qaz hlt] at hkb
    cases hkb; cases hl
   ·rw [qav hki] at hkb; exact ⟨hki, hkb⟩
  refine k6 (s' := ⟨s.β.set j h', s.I, (s.M.set i .gone).set j (.arr T' sz 0 []), s.w⟩) r1 ?_ rfl ?_
  ·refine kT hok j (s.M.set i .gone) h' _ s.w (by simp) (fun k kb hkb => ?_) (by rw [← hok.len]; exact hjl) (.inl hβj) r4 r2 (fun b hbb k kb hh hne q1 q2 q3 q4 => ?_) (fun b hbb => .inr (ql hM' rfl hβ (r3.symm.trans (show hb h' = some b from hbb)))) (fun b hbb => (hok.lt b (ql hM' rfl hβ (r3.symm.trans (show hb h' = some b from hbb)))).1) (fun _ => False) (fun b hdr => hdr.elim) (fun _ _ _ _ => rfl) rfl rfl rfl (qaE _)
   ·by_cases hki : i = k
    ·subst hki
     rw [qaz hlt] at hkb
     exact .inr (qao hkb).symm
    ·rw [qav hki] at hkb; exact .inl hkb
   ·obtain ⟨hki, q1'⟩ := ne k kb q1 q2
    exact hki (hok.inj i k _ kb _ hh b hM' rfl hβ (r3.symm.trans (show hb h' = some b from hbb)) q1' q2 q3 q4)
  ·rcases r2.2 with ⟨rfl, _⟩ | ⟨g, cap, cur, rfl, _⟩
   ·exact .arr (by simp [hjl])
   ·exact .arr (by simp [hjl])
theorem wP {α : Type} {en : α → List Value} {sz : Nat} (hen : ∀ a, (en a).length = sz) : ∀ (r : List α) (i : Nat), (r.drop i).flatMap en = (r.flatMap en).drop (i * sz)
 | r, 0 => by simp
 | [], i + 1 => by simp
 | x :: r, i + 1 => by
  rw [List.drop_succ_cons, wP hen r i, qaD, Nat.add_mul, Nat.one_mul, Nat.add_comm, ← List.drop_drop, List.drop_append_of_le_length (by rw [hen]; exact qaE _), ← hen x, List.drop_length, qaw]
end
theorem wrc {τ0 r : List Nat} {i : Nat} {k k' : Blk} {ks : List Blk} {r' : List (Nat × Blk)} (h : sbB τ0 k = some k') (h2 : yv τ0 r ks = some r') : yv τ0 (i :: r) (k :: ks) = some ((i, k') :: r') := by
 unfold yv; rw [h, h2]
theorem Gb {α : Type} {τ : List Nat} {f : α → D} (h : ∀ a, sb τ (f a) = some (f a)) : ∀ l : List α, sbL τ (l.flatMap fun a => [f a]) = some (l.flatMap fun a => [f a])
 | [] => rfl
 | a :: l => by
  rw [qaD]
  show sbL τ (f a :: l.flatMap fun a => [f a]) = _
  unfold sbL
  rw [h a, Gb h l]
  rfl
theorem kK {α : Type} {τ : List Nat} {f : α → D} {T : TypeId} {sz n : Nat} {l : List α} (h : ∀ a, sb τ (f a) = some (f a)) : sbB τ (.arx T sz n (l.flatMap fun a => [f a])) = some (.arx T sz n (l.flatMap fun a => [f a])) := by
 show (sbL τ _).map _ = _; rw [Gb h]; rfl
end Go.Proofs.Ytofklkbfkoliiaa
namespace Go.Proofs.Ytofklkbfkoliiaa
set_option linter.unusedVariables false
set_option linter.unusedSimpArgs false
open Go.RowKit
def D.cs : D → List D
 | .agg l => l
 | .val v => v.cells.toList.map .val
 | d => [d]
def D.c1 : D → Bool
 | .opt _ _ => false
 | .tup _ => false
 | .junk => false
 | .hnd _ => false
 | _ => true
def D.oc2 : D → Bool
 | .slf _ _ _ => true
 | .slm _ _ _ => true
 | .arr _ => true
 | .farr _ _ => true
 | .floc _ _ _ => true
 | .pin _ _ => true
 | .pip _ => true
 | .dpf _ => true
 | .dpm _ => true
 | .fn _ _ _ => true
 | .val u => u.oneCell'
 | _ => false
theorem XO {s : St} {d : D} {v : Value} (h : Rep s d v) (hd : d.oc2 = true) : v.oneCell' = true := by
 cases h with
 | val v => exact hd
 | slf => rfl
 | slm => rfl
 | arr => rfl
 | fn => rfl
 | farr => rfl
 | floc => rfl
 | pin => rfl
 | pip => rfl
 | dpf => rfl
 | dpm => rfl
 | _ => cases hd
theorem Yn {s : St} {d : D} {v : Value} (h : Rep s d v) (hd : d.c1 = true) : Reps s d.cs v.cells.toList := by
 have h0 := h
 cases h with
 | val v =>
  refine ⟨by simp [D.cs], fun j e u h1 h2 => ?_⟩
  simp only [D.cs, qa5, h2, Option.map_some] at h1
  cases h1
  exact .val u
 | agg hl h => exact ⟨hl, h⟩
 | opt => cases hd
 | tup => cases hd
 | junk => cases hd
 | hnd => cases hd
 | _ =>
  refine ⟨rfl, fun j e u h1 h2 => ?_⟩
  cases j with
  | zero => simp [D.cs, Value.cells] at h1 h2; subst h1 h2; exact h0
  | succ j => simp [D.cs, Value.cells] at h1
def setD : List D → Nat → List D → List D
 | Z, _, [] => Z
 | Z, p, d :: r => setD (Z.set p d) (p + 1) r
def Kw (offs : List (Nat × Nat)) : List D → List (Nat × List D) → List D
 | Z, [] => Z
 | Z, (i, C) :: r => Kw offs (setD Z ((offs.getD i (0, 0)).1) C) r
def Jg (offs : List (Nat × Nat)) (n : Nat) : List (Nat × List D) → Bool
 | [] => true
 | (i, C) :: r => (match offs[i]? with | some (o, s) => C.length == s && Nat.ble (o + s) n | none => false) && Jg offs n r
theorem WP {s : St} {Z : List D} {vz : List Value} (h : Reps s Z vz) {d : D} {v : Value} (hd : Rep s d v) (p : Nat) : Reps s (Z.set p d) (vz.set p v) := by
 refine ⟨by simp [h.1], fun j e u h1 h2 => ?_⟩
 by_cases e1 : p = j
 ·subst e1
  by_cases hp : p < Z.length
  ·rw [qaz hp] at h1
   rw [qaz (by rw [h.1]; exact hp)] at h2
   cases h1; cases h2; exact hd
  ·rw [qaT (by simp; omega)] at h1; cases h1
 ·rw [qav e1] at h1 h2
  exact h.2 j e u h1 h2
theorem Kx {s : St} : ∀ (C : List D) (vc : List Value) (Z : List D) (vz : List Value) (p : Nat), Reps s C vc → Reps s Z vz → Reps s (setD Z p C) (jL vz p vc)
 | [], [], Z, vz, p, _, hz => by rw [J5]; exact hz
 | d :: C, v :: vc, Z, vz, p, hc, hz => by
  rw [setD, jL]
  exact Kx C vc _ _ _ ⟨by simpa using hc.1, fun j e u h1 h2 => hc.2 (j + 1) e u (by simpa using h1) (by simpa using h2)⟩ (WP hz (hc.2 0 d v rfl rfl) p)
 | [], v :: vc, _, _, _, hc, _ => by have := hc.1; simp at this
 | d :: C, [], _, _, _, hc, _ => by have := hc.1; simp at this
theorem Ky {s : St} (offs : List (Nat × Nat)) (n : Nat) : ∀ (is : List Nat) (Cs : List (List D)) (vs : List (List Value)) (Z : List D) (vz : List Value), (∀ (j : Nat) C v, Cs[j]? = some C → vs[j]? = some v → Reps s C v) → Cs.length = vs.length → Reps s Z vz → Jg offs n (is.zip Cs) = true →
  Reps s (Kw offs Z (is.zip Cs)) (vt offs vz (is.zip vs)) ∧ vP offs n (is.zip vs) = true
 | [], Cs, vs, Z, vz, _, _, hz, _ => by simpa [Kw, vt, vP] using hz
 | i :: is, [], vs, Z, vz, _, hl, hz, _ => by
  have : vs = [] := by cases vs with | nil => rfl | cons => simp at hl
  subst this
  simpa [Kw, vt, vP] using hz
 | i :: is, C :: Cs, [], Z, vz, _, hl, _, _ => by simp at hl
 | i :: is, C :: Cs, v :: vs, Z, vz, hc, hl, hz, hb => by
  simp only [List.zip_cons_cons, Jg, qan] at hb
  simp only [List.zip_cons_cons, Kw, vt, vP, qan]
  have h0 := hc 0 C v rfl rfl
  obtain ⟨r1, r2⟩ := Ky offs n is Cs vs _ _ (fun j C v h1 h2 => hc (j + 1) C v (by simpa using h1) (by simpa using h2)) (by simpa using hl) (Kx C v Z vz _ h0 hz) hb.2
  refine ⟨r1, ?_, r2⟩
  rw [h0.1]
  exact hb.1
theorem Vk {s : St} (L : List Value) : Reps s (L.map .val) L := by
 refine ⟨by simp, fun j e u h1 h2 => ?_⟩
 rw [qa5, h2] at h1
 cases h1
 exact .val u
theorem uZ {s : St} {d1 d2 : List D} {v1 v2 : List Value} (h1 : Reps s d1 v1) (h2 : Reps s d2 v2) : Reps s (d1 ++ d2) (v1 ++ v2) := by
 refine ⟨by simp [h1.1, h2.1], fun j d v hd hv => ?_⟩
 by_cases hj : j < d1.length
 ·rw [qaC hj] at hd
  rw [qaC (by rw [h1.1]; exact hj)] at hv
  exact h1.2 j d v hd hv
 ·rw [qaH (by omega)] at hd
  rw [qaH (by rw [h1.1]; omega), h1.1] at hv
  exact h2.2 _ d v hd hv
theorem Qi {s : St} : ∀ (ds : List D) (vs : List Value), Reps s ds vs → ds.all D.c1 = true → Reps s (ds.flatMap D.cs) (vs.flatMap fun v => v.cells.toList)
 | [], [], _, _ => ⟨rfl, fun j e u h1 h2 => by simp at h1⟩
 | d :: ds, v :: vs, h, hc => by
  rw [List.all_cons, qan] at hc
  rw [qaD, qaD]
  exact uZ (Yn (h.2 0 d v rfl rfl) hc.1) (Qi ds vs ⟨by simpa using h.1, fun j e u h1 h2 => h.2 (j + 1) e u (by simpa using h1) (by simpa using h2)⟩ hc.2)
 | [], v :: vs, h, _ => by have := h.1; simp at this
 | d :: ds, [], h, _ => by have := h.1; simp at this
theorem wQ {α β : Type} {en : α → List β} {sz : Nat} (hen : ∀ a, (en a).length = sz) : ∀ l : List α, (l.flatMap en).length = l.length * sz
 | [] => by simp
 | a :: l => by rw [qaD, qap, hen, wQ hen l, qaI, qa8]; omega
section
variable {P : Program} {pc : Bool} {o : Oper} {F : Fr} {M : List Blk}
theorem jW {T : TypeId} {ps : List (Nat × Operand)} {ds R : List D} {offs : List (Nat × Nat)} {Z : List Value} (ho : o.op = .build T ps.toArray) (hT : fdL P T = some offs) (hZ : zrC P T = some Z) (hv : EvL pc F (ps.map (·.2)) ds) (hc : ds.all D.c1 = true)
  (hB : Jg offs Z.length ((ps.map (·.1)).zip (ds.map D.cs)) = true) (hR : Kw offs (Z.map .val) ((ps.map (·.1)).zip (ds.map D.cs)) = R) : DOp P pc o F M [] (.agg R) [] := by
 intro hp a s hok hops _
 obtain ⟨r1, r2⟩ := gh (a := a) (s := s) hp _ _ hv (fun x hx => hops x (by rw [ho]; simpa [Op.operands] using hx))
 have hf := Ky (s := s) offs Z.length (ps.map (·.1)) (ds.map D.cs) (((ps.map (·.2)).map a.eval).map fun v => v.cells.toList) (Z.map .val) Z (fun j C v h1 h2 => by
   rw [qa5] at h1 h2
   simp only [qaB] at h1 h2
   obtain ⟨d, h1, rfl⟩ := h1
   obtain ⟨u, h2, rfl⟩ := h2
   exact Yn (r2 j d u h1 h2) (qaM.1 hc _ (qa0 h1))) (by rw [List.length_map, List.length_map]; exact r1.symm) (Vk Z) hB
 rw [hR] at hf
 exact qN hok (uX (P := P) (a := a) (w := s.w) ho hT hZ rfl hf.2 rfl) (.agg hf.1.1 hf.1.2)
theorem Yo {T e : TypeId} {n sz by' : Nat} {ps : List (Nat × Operand)} {ds R : List D} {Z : List Value} (ho : o.op = .buildSlice T n ps.toArray) (hT : slE P T = some (e, sz, by')) (hZ : zrC P e = some Z) (hi : ps.map (·.1) = List.range' 0 n) (hv : EvL pc F (ps.map (·.2)) ds) (hc : ds.all D.c1 = true) (hs : ds.all (fun d => d.cs.length == sz) = true)
  (hR : ds.flatMap D.cs = R) (hnl : D.nlL R = true) (hl : R.length = n * sz) (hn : n ≤ 16777216) (hn2 : n * sz ≤ 16777216) : DOp P pc o F M [] (.slm sz n R) [] := by
 intro hp a s hok hops _
 have hr := gh (a := a) (s := s) hp _ _ hv (fun x hx => hops x (by rw [ho]; simpa [Op.operands] using hx))
 obtain ⟨vs, hvs⟩ : ∃ vs, vs = (ps.map (·.2)).map a.eval := ⟨_, rfl⟩
 rw [← hvs] at hr
 have hcs := Qi ds vs hr hc
 rw [hR] at hcs
 have hcell : ∀ v ∈ vs, v.cells.size = sz := fun v hv' => by
  obtain ⟨j, hj, rfl⟩ := List.getElem_of_mem hv'
  have hj2 : j < ds.length := by have := hr.1; omega
  have h1 := (Yn (hr.2 j _ _ (qak hj2) (qak hj)) (qaM.1 hc _ (qa7 hj2))).1
  have h2 := qaM.1 hs _ (qa7 hj2)
  simp only [beq_iff_eq] at h2
  rw [h2] at h1
  simpa using h1
 have hrun := gp (P := P) (w := s.w) ho hT hZ hi hvs.symm hcell hn2
 have ht := w8 hok (.cells (vs.flatMap fun v => v.cells.toList).toArray e)
 refine k6 (s' := ⟨s.β, fun b => s.I b ∨ b = s.w.heap.size, s.M, _⟩) hrun ht rfl (.slm hnl hl (qaE _) (by unfold maxLen; omega) (fun e => by cases e) hcs.1 (fun j d v h1 h2 => (hcs.2 j d v h1 h2).mono hok ht) (.inr ⟨_, 0, rfl, .inr rfl, ?_⟩))
 simpa using qh (heap_alloc_new s.w _) 0
theorem XP {T e : TypeId} {x y : Operand} {k : IntKind} {z : Int} {n sz by' : Nat} {ds R : List D} (j : Nat) (hpos : 0 < sz) (ho : o.op = .indexAddr T x y) (hT : slE P T = some (e, sz, by')) (hx : Ev pc F x (.slm sz n ds)) (hy : Ev pc F y (.val (.int k z))) (hz : pc = true → z = (j : Int)) (hj : pc = true → j < n) (hR : (ds.drop (j * sz)).take sz = R) : DOp P pc o F M [] (.dpm R) [] := by
 intro hp a s hok hops _
 have hr := qo hp hx (by simp [ho, Op.operands]) hops
 have h2 := (qo hp hy (by simp [ho, Op.operands]) hops).val_eq
 have hj := hj hp
 rw [hz hp] at h2
 generalize hv : a.eval x = vx at hr
 cases hr with
 | @slm _ _ cap ad _ vs hnl hl hn hc ha hvl h hm =>
  rcases hm with hm | ⟨b, q, rfl, hI, hcl⟩
  ·rw [hm] at hl
   have : 0 < n * sz := Nat.mul_pos (by omega) hpos
   simp at hl
   omega
  ·have hrun := gl (P := P) (w := s.w) ho hT hv h2 (by omega) (by omega)
   rw [Addr.add_mid, qaV] at hrun
   subst hR
   refine qN hok hrun (.dpm (vs := (vs.drop (j * sz)).take sz) (Ga _ (vH _ hnl)) hI (qM hcl _ _) (by rw [qaN, qaR, qaN, qaR, hvl]) (fun i d' v h1 h2 => ?_))
   rw [List.getElem?_take] at h1 h2
   split at h1
   ·rename_i hi
    rw [if_pos hi] at h2
    rw [qa2] at h1 h2
    exact h _ d' v h1 h2
   ·cases h1
theorem wg {α : Type} {mk : α → List D} {l : List α} {T e : TypeId} {x y : Operand} {k : IntKind} {z : Int} {sz by' : Nat} (j : Nat) (hpos : 0 < sz) (ho : o.op = .indexAddr T x y) (hT : slE P T = some (e, sz, by')) (hx : Ev pc F x (.slm sz l.length (l.flatMap mk))) (hy : Ev pc F y (.val (.int k z))) (hz : pc = true → z = (j : Int)) (hj : j < l.length) (hmk : ∀ a, (mk a).length = sz) : DOp P pc o F M [] (.dpm (mk l[j])) [] :=
 XP j hpos ho hT hx hy hz (fun _ => hj) (by rw [wO hmk, List.drop_eq_getElem_cons hj, qaD, List.take_left' (hmk _)])
theorem wh {T : TypeId} {x : Operand} {k : Nat} {ld R : List D} (ho : o.op = .load T x) (hT : tyB P T = some (true, k)) (hx : Ev pc F x (.dpm ld)) (hR : ld.take k = R) (hl : R.length = k) : DOp P pc o F M [] (.agg R) [] := by
 intro hp a s hok hops hfp
 have hr := qo hp hx (by simp [ho, Op.operands]) hops
 generalize hv : a.eval x = vx at hr
 cases hr with
 | @dpm b q _ vs hnl hI hc hvl h =>
  subst hR
  have hr := jn hc 0 k (R := vs.take k) (by simp)
  have hlv : (vs.take k).length = k := by rw [qaN] at hl ⊢; omega
  refine qN hok (jz ho hT hv (by simpa using hr) hlv) (.agg (by rw [hlv, hl]) (fun j d v h1 h2 => ?_))
  rw [List.getElem?_take] at h1 h2
  split at h1
  ·rename_i hi
   rw [if_pos hi] at h2
   exact h j d v h1 h2
  ·cases h1
theorem Qj {T e : TypeId} {by' sz n m i j : Nat} {x y : Operand} {l l2 : List D} {Z : List Value} (ho : o.op = .call { callee := .builtin .append, args := #[x, y], argTypes := #[T, T] }) (hT : slE P T = some (e, sz, by')) (hZ : zrC P e = some Z) (hZl : Z.length = sz)
  (hx : Ev pc F x (.arr i)) (hy : Ev pc F y (.slm sz m l2)) (hM : M[i]? = some (.arx e sz n l)) (hj : M[j]? = some .hole) (h1 : l2.all D.oc2 = true) (hbd : pc = true → (n + m) * by' ≤ 140737488355328 ∧ n + m ≤ 140737488355328) :
  DOp P pc o F M [i, j] (.arr j) [(i, .gone), (j, .arx e sz (n + m) (l ++ l2))] := by
 intro hp a s hok hops hfp
 obtain ⟨e1, ti, e2, e3, e4⟩ := kU hT
 obtain ⟨ti', z, q1, q2, q3⟩ := jD hZ
 rw [e2] at q1
 obtain rfl := qao q1
 obtain ⟨b1, b2⟩ := hbd hp
 have hM' : s.M[i]? = some (.arx e sz n l) := by rw [hfp i (by simp)]; exact hM
 have hj' : s.M[j]? = some .hole := by rw [hfp j (by simp)]; exact hj
 have hij : i ≠ j := fun h => by subst h; rw [hM'] at hj'; cases hj'
 have hjl : j < s.β.length := by rw [hok.len]; exact (qaj.1 hj').1
 have hrx := qo hp hx (by simp [ho, Op.operands, Call.operands]) hops
 have hry := qo hp hy (by simp [ho, Op.operands, Call.operands]) hops
 generalize hv : a.eval x = vx at hrx
 generalize hvy : a.eval y = vy at hry
 cases hry with
 | @slm _ _ cap2 a2 _ vs2 hnl2 hl2 hn2 hc2 ha2 hvl2 hel2 hm2 =>
 have hso : SrcOk s (.slice a2 m cap2) m vs2 := by
  refine ⟨a2, cap2, rfl, ?_⟩
  cases a2 with
  | none =>
   have := ha2 rfl
   exact .inl ⟨rfl, by omega, this, qaL (by rw [hvl2, hl2, show m = 0 by omega, Nat.zero_mul])⟩
  | some ad =>
   refine .inr ⟨ad, rfl, fun k u hk => ?_⟩
   rcases hm2 with e | ⟨b, q, e, hI, hcl⟩
   ·rw [e] at hvl2
    rw [qaL hvl2] at hk
    simp at hk
   ·cases e
    rw [Addr.add_mid]
    exact hcl k u hk
 have hone : ∀ u ∈ vs2, u.oneCell' = true := fun u hu => by
  obtain ⟨k, hk, rfl⟩ := List.getElem_of_mem hu
  have hk2 : k < l2.length := by omega
  exact XO (hel2 k _ _ (qak hk2) (qak hk)) (qaM.1 h1 _ (qa7 hk2))
 cases hrx with
 | @arr _ ad n' c hβ =>
  obtain ⟨vs, hk, hvl, hel⟩ := hok.blk i _ _ hM' hβ
  obtain ⟨h', w', r1, r2, r3, r4⟩ := ul (P := P) (ty := o.type) (m := m) e1 e2 e3 e4 q2 (by rw [← hZl, ← q3]; simp) hk (by rw [hvl2]; exact hl2) hso hone (by unfold maxLen; omega) b1
  have hs' : (h' = .slice none 0 0) ∨ ∃ a n c, h' = .slice (some a) n c := by
   rcases r2.2 with ⟨q, _⟩ | ⟨g, cap, cur, q, _⟩
   ·exact .inl q
   ·exact .inr ⟨_, _, _, q⟩
  have hs0 : (Value.slice ad n' c = .slice none 0 0) ∨ ∃ a n k, Value.slice ad n' c = .slice (some a) n k := by
   rcases hk.2 with ⟨q, _⟩ | ⟨g, cap, cur, q, _⟩
   ·exact .inl q
   ·exact .inr ⟨_, _, _, q⟩
  have o1 := K8 hs'
  have o0 := K8 hs0
  have hblk : s.w.heap.size ≤ w'.heap.size := r3.size
  have hβj : s.β[j]? = some .nilFunc := by
   have q : s.β[j]? = some s.β[j] := qak hjl
   have : s.β[j] = .nilFunc := hok.blk j .hole _ hj' q
   rw [q, this]
  have from_ : ∀ b, hb h' = some b → s.w.heap.size ≤ b ∨ (hb (Value.slice ad n' c) = some b) := by
   intro b hbb
   rw [o1] at hbb
   rcases r4 b hbb with h | h
   ·exact .inr (by rw [o0]; exact h)
   ·exact .inl h
  have hnd' : ∀ (k : Nat) h, s.β[k]? = some h → h ≠ .nilFunc → (s.β.set j h')[k]? = some h := fun k h hk' hne => by
   by_cases e : j = k
   ·subst e; rw [hβj] at hk'; exact absurd (qao hk').symm hne
   ·rw [qav e]; exact hk'
  have imm' : ∀ b, s.I b → w'.heap[b]? = s.w.heap[b]? := fun b hI => r3.block b (hok.il b hI) fun h => by
   rw [← o0] at h
   exact (hok.lt b (ql hM' rfl hβ h.symm)).2 hI
  have hblkx : BlkOk ⟨s.β.set j h', s.I, (s.M.set i .gone).set j (.arx e sz (n + m) (l ++ l2)), w'⟩ h' (.arx e sz (n + m) (l ++ l2)) := by
   refine ⟨vs ++ vs2, r2, by simp [hvl, hvl2], fun k d v hk1 hk2 => ?_⟩
   by_cases hlt : k < l.length
   ·rw [qaC hlt] at hk1
    rw [qaC (by omega)] at hk2
    exact Rep.mono' (s' := ⟨s.β.set j h', s.I, (s.M.set i .gone).set j (.arx e sz (n + m) (l ++ l2)), w'⟩) hnd' (fun _ h => h) imm' (hel k d v hk1 hk2)
   ·rw [qaH (by omega)] at hk1 hk2
    rw [hvl] at hk2
    exact Rep.mono' (s' := ⟨s.β.set j h', s.I, (s.M.set i .gone).set j (.arx e sz (n + m) (l ++ l2)), w'⟩) hnd' (fun _ h => h) imm' (hel2 _ d v hk1 hk2)
  have ht : Tr s ⟨s.β.set j h', s.I, (s.M.set i .gone).set j (.arx e sz (n + m) (l ++ l2)), w'⟩ := by
   refine kT hok j (s.M.set i .gone) h' _ w' (by simp) (fun k kb hkb => ?_) (by rw [← hok.len]; exact hjl) (.inl hβj) (by rcases hs' with rfl | ⟨_, _, _, rfl⟩ <;> simp) hblkx (fun b hbb k kb hh hne q1 q2 q3 q4 => ?_) (fun b hbb => (from_ b hbb).imp id fun h => ql hM' rfl hβ h) (fun b hbb => ?_) (fun b => hb (Value.slice ad n' c) = some b) (fun b hdr => ⟨ql hM' rfl hβ hdr, fun k kb hh hne q1 q2 q3 q4 => ?_⟩) (fun b hlt hne hnd => ?_) r3.os r3.tape r3.output hblk
   ·by_cases hki : i = k
    ·subst hki
     have hlt : i < s.M.length := (qaj.1 hM').1
     rw [qaz hlt] at hkb
     exact .inr (qao hkb).symm
    ·rw [qav hki] at hkb; exact .inl hkb
   ·have hki : i ≠ k := fun h => by
     subst h
     have hlt : i < s.M.length := (qaj.1 hM').1
     rw [qaz hlt] at q1
     cases q1; cases q2
    rw [qav hki] at q1
    rcases from_ b hbb with h | h
    ·exact absurd (hok.lt b (ql q1 q2 q3 q4)).1 (Nat.not_lt.2 h)
    ·exact hki (hok.inj i k _ kb _ hh b hM' rfl hβ h q1 q2 q3 q4)
   ·replace hbb : hb h' = some b := hbb
    rw [o1] at hbb
    exact (r2.lt b hbb).2
   ·have hki : i ≠ k := fun h => by
     subst h
     have hlt : i < s.M.length := (qaj.1 hM').1
     rw [qaz hlt] at q1
     cases q1; cases q2
    rw [qav hki] at q1
    exact hki (hok.inj i k _ kb _ hh b hM' rfl hβ hdr q1 q2 q3 q4)
   ·exact r3.block b hlt fun h => hnd (by rw [o0]; exact h.symm)
  refine k6 (s' := ⟨s.β.set j h', s.I, (s.M.set i .gone).set j (.arx e sz (n + m) (l ++ l2)), w'⟩) (k9 ho (fun cs => by rfl) (by simpa [hv, hvy] using r1)) ht rfl ?_
  rcases hs' with rfl | ⟨_, _, _, rfl⟩
  ·exact .arr (by simp [hjl])
  ·exact .arr (by simp [hjl])
end
section
variable {P : Program} {s0 : St} {n : Cx}
theorem Vl {F : Fr} {M : List Blk} {a : Act} {w : World} {T e : TypeId} {p q i sz m : Nat} {l ds : List D} (h : Inv s0 n F M a w) (hM : M[p]? = some (.mix T l)) (hq : l[q]? = some (.arr i)) (hi : M[i]? = some (.arx e sz m ds)) (hnl : D.nlL ds = true) : Inv s0 n F ((M.set i .gone).set p (.mix T (l.set q (.slm sz m ds)))) a w := by
 obtain ⟨h0, s, rfl, rfl, h3, h4, h5, h6⟩ := h
 have hpl : p < s.M.length := (qaj.1 hM).1
 have hil : i < s.M.length := (qaj.1 hi).1
 have hpi : p ≠ i := fun e => by subst e; rw [hM] at hi; cases hi
 have hpl' : p < s.β.length := by rw [h3.ok.len]; exact hpl
 have hil' : i < s.β.length := by rw [h3.ok.len]; exact hil
 have hβi : s.β[i]? = some s.β[i] := qak (by rw [h3.ok.len]; exact hil)
 have hβp : s.β[p]? = some s.β[p] := qak (by rw [h3.ok.len]; exact hpl)
 obtain ⟨b, vs, e1, e2, e3, e4⟩ := h3.ok.blk p _ _ hM hβp
 obtain ⟨us, hk, q3, q4⟩ := h3.ok.blk i _ _ hi hβi
 have hql : q < l.length := (qaj.1 hq).1
 have hcell : vs[q]? = some s.β[i] := by
  have hv : vs[q]? = some vs[q] := qak (by omega)
  have := e4 q _ _ hq hv
  rw [hv]
  generalize vs[q] = x at this
  cases this with
  | arr h => exact h.symm.trans hβi
 have main : ∃ I' : Nat → Prop, Tr s ⟨s.β, I', s.M.set i .gone, s.w⟩ ∧ Rep ⟨s.β, I', s.M.set i .gone, s.w⟩ (.slm sz m ds) s.β[i] := by
  rcases hk.2 with ⟨g1, g2⟩ | ⟨g, cap, cur, g1, g2, g3', g4, g5, g6, g7⟩
  ·subst g2
   have hl0 : ds = [] := qaL (by rw [← q3, hk.1, Nat.zero_mul])
   refine ⟨s.I, ?_, ?_⟩
   ·have hnd : ∀ (i : Nat) h, s.β[i]? = some h → h ≠ .nilFunc → s.β[i]? = some h := fun _ _ h _ => h
    have old : ∀ (j : Nat) k, (s.M.set i .gone)[j]? = some k → k = .gone ∨ s.M[j]? = some k := fun j k hj => by
     by_cases e : i = j
     ·subst e
      rw [qaz hil] at hj
      exact .inl (qao hj).symm
     ·rw [qav e] at hj; exact .inr hj
    have lv : ∀ b, Live ⟨s.β, s.I, s.M.set i .gone, s.w⟩ b → Live s b := by
     rintro b ⟨j, k, h, h1, h2, h3, h4⟩
     rcases old j k h1 with rfl | h1
     ·cases h2
     ·exact ql h1 h2 h3 h4
    refine ⟨⟨by simp [h3.ok.len], fun j k h h1 h2 => ?_, fun b hb => h3.ok.lt b (lv b hb), ?_, h3.ok.il⟩, jC hnd, fun _ h => h, fun _ h => .inl h, fun _ _ _ => rfl, fun b h => .inr (lv b h), rfl, rfl, rfl, qaE _⟩
    ·rcases old j k h1 with rfl | h1
     ·trivial
     ·exact BlkOk.mono (s := s) (s' := ⟨s.β, s.I, s.M.set i .gone, s.w⟩) hnd (fun _ h => h) (fun _ _ => rfl) (h3.ok.blk j k h h1 h2) (fun _ _ _ => rfl)
    ·intro j j2 k k2 x x2 b a1 a2 a3 a4 c1 c2 c3 c4
     rcases old j k a1 with rfl | a1
     ·cases a2
     ·rcases old j2 k2 c1 with rfl | c1
      ·cases c2
      ·exact h3.ok.inj j j2 k k2 x x2 b a1 a2 a3 a4 c1 c2 c3 c4
   ·rw [g1, hl0]
    exact .slm (vs := []) rfl (by simp) (qaE _) (qaZ _) (fun _ => rfl) rfl (fun j d v h => by simp at h) (.inl rfl)
  ·have tt := Qf h3.ok hi rfl hβi (show hb s.β[i] = some g by rw [g1]; rfl) s.w (fun _ _ => rfl) rfl rfl rfl rfl
   refine ⟨_, tt, ?_⟩
   rw [g1]
   refine .slm (vs := us) hnl (by rw [← q3]; exact hk.1) g4 g5 (fun e => by cases e) q3 (fun j d v hj hv => (q4 j d v hj hv).mono h3.ok tt) (.inr ⟨g, 0, rfl, .inr rfl, ?_⟩)
   have hc := qM (qh g3' 0) 0 (m * sz)
   show qZ s.w g 0 us
   simpa [g7] using hc
 obtain ⟨I', tt, hrep⟩ := main
 have hM2 : (s.M.set i .gone)[p]? = some (.mix T l) := by rw [qav (Ne.symm hpi)]; exact hM
 have hset : s.β.set p s.β[p] = s.β := List.set_getElem_self ..
 have t2 : Tr ⟨s.β, I', s.M.set i .gone, s.w⟩ ⟨s.β, I', (s.M.set i .gone).set p (.mix T (l.set q (.slm sz m ds))), s.w⟩ := by
  have hst := kT tt.ok p (s.M.set i .gone) s.β[p] (.mix T (l.set q (.slm sz m ds))) s.w rfl (fun i k h => .inl h) (by simpa using hpl) (.inr (.inl hβp)) (by rw [e1]; simp) ?_ (fun b' hb' j kj hj hne h1 h2 h3' h4' => ?_) (fun b' hb' => .inr (ql hM2 rfl hβp hb')) (fun b' hb' => (tt.ok.lt b' (ql hM2 rfl hβp hb')).1) (fun _ => False) (fun _ h => h.elim) (fun b' hlt hne _ => rfl) rfl rfl rfl (qaE _)
  ·have hst' := hst
   simp only [hset] at hst'
   exact hst'
  ·refine ⟨b, vs, e1, e2, by simp [e3], fun j d v g1 g2 => ?_⟩
   have lift : ∀ {d v}, Rep s d v → Rep ⟨s.β.set p s.β[p], I', (s.M.set i .gone).set p (.mix T (l.set q (.slm sz m ds))), s.w⟩ d v := fun hr => by
    rw [hset]
    exact Rep.mono' (s := ⟨s.β, I', s.M.set i .gone, s.w⟩) (s' := ⟨s.β, I', (s.M.set i .gone).set p (.mix T (l.set q (.slm sz m ds))), s.w⟩) (fun _ _ h _ => h) (fun _ h => h) (fun _ _ => rfl) (hr.mono h3.ok tt)
   by_cases e : q = j
   ·subst e
    rw [qaz hql] at g1
    cases g1
    rw [hcell] at g2
    cases g2
    rw [hset]
    exact Rep.mono' (s := ⟨s.β, I', s.M.set i .gone, s.w⟩) (s' := ⟨s.β, I', (s.M.set i .gone).set p (.mix T (l.set q (.slm sz m ds))), s.w⟩) (fun _ _ h _ => h) (fun _ h => h) (fun _ _ => rfl) hrep
   ·rw [qav e] at g1
    exact lift (e4 j d v g1 g2)
  ·exact hne (tt.ok.inj j p kj _ hj _ b' h1 h2 h3' h4' hM2 rfl hβp hb')
 exact ⟨h0, ⟨s.β, I', (s.M.set i .gone).set p (.mix T (l.set q (.slm sz m ds))), s.w⟩, rfl, rfl, (h3.trans tt).trans t2, fun x d hd => ((h4 x d hd).mono h3.ok tt).mono tt.ok t2, h5, (h6.mono h3.ok tt).mono tt.ok t2⟩
theorem Kz {c : Code} {F : Fr} {M M' : List Blk} {K : Cont} (p q : Nat) {T e : TypeId} {i sz m : Nat} {l ds : List D} (hnl : D.nlL ds = true) (hM : M[p]? = some (.mix T l)) (hq : l[q]? = some (.arr i)) (hi : M[i]? = some (.arx e sz m ds)) (hM' : (M.set i .gone).set p (.mix T (l.set q (.slm sz m ds))) = M') (h : dwp P s0 n c F M' K) : dwp P s0 n c F M K := by
 subst hM'
 exact fun a w hj => h a w (Vl hj hM hq hi hnl)
end
mutual
theorem WQ (σ : List Nat) (V : Nat → Bool) (M : List Blk) : ∀ d : D, d.nl = true → vw σ V M d = some d
 | .val v, _ => rfl
 | .loc i o, h => by cases h
 | .arr i, h => by cases h
 | .aloc i o, h => by cases h
 | .own i sz o n, h => by cases h
 | .part i sz o n c, h => by cases h
 | .dpf L, _ => rfl
 | .pin b L, _ => rfl
 | .pip L, _ => rfl
 | .slf sz n L, _ => rfl
 | .slc sz n L, _ => rfl
 | .tup l, h => by rw [vw, wR σ V M l (by simpa [D.nl] using h)]; rfl
 | .agg l, h => by rw [vw, wR σ V M l (by simpa [D.nl] using h)]; rfl
 | .dpm l, _ => rfl
 | .slm sz n l, _ => rfl
 | .smc sz n l, _ => rfl
 | .fn f a b, h => by
  rw [D.nl, qan] at h
  rw [vw, wR σ V M a h.1, wR σ V M b h.2]
 | .ifc t d, h => by rw [vw, WQ σ V M d (by simpa [D.nl] using h)]; rfl
 | .opt b d, h => by rw [vw, WQ σ V M d (by simpa [D.nl] using h)]; rfl
 | .hnd i, h => by cases h
 | .yld i, h => by cases h
 | .junk, _ => rfl
theorem wR (σ : List Nat) (V : Nat → Bool) (M : List Blk) : ∀ l : List D, D.nlL l = true → vwL σ V M l = some l
 | [], _ => rfl
 | d :: l, h => by
  rw [D.nlL, qan] at h
  rw [vwL, WQ σ V M d h.1, wR σ V M l h.2]
end
mutual
theorem WR (τ : List Nat) : ∀ d : D, d.nl = true → sb τ d = some d
 | .val v, _ => rfl
 | .loc i o, h => by cases h
 | .arr i, h => by cases h
 | .aloc i o, h => by cases h
 | .own i sz o n, h => by cases h
 | .part i sz o n c, h => by cases h
 | .dpf L, _ => rfl
 | .pin b L, _ => rfl
 | .pip L, _ => rfl
 | .slf sz n L, _ => rfl
 | .slc sz n L, _ => rfl
 | .tup l, h => by rw [sb, u3 τ l (by simpa [D.nl] using h)]; rfl
 | .agg l, h => by rw [sb, u3 τ l (by simpa [D.nl] using h)]; rfl
 | .dpm l, _ => rfl
 | .slm sz n l, _ => rfl
 | .smc sz n l, _ => rfl
 | .fn f a b, h => by
  rw [D.nl, qan] at h
  rw [sb, u3 τ a h.1, u3 τ b h.2]
 | .ifc t d, h => by rw [sb, WR τ d (by simpa [D.nl] using h)]; rfl
 | .opt b d, h => by rw [sb, WR τ d (by simpa [D.nl] using h)]; rfl
 | .hnd i, h => by cases h
 | .yld i, h => by cases h
 | .junk, _ => rfl
theorem u3 (τ : List Nat) : ∀ l : List D, D.nlL l = true → sbL τ l = some l
 | [], _ => rfl
 | d :: l, h => by
  rw [D.nlL, qan] at h
  rw [sbL, WR τ d h.1, u3 τ l h.2]
end
theorem XQ (σ : List Nat) (V : Nat → Bool) (M : List Blk) (d : D) (h : d.nl = true) : vw1 σ V M d = some d := by
 cases d with
 | loc => cases h
 | arr => cases h
 | aloc => cases h
 | own => cases h
 | part => cases h
 | hnd => cases h
 | yld => cases h
 | floc => cases h
 | farr => cases h
 | faloc => cases h
 | _ => simp [vw1, h]
theorem Qk (σ : List Nat) (V : Nat → Bool) (M : List Blk) : ∀ l : List D, D.nlL l = true → xt σ V M l = some l
 | [], _ => rfl
 | d :: l, h => by
  rw [D.nlL, qan] at h
  rw [xt, XQ σ V M d h.1, Qk σ V M l h.2]
theorem Gc : ∀ {a b : List D}, D.nlL a = true → D.nlL b = true → D.nlL (a ++ b) = true
 | [], _, _, h => h
 | d :: a, b, h, h' => by
  rw [D.nlL, qan] at h
  rw [qas, D.nlL, h.1, Gc h.2 h']
  rfl
theorem qp {α : Type} {mk : α → List D} (h : ∀ a, D.nlL (mk a) = true) : ∀ l : List α, D.nlL (l.flatMap mk) = true
 | [] => rfl
 | a :: l => by rw [qaD]; exact Gc (h a) (qp h l)
theorem kA {σ : List Nat} {V : Nat → Bool} {M : List Blk} {T : TypeId} {sz n n' : Nat} {l l' : List D} (hn : n = n') (h : l = l') (hv : D.nlL l' = true) : (vwL σ V M l).map (Blk.arx T sz n) = some (Blk.arx T sz n' l') := by
 subst hn h
 rw [wR σ V M l hv]
 rfl
theorem ko {τ : List Nat} {T : TypeId} {sz n : Nat} {l : List D} (h : D.nlL l = true) : sbB τ (.arx T sz n l) = some (.arx T sz n l) := by
 show (sbL τ l).map _ = _
 rw [u3 τ l h]; rfl
section
variable {P : Program} {pc : Bool} {o : Oper} {F : Fr} {M : List Blk} {T : TypeId} {x y : Operand} {n : Nat} {k : IntKind} {z : Int} {j : Nat}
def arW (P : Program) (T : TypeId) : Option Nat := match P.underlying T with
 | some (.array n e) => match tyB P e with
  | some (false, 1) => some n
  | _ => none
 | _ => none
theorem WS (h : arW P T = some n) : ∃ e, P.underlying T = some (.array n e) ∧ tyB P e = some (false, 1) := by
 unfold arW at h
 split at h
 ·rename_i m e hu
  split at h
  ·rename_i hs; cases h; exact ⟨e, hu, hs⟩
  ·cases h
 ·cases h
theorem Aa {ds : List D} {d : D} (j : Nat) (ho : o.op = .index T x y) (hT : arW P T = some n) (hx : Ev pc F x (.agg ds)) (hy : Ev pc F y (.val (.int k z))) (hz : pc = true → z = (j : Int)) (hj : j < n) (hd : ds[j]? = some d) : DOp P pc o F M [] d [] := by
 intro hp a s hok hops _
 have hr := qo hp hx (by simp [ho, Op.operands]) hops
 have e2 := (qo hp hy (by simp [ho, Op.operands]) hops).val_eq
 rw [hz hp] at e2
 obtain ⟨e, hu, he⟩ := WS hT
 obtain ⟨dd, i, h1, h2, h3, h4⟩ := j7 he
 generalize hv : a.eval x = vx at hr
 cases hr with
 | @agg _ vs hvl hel =>
  have hjl : j < vs.length := by rw [hvl]; exact (qaj.1 hd).1
  refine qN (v := vs[j]) hok ?_ (hel j _ _ hd (qak hjl))
  unfold execOp
  simp only [ho, hv, e2]
  refine kE ?_
  have hagg : (isAgg e).run P s.w = .ok false s.w := by
   unfold isAgg
   rw [Sem.run_bind, run_underlying h1]
   cases dd <;> first | rfl | cases h3
  have hsz : (sizeOf e).run P s.w = .ok 1 s.w := by simp [sizeOf, typeInfo, h2, h4]
  have hb : (0 : Int) ≤ (j : Int) ∧ (j : Int) < (n : Int) := by omega
  unfold Instr.index
  simp only [Sem.run_bind, asIntOf, Sem.run_pure, Result.andThen_ok, run_underlying hu, hb, and_self, if_true, hsz, part, hagg, qaV, Nat.mul_one]
  simp [hjl]
end
end Go.Proofs.Ytofklkbfkoliiaa
namespace Go.Proofs.Ytofklkbfkoliiaa
set_option linter.unusedVariables false
set_option linter.unusedSimpArgs false
open Go.RowKit
def Ql (n : Nat) (lf : List Oper) (m : Nat) (fps : List (List Nat × List Nat)) : Bool :=
 let bs := zg lf []
 fps.length == m && qbb m lf.length && ((qa3 lf.length).all fun j => match lf[j]? with
  | some oj => oj.after.all (fun e => !Region.binds .any e || qbb e.on j) && (Nat.ble j m || (bs.getD j 0).testBit m)
  | none => false) && ((qa3 m).all fun i => (bs.getD m 0).testBit i) && (qa3 m).all fun j =>
  match lf[j]?, fps[j]? with
  | some oj, some fj => K0 n oj.dst && gc oj.op && fj.2.all (fun x => fj.1.contains x) && (qa3 j).all fun i =>
   match lf[i]?, fps[i]? with
   | some oi, some fi => K6 lf.toArray (bs.getD j 0) i oi oj fi fj
   | _, _ => false
  | _, _ => false
theorem yp {P : Program} {s0 : St} {n : Cx} {id : Nat} {lf : List Oper} {op : Oper} {F : Fr} {M : List Blk} {K : Cont} (m : Nat) (fps : List (List Nat × List Nat)) (hm : P.follows .mixedOrders = true) (hB : Ql n.n lf m fps = true) (hopn : lf[m]? = some op) (hndm : gc op.op = true)
  (h : Lex P lf.toArray (lf.take m) fps F M (fun F1 M1 => ∃ fp d wr, op.guard = none ∧ DOpP P true op F1 M1 fp d wr ∧ K (.panic d) F1 (upd M1 wr))) :
  dwp P s0 n (.region id lf.toArray true) F M K := by
 intro a w hi
 refine wpIn_region_any hm ?_
 simp only [Ql, qan, beq_iff_eq, qaM, qba] at hB
 obtain ⟨⟨⟨⟨hlen0, hml⟩, hedge⟩, hpre0⟩, hB⟩ := hB
 have hml := Nat.blt_eq.mp hml
 obtain ⟨l, hl⟩ : ∃ l, l = lf.take m := ⟨_, rfl⟩
 have hllen : l.length = m := by rw [hl, qaN]; omega
 rw [← hl] at h
 have hlen : fps.length = l.length := by omega
 have htk : ∀ i, i < l.length → l[i]? = lf[i]? := fun i hi => by rw [hl, List.getElem?_take, if_pos (by omega)]
 have hon : ∀ (j : Nat) o, lf[j]? = some o → ∀ e ∈ o.after.toList, Region.binds .any e = true → e.on < j := by
  intro j o ho e he hb
  have h1 := hedge j (qaj.1 ho).1
  rw [ho] at h1
  simp only [qan] at h1
  have := Array.all_eq_true_iff_forall_mem.1 h1.1 e (by simpa using he)
  rw [hb] at this
  exact Nat.blt_eq.mp (by simpa using this)
 have hbeh : ∀ i, l.length < i → i < lf.length → gd lf l.length i = true := by
  intro i h1 h2
  have h3 := hedge i h2
  rw [qak h2] at h3
  simp only [qan, qaA] at h3
  rcases h3.2 with h4 | h4
  ·have := Nat.ble_eq.mp h4; omega
  ·rw [hllen]; exact h4
 have hpre : ∀ j, j < l.length → gd lf j l.length = true := fun j hj => by rw [hllen]; exact hpre0 j (by omega)
 subst hllen
 obtain ⟨E, e1, e2, e3⟩ := zi l fps F M hlen h
 have at_ : ∀ k, k < l.length → ∃ o f, l[k]? = some o ∧ fps[k]? = some f := fun k hk => ⟨l[k], fps[k], qak hk, qak (by omega)⟩
 have hone : ∀ (j : Nat) o f, l[j]? = some o → fps[j]? = some f → (∀ e ∈ o.after.toList, Region.binds .any e = true → e.on < j) ∧ K0 n.n o.dst = true ∧ gc o.op = true ∧ (∀ x ∈ f.2, x ∈ f.1) ∧ ∀ (i : Nat) oi fi, i < j → l[i]? = some oi → fps[i]? = some fi → gd lf i j = true ∨ (gH oi.dst.toList (jU lf.toArray o) = false ∧ gH (jU lf.toArray oi) o.dst.toList = false ∧ gH fi.2 f.1 = false ∧ gH fi.1 f.2 = false) := by
  intro j o f ho hf
  have hj : j < l.length := (qaj.1 ho).1
  have h1 := hB j hj
  have ho2 := ho
  rw [htk j hj] at ho2
  rw [ho2, hf] at h1
  simp only [qan, qaM, qba] at h1
  obtain ⟨⟨⟨h2, hnd⟩, h3⟩, h4⟩ := h1
  refine ⟨hon j o ho2, h2, hnd, fun x hx => by simpa using h3 x hx, fun i oi fi hij hoi hfi => ?_⟩
  have h5 := h4 i hij
  rw [← htk i (by omega), hoi, hfi] at h5
  simp only [K6, qaA, qau, qar] at h5
  rcases h5 with h5 | h5
  ·exact .inl h5
  ·exact .inr ⟨h5.1.1.1, h5.1.1.2, h5.1.2, h5.2⟩
 have meet_no : ∀ {x : List Nat} {y : List Nat} {t : Nat}, gH x y = false → t ∈ x → t ∈ y → False := by
  intro x y t hm hx hy
  simp only [gH, List.any_eq_false] at hm
  exact hm t hx (by simpa using hy)
 have main : ∀ (f : Nat) (listed : Array Bool) (b : Act) (s : St), Ok s0 → listed.size = lf.length → (∀ k, l.length ≤ k → listed.getD k false = false) → unl listed lf.length = f → Tr s0 s →
   (∀ t d, lkS l E F (fun k => listed.getD k false) t l.length = some d → Rep s d (jf b t)) → s.M.length = M.length → (∀ i, i < M.length → s.M[i]? = gR E M (fun k => listed.getD k false) i l.length) →
   b.tmps.size = n.n → DfOk s0 s n.mks n.U b.defers → (∀ j i, listed.getD j false = true → j < l.length → gd lf i j = true → listed.getD i false = true) →
   wpAnyIn (wd (n.ρ s0)) 0 P .any lf.toArray (PostK s0 n K) f listed b s.w := by
  intro f
  induction f with
  | zero =>
   intro listed b s h0 hs hbig hu ht hF hMl hM hn hd _
   have hall := vN _ hu
   have h1 := hall l.length (by omega)
   rw [hbig l.length (qaE _)] at h1
   cases h1
  | succ f ih =>
   intro listed b s h0 hs hbig hu ht hF hMl hM hn hd hcl
   refine ⟨fun hnone => ?_, fun i hi => ?_⟩
   ·exfalso
    obtain ⟨i, h1, h2, h3⟩ := uf lf.length (listed := listed) (by omega)
    obtain ⟨o, ho⟩ : ∃ o, lf[i]? = some o := ⟨lf[i], qak h1⟩
    have g1 := hon i o ho
    have : i ∈ Region.ready .any lf.toArray listed := mem_ready.2 ⟨by rw [yF hs h1]; exact h2, o, by simpa using ho, fun e he hb => h3 _ (g1 e (by simpa using he) hb)⟩
    rw [hnone] at this
    cases this
   ·obtain ⟨hun, o, ho, hall⟩ := mem_ready.1 hi
    have hof : lf[i]? = some o := by simpa using ho
    have hilf : i < lf.length := (qaj.1 hof).1
    rw [yF hs hilf] at hun
    have done0 : ∀ j, gd lf j i = true → listed.getD j false = true := by
     intro j hj
     obtain ⟨e, he, hb, hcase⟩ := wH hof hj
     have h1 := hall e (by simpa using he) hb
     rcases hcase with rfl | ⟨h2, h3⟩
     ·exact h1
     ·refine hcl e.on j h1 ?_ h3
      refine Classical.byContradiction fun hno => ?_
      rw [hbig e.on (by omega)] at h1
      cases h1
    by_cases hgt : l.length < i
    ·exfalso
     have h1 := done0 l.length (hbeh i hgt hilf)
     rw [hbig l.length (qaE _)] at h1
     cases h1
    by_cases him : i = l.length
    ·subst him
     have hall2 : ∀ j, j < l.length → listed.getD j false = true := fun j hj => done0 j (hpre j hj)
     rw [hof] at hopn
     obtain rfl := qao hopn
     obtain ⟨fp, d, wr, q1, q2, q3⟩ := e2
     have hFk : FOk s (Fup l E F l.length) b := fun t d hd' => by
      rw [wI] at hd'
      refine hF t d ?_
      rw [← hd']
      exact jF _ fun j o hj _ _ => hall2 j hj
     have hMk : s.M = Mup E M l.length := by
      refine qa9 fun i => ?_
      by_cases hi : i < M.length
      ·rw [hM i hi, wJ i hi]
       exact jm _ fun j r hj _ _ => hall2 j hj
      ·rw [qaT (by omega), qaT (by rw [Mup_len]; omega)]
     unfold wpOpIn
     rw [ho]
     simp only
     have hw : Region.wanted o (yielded lf.toArray b.tmps) = true := by unfold Region.wanted; rw [q1]
     rw [if_pos hw]
     refine zc hndm (q2 rfl b s ht.ok (fun x _ d hd => vF hFk hd) (fun i _ => by rw [hMk])) fun s' v ht' ⟨w1, w2⟩ => ?_
     exact ⟨Fup l E F l.length, upd (Mup E M l.length) wr, d, ⟨h0, s', v, w1.trans (by rw [hMk]), rfl, ht.trans ht', hFk.mono ht.ok ht', hn, hd.mono ht.ok ht', rfl, w2⟩, q3⟩
    have hil : i < l.length := by omega
    have ho' : l[i]? = some o := by rw [hl, List.getElem?_take, if_pos (by omega)]; exact hof
    obtain ⟨fi, hfi⟩ : ∃ fi, fps[i]? = some fi := ⟨fps[i], qak (by omega)⟩
    obtain ⟨pc, d, r, hr, hrd, hg, hop, hwi, hgw⟩ := e3 i o fi ho' hfi
    obtain ⟨g1, g2, hnd, g3, g4⟩ := hone i o fi ho' hfi
    have done := done0
    have undone : ∀ j, j < l.length → gd lf i j = true → listed.getD j false = false := by
     intro j hj h1
     cases e : listed.getD j false with
     | false => rfl
     | true => rw [hcl j i e hj h1] at hun; cases hun
    have tset : ∀ t, t ∈ jU lf.toArray o → lkS l E F (fun k => listed.getD k false) t l.length = lkS l E F (fun _ => true) t i := by
     intro t ht
     rw [gN i l.length (by omega) fun j oj h1 h2 hj hjd => ?_]
     ·refine jF i fun j oj hj hoj hjd => ?_
      obtain ⟨fj, hfj⟩ : ∃ fj, fps[j]? = some fj := ⟨fps[j], qak (by omega)⟩
      rcases g4 j oj fj hj hoj hfj with h1 | h1
      ·exact done j h1
      ·exact (meet_no h1.1 (by simp [hjd]) ht).elim
     ·by_cases e : j = i
      ·subst e; exact hun
      ·obtain ⟨fj, hfj⟩ : ∃ fj, fps[j]? = some fj := ⟨fps[j], qak (by omega)⟩
       rcases (hone j oj fj hj hfj).2.2.2.2 i o fi (by omega) ho' hfi with h3 | h3
       ·exact undone j h2 h3
       ·exact (meet_no h3.2.1 ht (by simp [hjd])).elim
    have mset : ∀ x, x ∈ fi.1 → gR E M (fun k => listed.getD k false) x l.length = gR E M (fun _ => true) x i := by
     intro x hx
     have wmem : ∀ (j : Nat) rj fj, E[j]? = some rj → fps[j]? = some fj → j < l.length → (y8 rj.wr x).isSome = true → x ∈ fj.2 := by
      intro j rj fj hrj hfj hj hw
      obtain ⟨oj, _, hoj, _⟩ := at_ j hj
      obtain ⟨_, _, r', hr', _, _, _, hw', _⟩ := e3 j oj fj hoj hfj
      rw [hrj] at hr'
      obtain rfl := qao hr'
      rw [← hw']
      refine Classical.byContradiction fun hno => ?_
      rw [jr _ _ hno] at hw
      cases hw
     rw [js i l.length (by omega) fun j rj h1 h2 hrj hw => ?_]
     ·refine jm i fun j rj hj hrj hw => ?_
      obtain ⟨oj, fj, hoj, hfj⟩ := at_ j (by omega)
      rcases g4 j oj fj hj hoj hfj with h1 | h1
      ·exact done j h1
      ·exact (meet_no h1.2.2.1 (wmem j rj fj hrj hfj (by omega) hw) hx).elim
     ·by_cases e : j = i
      ·subst e; exact hun
      ·obtain ⟨oj, fj, hoj, hfj⟩ := at_ j (by omega)
       rcases (hone j oj fj hoj hfj).2.2.2.2 i o fi (by omega) ho' hfi with h3 | h3
       ·exact undone j h2 h3
       ·exact (meet_no h3.2.2.2 hx (wmem j rj fj hrj hfj h2 hw)).elim
    have hslot : ∀ t d, t ∈ o.looksAt lf.toArray → lk (Fup l E F i) t = some d → Rep s d (jf b t) := by
     intro t d' ht hd'
     refine hF t d' ?_
     rw [tset t (List.mem_append_left _ ht), ← wI]
     exact hd'
    have next : ∀ (s' : St) (v : Value), Tr s s' → s'.M = upd s.M r.wr → Rep s' r.d v → wpAnyIn (wd (n.ρ s0)) 0 P .any lf.toArray (PostK s0 n K) f (listed.setIfInBounds i true) (b.put o.dst v) s'.w := by
     intro s' v ht' hM' hrep
     have hset : ∀ k, (listed.setIfInBounds i true).getD k false = if i = k then true else listed.getD k false := fun k => ug _ _ _ (by rw [hs]; exact hilf)
     refine ih _ _ s' h0 (by simp [hs]) (fun k hk => by rw [hset, if_neg (by omega)]; exact hbig k hk) ?_ (ht.trans ht') ?_ (by rw [hM', v8, hMl]) ?_ (by rw [jM]; exact hn) (by rw [yb]; exact hd.mono ht.ok ht') ?_
     ·have := xD (by rw [hs]; exact hilf) hun lf.length
      rw [if_pos hilf] at this
      omega
     ·intro t d' hd'
      by_cases htd : o.dst = some t
      ·have e : lkS l E F (fun k => (listed.setIfInBounds i true).getD k false) t l.length = some r.d := by
        rw [gN (i + 1) l.length (by omega) fun j oj h1 h2 hj hjd => ?_]
        ·unfold lkS
         rw [ho', hr]
         simp only
         rw [if_pos ⟨by rw [hset, if_pos rfl], htd⟩]
        ·rw [hset, if_neg (by omega)]
         obtain ⟨fj, hfj⟩ : ∃ fj, fps[j]? = some fj := ⟨fps[j], qak (by omega)⟩
         rcases (hone j oj fj hj hfj).2.2.2.2 i o fi (by omega) ho' hfi with h3 | h3
         ·exact undone j h2 h3
         ·exact (meet_no (t := t) h3.2.1 (List.mem_append_right _ (by simp [htd])) (by simp [hjd])).elim
       rw [e] at hd'
       obtain rfl := qao hd'
       have hsz : t < b.tmps.size := by
        rw [htd] at g2
        rw [hn]
        exact Nat.blt_eq.mp g2
       rw [htd, yr, if_pos ⟨rfl, hsz⟩]
       exact hrep
      ·have e : jf (b.put o.dst v) t = jf b t := by
        cases hod : o.dst with
        | none => rfl
        | some x => rw [yr, if_neg (fun q => htd (by rw [hod, q.1]))]
       rw [e]
       refine (hF t d' ?_).mono ht.ok ht'
       rw [← hd']
       refine jF _ fun j oj hj hoj hjd => ?_
       rw [hset]
       by_cases ej : i = j
       ·subst ej
        rw [ho'] at hoj
        obtain rfl := qao hoj
        exact absurd hjd htd
       ·rw [if_neg ej]
     ·intro x hx
      rw [hM', wb _ _ _ (by omega), hM x hx]
      cases hw : y8 r.wr x with
      | none =>
       rw [Option.none_or]
       refine jm _ fun j rj hj hrj hwj => ?_
       rw [hset]
       by_cases ej : i = j
       ·subst ej
        rw [hr] at hrj
        obtain rfl := qao hrj
        rw [hw] at hwj; cases hwj
       ·rw [if_neg ej]
      | some k =>
       rw [Option.some_or]
       have hxw : x ∈ fi.2 := by
        rw [← hwi]
        refine Classical.byContradiction fun hno => ?_
        rw [jr _ _ hno] at hw
        cases hw
       rw [js (i + 1) l.length (by omega) fun j rj h1 h2 hrj hwj => ?_]
       ·unfold gR
        rw [hr]
        simp only
        rw [if_pos (by rw [hset, if_pos rfl]), hw, Option.some_or]
       ·rw [hset, if_neg (by omega)]
        obtain ⟨oj, fj, hoj, hfj⟩ := at_ j (by omega)
        rcases (hone j oj fj hoj hfj).2.2.2.2 i o fi (by omega) ho' hfi with h3 | h3
        ·exact undone j h2 h3
        ·refine (meet_no h3.2.2.2 (g3 x hxw) ?_).elim
         obtain ⟨_, _, r', hr', _, _, _, hw', _⟩ := e3 j oj fj hoj hfj
         rw [hrj] at hr'
         obtain rfl := qao hr'
         rw [← hw']
         refine Classical.byContradiction fun hno => ?_
         rw [jr _ _ hno] at hwj
         cases hwj
     ·intro j k hj hjl hk
      rw [hset] at hj ⊢
      by_cases e : i = k
      ·rw [if_pos e]
      ·rw [if_neg e]
       by_cases ej : i = j
       ·subst ej; exact done k hk
       ·rw [if_neg ej] at hj
        exact hcl j k hj hjl hk
    unfold wpOpIn
    rw [ho]
    simp only
    rw [wa hg hslot]
    cases pc with
    | true =>
     rw [if_pos rfl]
     refine yT hnd (hop rfl b s ht.ok (fun x hx d' hd' => ?_) (fun x hx => ?_)) fun s' v ht' ⟨q1, q2⟩ => next s' v ht' q1 ?_
     ·cases x with
      | tmp t => exact hslot t d' (List.mem_append_left _ (List.mem_filterMap.2 ⟨.tmp t, by simpa using hx, rfl⟩)) hd'
      | const v => obtain rfl := qao hd'; exact .val v
      | func g => obtain rfl := qao hd'; exact Rep.fn (vs := []) (us := []) rfl rfl (fun j d v h => by simp at h) (fun j d v h => by simp at h)
      | global g => obtain rfl := qao hd'; exact .val _
     ·by_cases hxl : x < M.length
      ·rw [hM x hxl, wJ x hxl, mset x hx]
      ·rw [qaT (by omega), qaT (by rw [Mup_len]; omega)]
     ·rw [hrd]
      unfold gdd
      split
      ·exact q2
      ·exact .opt (fun _ => q2) (fun h => by cases h)
    | false =>
     rw [if_neg (by simp)]
     have hgs : o.guard.isSome = true := by
      unfold Gd at hg
      cases e : o.guard with
      | none => rw [e] at hg; cases hg
      | some x => rfl
     refine ⟨fun _ _ => trivial, next s undef (Tr.refl ht.ok) (by rw [hgw rfl]; rfl) ?_⟩
     rw [hrd]
     unfold gdd
     split
     ·rename_i e; rw [e] at hgs; cases hgs
     ·exact .opt (fun h => by cases h) (fun _ => rfl)
 obtain ⟨h0, s, h1, h2, h3, h4, h5, h6⟩ := hi
 subst h1 h2
 have hst := v6 h3.ok { s.w with drawn := s.w.drawn + 1 } rfl rfl rfl rfl
 have hno : ∀ k, (qaY lf.toArray.size false).getD k false = false := fun k => by
  simp only [Array.getD_eq_getD_getElem?, Array.getElem?_replicate]
  split <;> rfl
 have := main lf.length (qaY lf.toArray.size false) a ⟨s.β, s.I, s.M, { s.w with drawn := s.w.drawn + 1 }⟩ h0 (by simp) (fun k _ => hno k) (by
   have := wc lf.toArray.size lf.length (by simp)
   exact this) (h3.trans hst) (fun t d hd => ?_) rfl (fun i hi => ?_) h5 (h6.mono h3.ok hst) (fun j i hj => by rw [hno] at hj; cases hj)
 ·simpa using this
 ·rw [gN 0 l.length (by omega) fun j o _ _ _ _ => hno j] at hd
  exact (h4 t d hd).mono h3.ok hst
 ·rw [js 0 l.length (by omega) fun j r _ _ _ _ => hno j]
  rfl
end Go.Proofs.Ytofklkbfkoliiaa
namespace Go.Proofs.Ytofklkbfkoliiaa
set_option linter.unusedVariables false
set_option linter.unusedSimpArgs false
open Go.RowKit
section
variable {P : Program} {pc : Bool} {o : Oper} {F : Fr} {M : List Blk}
theorem xM {T T' : TypeId} {x : Operand} {i p k : Nat} {l : List D} {R : List Value} (ho : o.op = .load T x) (hT : tyB P T = some (true, k)) (hx : Ev pc F x (.loc i p)) (hM : M[i]? = some (.mix T' l)) (hR : (l.drop p).take k = R.map .val) (hl : R.length = k) : DOp P pc o F M [i] (.val (.agg R.toArray)) [] := by
 intro hp a s hok hops hfp
 have hr := qo hp hx (by simp [ho, Op.operands]) hops
 generalize hv : a.eval x = vx at hr
 cases hr with
 | @loc _ _ b h =>
  obtain ⟨b', vs, e1, e2, e3, e4⟩ := hok.blk i _ _ (by rw [hfp i (by simp)]; exact hM) h
  cases e1
  have hvs : (vs.drop p).take k = R := by
   have hlen : ((vs.drop p).take k).length = R.length := by
    have h1 := congrArg List.length hR
    rw [qaN, qaR, List.length_map] at h1
    rw [qaN, qaR, e3, h1]
   refine List.ext_getElem hlen fun j h1 h2 => ?_
   have h3 : ((l.drop p).take k)[j]? = some (.val R[j]) := by rw [hR, qa5, qak h2]; rfl
   have hjk : j < k := by omega
   rw [List.getElem?_take, if_pos hjk, qa2] at h3
   have h5 : vs[p + j]? = some ((vs.drop p).take k)[j] := by
    have := qak h1
    rw [List.getElem?_take, if_pos hjk, qa2] at this
    exact this
   exact (e4 _ _ _ h3 h5).val_eq
  have hc : qZ s.w b 0 vs := qh e2 0
  have hr := jn hc p k hvs
  rw [qal] at hr
  exact qN hok (jz ho hT hv hr hl) (.val _)
end
theorem wj {σ : List Nat} {V : Nat → Bool} {M : List Blk} {d d' : D} {l l' : List D} (h1 : vw σ V M d = some d') (h2 : vwL σ V M l = some l') : vwL σ V M (d :: l) = some (d' :: l') := by rw [vwL, h1, h2]
theorem XR {σ : List Nat} {V : Nat → Bool} {M : List Blk} {i : Nat} {T : TypeId} {sz n : Nat} {l : List D} (hp : pos σ i = none) (hV : V i = true) (hM : M[i]? = some (.arx T sz n l)) (h : D.nlL l = true) : vw σ V M (.arr i) = some (.slm sz n l) := by
 rw [vw, hp]
 show xU σ V M i = _
 unfold xU
 rw [hV, hM]
 show (xt σ V M _).map _ = _
 rw [Qk σ V M l h]; rfl
end Go.Proofs.Ytofklkbfkoliiaa
namespace Go.Proofs.Ytofklkbfkoliiaa
set_option linter.unusedVariables false
set_option linter.unusedSimpArgs false
open Go.RowKit
def Mem.blk : Mem → Blk
 | .gone => .gone
 | .flat T L => .flat T L
 | .arr T sz n L => .arr T sz n L
 | .que T sz n L => .que T sz n L
theorem XS {s : St} {h : Value} {B : Mem} (hk : BlkOk s h B.blk) : MemOk s.w h B := by cases B <;> exact hk
theorem uy (B : Mem) : B.blk.live = B.live := by cases B <;> rfl
theorem blk_owns {B : Mem} {h : Value} {b : Nat} : jd B.blk h b ↔ hb h = some b := by cases B <;> exact Iff.rfl
theorem WT {s : St} (ho : Ok s) {i j : Nat} {Bs : List Mem} {B : Mem} {hs : List Value} {h : Value} (hi : s.M[i]? = some (.fam Bs)) (hj : s.M[j]? = some B.blk) (hl : B.live = true) (hβi : s.β[i]? = some (.tuple hs.toArray)) (hβj : s.β[j]? = some h) :
  Tr s ⟨s.β.set i (.tuple (hs ++ [h]).toArray), s.I, (s.M.set j .gone).set i (.fam (Bs ++ [B])), s.w⟩ := by
 have hne : i ≠ j := fun e => by subst e; rw [hi] at hj; cases B <;> cases hj
 have hil := (qaj.1 hi).1
 have hjl := (qaj.1 hj).1
 have hf := xW (k := 0) ho hi hβi
 have hlen := hf.len
 have hm : MemOk s.w h B := XS (ho.blk j _ h hj hβj)
 have other : ∀ b, jd (.fam (Bs ++ [B])) (.tuple (hs ++ [h]).toArray) b → jd (.fam Bs) (.tuple hs.toArray) b ∨ hb h = some b := by
  rintro b ⟨hs', k, B', u, e1, e2, e3, e4, e5⟩
  have e1 : hs ++ [h] = hs' := by simpa using e1
  subst e1
  by_cases hk : k < Bs.length
  ·rw [qaC hk] at e2
   rw [qaC (by omega)] at e4
   exact .inl ⟨hs, k, B', u, rfl, e2, e3, e4, e5⟩
  ·rw [qaH (by omega)] at e2 e4
   have hk0 : k - hs.length = 0 := by have := (qaj.1 e4).1; simp at this; omega
   rw [hk0] at e4
   simp at e4
   subst e4
   exact .inr e5
 have lvi : ∀ b, jd (.fam Bs) (.tuple hs.toArray) b → Live s b := fun b hb => ql hi rfl hβi hb
 have lvj : ∀ b, hb h = some b → Live s b := fun b hb => ql hj (by rw [uy]; exact hl) hβj (blk_owns.2 hb)
 have ne : ∀ (k : Nat) kb, (s.M.set j .gone)[k]? = some kb → kb.live = true → j ≠ k ∧ s.M[k]? = some kb := fun k kb hkb hlv => by
  by_cases hk : j = k
  ·subst hk
   rw [qaz hjl] at hkb
   cases hkb; cases hlv
  ·rw [qav hk] at hkb; exact ⟨hk, hkb⟩
 refine kT ho i (s.M.set j .gone) _ _ s.w (by simp) (fun k kb hkb => ?_) hil (.inr (.inr ⟨hs, hs ++ [h], hβi, rfl, fun k u hu => ?_⟩)) (by simp) ⟨_, rfl, ?_⟩ (fun b hb k kb hh hne' q1 q2 q3 q4 => ?_) (fun b hb => .inr ((other b hb).elim (lvi b) (lvj b))) (fun b hb => (ho.lt b ((other b hb).elim (lvi b) (lvj b))).1) (fun _ => False) (fun _ h => h.elim) (fun _ _ _ _ => rfl) rfl rfl rfl (qaE _)
 ·by_cases hk : j = k
  ·subst hk
   rw [qaz hjl] at hkb
   exact .inr (qao hkb).symm
  ·rw [qav hk] at hkb; exact .inl hkb
 ·rw [qaC (qaj.1 hu).1]; exact hu
 ·have split : ∀ (k : Nat) B' u, (Bs ++ [B])[k]? = some B' → (hs ++ [h])[k]? = some u → (Bs[k]? = some B' ∧ hs[k]? = some u) ∨ (k = Bs.length ∧ B' = B ∧ u = h) := by
   intro k B' u e2 e4
   by_cases hk : k < Bs.length
   ·rw [qaC hk] at e2
    rw [qaC (by omega)] at e4
    exact .inl ⟨e2, e4⟩
   ·rw [qaH (by omega)] at e2 e4
    have hk0 : k - Bs.length = 0 := by have := (qaj.1 e2).1; simp at this; omega
    rw [show k - hs.length = 0 by omega] at e4
    rw [hk0] at e2
    simp at e2 e4
    exact .inr ⟨by omega, e2.symm, e4.symm⟩
  refine ⟨by simp [hlen], fun k B' u e2 e4 => ?_, fun k k' B1 B2 u1 u2 b e1 l1 e2 e3 f1 l2 f2 f3 => ?_⟩
  ·rcases split k B' u e2 e4 with ⟨a, c⟩ | ⟨_, rfl, rfl⟩
   ·exact hf.ok k B' u a c
   ·exact hm
  ·rcases split k B1 u1 e1 e2 with ⟨a, c⟩ | ⟨rfl, rfl, rfl⟩ <;> rcases split k' B2 u2 f1 f2 with ⟨a', c'⟩ | ⟨rfl, rfl, rfl⟩
   ·exact hf.inj k k' B1 B2 u1 u2 b a l1 c e3 a' l2 c' f3
   ·exact absurd (ho.inj i j _ _ _ _ b hi rfl hβi ⟨hs, k, B1, u1, rfl, a, l1, c, e3⟩ hj (by rw [uy]; exact hl) hβj (blk_owns.2 f3)) hne
   ·exact absurd (ho.inj i j _ _ _ _ b hi rfl hβi ⟨hs, k', B2, u2, rfl, a', l2, c', f3⟩ hj (by rw [uy]; exact hl) hβj (blk_owns.2 e3)) hne
   ·rfl
 ·obtain ⟨hjk, q1⟩ := ne k kb q1 q2
  rcases other b hb with h1 | h1
  ·exact hne' (ho.inj i k _ kb _ hh b hi rfl hβi h1 q1 q2 q3 q4).symm
  ·exact hjk (ho.inj j k _ kb _ hh b hj (by rw [uy]; exact hl) hβj (blk_owns.2 h1) q1 q2 q3 q4)
theorem Ab {s : St} (ho : Ok s) {j : Nat} (hj : s.M[j]? = some .hole) : Tr s ⟨s.β.set j (.tuple #[]), s.I, s.M.set j (.fam []), s.w⟩ := by
 have hjl : j < s.M.length := (qaj.1 hj).1
 have hβ : s.β[j]? = some .nilFunc := by
  have hjb : j < s.β.length := by rw [ho.len]; exact hjl
  have e : s.β[j]? = some s.β[j] := qak hjb
  have : s.β[j] = .nilFunc := ho.blk j .hole _ hj e
  rw [e, this]
 have no : ∀ b, ¬ jd (.fam []) (.tuple #[]) b := by
  rintro b ⟨hs, k, B, u, e1, e2, _⟩
  simp at e2
 exact kT ho j s.M (.tuple #[]) (.fam []) s.w rfl (fun i k h => .inl h) hjl (.inl hβ) (by simp) ⟨[], rfl, rfl, fun k B u h => by simp at h, fun k k' B B' u u' b h => by simp at h⟩ (fun b hb => (no b hb).elim) (fun b hb => (no b hb).elim) (fun b hb => (no b hb).elim) (fun _ => False) (fun _ h => h.elim) (fun _ _ _ _ => rfl) rfl rfl rfl (qaE _)
section
variable {P : Program} {s0 : St} {n : Cx}
theorem XT {F : Fr} {M : List Blk} {a : Act} {w : World} {j : Nat} (h : Inv s0 n F M a w) (hj : M[j]? = some .hole) : Inv s0 n F (M.set j (.fam [])) a w := by
 obtain ⟨h0, s, rfl, rfl, h3, h4, h5, h6⟩ := h
 have tt := Ab h3.ok hj
 exact ⟨h0, ⟨s.β.set j (.tuple #[]), s.I, s.M.set j (.fam []), s.w⟩, rfl, rfl, h3.trans tt, fun x d hd => (h4 x d hd).mono h3.ok tt, h5, h6.mono h3.ok tt⟩
theorem Qm {c : Code} {F : Fr} {M M' : List Blk} {K : Cont} (j : Nat) (hj : M[j]? = some .hole) (hM' : M.set j (.fam []) = M') (h : dwp P s0 n c F M' K) : dwp P s0 n c F M K := by
 subst hM'
 exact fun a w hi => h a w (XT hi hj)
end
end Go.Proofs.Ytofklkbfkoliiaa
namespace Go.Proofs.Ytofklkbfkoliiaa
set_option linter.unusedVariables false
set_option linter.unusedSimpArgs false
open Go.RowKit
section
variable {P : Program} {pc : Bool} {o : Oper} {F : Fr} {M : List Blk}
end
theorem u4 {α : Type} {σ : List Nat} {V : Nat → Bool} {M : List Blk} {f g : α → D} (h : ∀ a, vw σ V M (f a) = some (g a)) : ∀ l : List α, vwL σ V M (l.flatMap fun a => [f a]) = some (l.flatMap fun a => [g a])
 | [] => rfl
 | a :: l => by
  rw [qaD, qaD]
  show vwL σ V M (f a :: l.flatMap fun a => [f a]) = some (g a :: l.flatMap fun a => [g a])
  rw [vwL, h a, u4 h l]
theorem KA {α : Type} {τ : List Nat} {f g : α → D} (h : ∀ a, sb τ (f a) = some (g a)) : ∀ l : List α, sbL τ (l.flatMap fun a => [f a]) = some (l.flatMap fun a => [g a])
 | [] => rfl
 | a :: l => by
  rw [qaD, qaD]
  show sbL τ (f a :: l.flatMap fun a => [f a]) = some (g a :: l.flatMap fun a => [g a])
  rw [sbL, h a, KA h l]
theorem qy {α : Type} {σ : List Nat} {V : Nat → Bool} {M : List Blk} {T : TypeId} {n n' : Nat} {f g : α → D} {l l' : List α} (hn : n = n') (hl : l = l') (h : ∀ a, vw σ V M (f a) = some (g a)) : (vwL σ V M (l.flatMap fun a => [f a])).map (Blk.arx T 1 n) = some (Blk.arx T 1 n' (l'.flatMap fun a => [g a])) := by
 subst hn hl
 rw [u4 h]
 rfl
theorem kp {α : Type} {τ : List Nat} {T : TypeId} {n : Nat} {f g : α → D} {l : List α} (h : ∀ a, sb τ (f a) = some (g a)) : sbB τ (.arx T 1 n (l.flatMap fun a => [f a])) = some (.arx T 1 n (l.flatMap fun a => [g a])) := by
 show (sbL τ _).map _ = _
 rw [KA h]; rfl
theorem zu {α : Type} {σ : List Nat} {V : Nat → Bool} {M : List Blk} {f g : α → List D} (h : ∀ a, vwL σ V M (f a) = some (g a)) : ∀ l : List α, vwL σ V M (l.flatMap f) = some (l.flatMap g)
 | [] => rfl
 | a :: l => by
  have app : ∀ (a b a' b' : List D), vwL σ V M a = some a' → vwL σ V M b = some b' → vwL σ V M (a ++ b) = some (a' ++ b') := by
   intro a
   induction a with
   | nil => intro b a' b' h1 h2; rw [vwL] at h1; cases h1; exact h2
   | cons d a ih =>
    intro b a' b' h1 h2
    rw [vwL] at h1
    cases e1 : vw σ V M d with
    | none => rw [e1] at h1; simp at h1
    | some d1 =>
     cases e2 : vwL σ V M a with
     | none => rw [e1, e2] at h1; simp at h1
     | some a1 =>
      rw [e1, e2] at h1
      obtain rfl := qao h1
      rw [qas, vwL, e1, ih b a1 b' e2 h2]
      rfl
  rw [qaD, qaD]
  exact app _ _ _ _ (h a) (zu h l)
theorem zw {α : Type} {τ : List Nat} {f g : α → List D} (h : ∀ a, sbL τ (f a) = some (g a)) : ∀ l : List α, sbL τ (l.flatMap f) = some (l.flatMap g)
 | [] => rfl
 | a :: l => by
  have app : ∀ (a b a' b' : List D), sbL τ a = some a' → sbL τ b = some b' → sbL τ (a ++ b) = some (a' ++ b') := by
   intro a
   induction a with
   | nil => intro b a' b' h1 h2; rw [sbL] at h1; cases h1; exact h2
   | cons d a ih =>
    intro b a' b' h1 h2
    rw [sbL] at h1
    cases e1 : sb τ d with
    | none => rw [e1] at h1; simp at h1
    | some d1 =>
     cases e2 : sbL τ a with
     | none => rw [e1, e2] at h1; simp at h1
     | some a1 =>
      rw [e1, e2] at h1
      obtain rfl := qao h1
      rw [qas, sbL, e1, ih b a1 b' e2 h2]
      rfl
  rw [qaD, qaD]
  exact app _ _ _ _ (h a) (zw h l)
theorem kB {α : Type} {σ : List Nat} {V : Nat → Bool} {M : List Blk} {T : TypeId} {sz n n' : Nat} {f g : α → List D} {l l' : List α} (hn : n = n') (hl : l = l') (h : ∀ a, vwL σ V M (f a) = some (g a)) : (vwL σ V M (l.flatMap f)).map (Blk.arx T sz n) = some (Blk.arx T sz n' (l'.flatMap g)) := by
 subst hn hl
 rw [zu h]; rfl
theorem kr {α : Type} {τ : List Nat} {T : TypeId} {sz n : Nat} {f g : α → List D} {l : List α} (h : ∀ a, sbL τ (f a) = some (g a)) : sbB τ (.arx T sz n (l.flatMap f)) = some (.arx T sz n (l.flatMap g)) := by
 show (sbL τ _).map _ = _
 rw [zw h]; rfl
section
variable {P : Program} {pc : Bool} {o : Oper} {F : Fr} {M : List Blk}
end
end Go.Proofs.Ytofklkbfkoliiaa
namespace Go.Proofs.Ytofklkbfkoliiaa
set_option linter.unusedVariables false
set_option linter.unusedSimpArgs false
open Go.RowKit
section
variable {P : Program} {pc : Bool} {o : Oper} {F : Fr} {M : List Blk}
theorem uz {T T' : TypeId} {x : Operand} {i p k : Nat} {l R : List D} (ho : o.op = .load T x) (hT : tyB P T = some (true, k)) (hx : Ev pc F x (.loc i p)) (hM : M[i]? = some (.mix T' l)) (hR : (l.drop p).take k = R) (hl : R.length = k) : DOp P pc o F M [i] (.agg R) [] := by
 intro hp a s hok hops hfp
 have hr := qo hp hx (by simp [ho, Op.operands]) hops
 generalize hv : a.eval x = vx at hr
 cases hr with
 | @loc _ _ b h =>
  obtain ⟨b', vs, e1, e2, e3, e4⟩ := hok.blk i _ _ (by rw [hfp i (by simp)]; exact hM) h
  cases e1
  have hlen : ((vs.drop p).take k).length = R.length := by
   rw [← hR, qaN, qaR, qaN, qaR, e3]
  have hc : qZ s.w b 0 vs := qh e2 0
  have hr := jn hc p k rfl
  rw [qal] at hr
  refine qN hok (jz ho hT hv hr (by omega)) (.agg hlen fun j d v h1 h2 => ?_)
  rw [← hR] at h1
  rcases Nat.lt_or_ge j k with hjk | hjk
  ·rw [List.getElem?_take, if_pos hjk, qa2] at h1 h2
   exact e4 _ _ _ h1 h2
  ·rw [List.getElem?_take, if_neg (by omega)] at h1
   cases h1
end
theorem XU {s : St} (ho : Ok s) (i : Nat) : Tr s ⟨s.β, s.I, s.M.set i .gone, s.w⟩ := by
 have hnd : ∀ (i : Nat) h, s.β[i]? = some h → h ≠ .nilFunc → s.β[i]? = some h := fun _ _ h _ => h
 have old : ∀ (j : Nat) k, (s.M.set i .gone)[j]? = some k → k = .gone ∨ s.M[j]? = some k := fun j k hj => by
  by_cases e : i = j
  ·subst e
   by_cases hl : i < s.M.length
   ·rw [qaz hl] at hj
    exact .inl (qao hj).symm
   ·rw [qaT (by simp; omega)] at hj; cases hj
  ·rw [qav e] at hj; exact .inr hj
 have lv : ∀ b, Live ⟨s.β, s.I, s.M.set i .gone, s.w⟩ b → Live s b := by
  rintro b ⟨j, k, h, h1, h2, h3, h4⟩
  rcases old j k h1 with rfl | h1
  ·cases h2
  ·exact ql h1 h2 h3 h4
 refine ⟨⟨by simp [ho.len], fun j k h h1 h2 => ?_, fun b hb => ho.lt b (lv b hb), ?_, ho.il⟩, jC hnd, fun _ h => h, fun _ h => .inl h, fun _ _ _ => rfl, fun b h => .inr (lv b h), rfl, rfl, rfl, qaE _⟩
 ·rcases old j k h1 with rfl | h1
  ·trivial
  ·exact BlkOk.mono (s := s) (s' := ⟨s.β, s.I, s.M.set i .gone, s.w⟩) hnd (fun _ h => h) (fun _ _ => rfl) (ho.blk j k h h1 h2) (fun _ _ _ => rfl)
 ·intro j j2 k k2 x x2 b a1 a2 a3 a4 c1 c2 c3 c4
  rcases old j k a1 with rfl | a1
  ·cases a2
  ·rcases old j2 k2 c1 with rfl | c1
   ·cases c2
   ·exact ho.inj j j2 k k2 x x2 b a1 a2 a3 a4 c1 c2 c3 c4
theorem Ge {s : St} (ho : Ok s) {j sz n : Nat} {T : TypeId} {L : List Value} {v : Value} (hM : s.M[j]? = some (.arr T sz n L)) (hr : Rep s (.arr j) v) : ∃ I' : Nat → Prop, Tr s ⟨s.β, I', s.M.set j .gone, s.w⟩ ∧ Rep ⟨s.β, I', s.M.set j .gone, s.w⟩ (.slf sz n L) v := by
 cases hr with
 | @arr _ ad n' c hβ =>
  have hk : s.w.ownsRow 0 T sz _ n L := ho.blk j _ _ hM hβ
  rcases hk.2 with ⟨e1, e2⟩ | ⟨g, cap, cur, e1, e2, e3, e4, e5, e6, e7⟩
  ·cases e1; subst e2
   exact ⟨s.I, XU ho j, .slf hk.1 (qaE _) (qaZ _) (fun _ => rfl) (.inl (qaL (by simpa using hk.1)))⟩
  ·cases e1
   refine ⟨fun b => s.I b ∨ b = g, Qf ho hM rfl hβ rfl s.w (fun _ _ => rfl) rfl rfl rfl rfl, .slf hk.1 e4 e5 (fun e => by cases e) (.inr ⟨g, 0, rfl, .inr rfl, ?_⟩)⟩
   have hc := qM (qh e3 0) 0 (n * sz)
   show qZ s.w g 0 L
   simpa [e7] using hc
theorem DGives.map {P : Program} {s : St} {post post' : St → Value → Prop} {r : Result Next} (h : DGives P s post r) (f : ∀ s' v, Ok s' → post s' v → ∃ s'', s''.w = s'.w ∧ Tr s' s'' ∧ post' s'' v) : DGives P s post' r := by
 have key : ∀ {w' : World} {v : Value}, (∃ s', s'.w = w' ∧ Tr s s' ∧ post s' v) → ∃ s', s'.w = w' ∧ Tr s s' ∧ post' s' v := by
  rintro w' v ⟨s', rfl, a2, a3⟩
  obtain ⟨s'', b1, b2, b3⟩ := f s' v a2.ok a3
  exact ⟨s'', b1, a2.trans b2, b3⟩
 cases r with
 | halt x w' => exact h
 | ok nx w' =>
  cases nx with
  | value v => exact key h
  | skip => exact key h
  | enter g args =>
   refine ⟨h.1, h.2.mono ?_⟩
   rintro e w'' ⟨s', v, b1, b2, b3, b4⟩
   obtain ⟨s'', c1, c2, c3⟩ := key ⟨s', b2, b3, b4⟩
   exact ⟨s'', v, b1, c1, c2, c3⟩
  | round l f tmps asg body =>
   refine ⟨h.1, h.2.mono ?_⟩
   rintro e w'' ⟨s', v, b1, b2, b3, b4⟩
   obtain ⟨s'', c1, c2, c3⟩ := key ⟨s', b2, b3, b4⟩
   exact ⟨s'', v, b1, c1, c2, c3⟩
  | _ => exact h
section
variable {P : Program} {s0 : St} {n : Cx}
theorem Vm {F : Fr} {M : List Blk} {a : Act} {w : World} {t i : Nat} {e : TypeId} {sz m : Nat} {L : List Value} (h : Inv s0 n F M a w) (ht : lk F t = some (.arr i)) (hM : M[i]? = some (.arr e sz m L)) : Inv s0 n ((t, .slf sz m L) :: F) (M.set i .gone) a w := by
 obtain ⟨h0, s, rfl, rfl, h3, h4, h5, h6⟩ := h
 obtain ⟨I', tt, r1⟩ := Ge h3.ok hM (h4 t _ ht)
 refine ⟨h0, ⟨s.β, I', s.M.set i .gone, s.w⟩, rfl, rfl, h3.trans tt, fun x d hd => ?_, h5, h6.mono h3.ok tt⟩
 rw [jI] at hd
 split at hd
 ·rename_i e'
  subst e'
  obtain rfl := qao hd
  exact r1
 ·exact (h4 x d hd).mono h3.ok tt
theorem Vn {c : Code} {F : Fr} {M M' : List Blk} {K : Cont} (t : Nat) {i : Nat} {e : TypeId} {sz m : Nat} {L : List Value} (ht : lk F t = some (.arr i)) (hM : M[i]? = some (.arr e sz m L)) (hM' : M.set i .gone = M') (h : dwp P s0 n c ((t, .slf sz m L) :: F) M' K) : dwp P s0 n c F M K := by
 subst hM'
 exact fun a w hi => h a w (Vm hi ht hM)
end
theorem WU {s : St} (ho : Ok s) {i j k : Nat} {Bs : List Mem} {B : Mem} {hs : List Value} {u : Value} (hi : s.M[i]? = some (.fam Bs)) (hj : s.M[j]? = some .hole) (hB : Bs[k]? = some B) (hl : B.live = true) (hβi : s.β[i]? = some (.tuple hs.toArray)) (hu : hs[k]? = some u) :
  Tr s ⟨s.β.set j u, s.I, (s.M.set i (.fam (Bs.set k .gone))).set j B.blk, s.w⟩ := by
 have hne : i ≠ j := fun e => by subst e; rw [hi] at hj; cases hj
 have hil := (qaj.1 hi).1
 have hjl := (qaj.1 hj).1
 have hkl := (qaj.1 hB).1
 have hf := xW (k := 0) ho hi hβi
 have hβj : s.β[j]? = some .nilFunc := by
  have hjb : j < s.β.length := by rw [ho.len]; exact hjl
  have e : s.β[j]? = some s.β[j] := qak hjb
  have : s.β[j] = .nilFunc := ho.blk j .hole _ hj e
  rw [e, this]
 have hnd : ∀ (x : Nat) h, s.β[x]? = some h → h ≠ .nilFunc → (s.β.set j u)[x]? = some h := fun x h hx hn => by
  by_cases e : j = x
  ·subst e; rw [hβj] at hx; exact absurd (qao hx).symm hn
  ·rw [qav e]; exact hx
 have oldM : ∀ (x : Nat) kk, ((s.M.set i (.fam (Bs.set k .gone))).set j B.blk)[x]? = some kk → (x = j ∧ kk = B.blk) ∨ (x = i ∧ kk = .fam (Bs.set k .gone)) ∨ (x ≠ j ∧ x ≠ i ∧ s.M[x]? = some kk) := fun x kk h => by
  by_cases e : j = x
  ·subst e
   rw [qaz (by simpa using hjl)] at h
   exact .inl ⟨rfl, (qao h).symm⟩
  ·rw [qav e] at h
   by_cases e2 : i = x
   ·subst e2
    rw [qaz hil] at h
    exact .inr (.inl ⟨rfl, (qao h).symm⟩)
   ·rw [qav e2] at h
    exact .inr (.inr ⟨Ne.symm e, Ne.symm e2, h⟩)
 have oldβ : ∀ (x : Nat) hh, (s.β.set j u)[x]? = some hh → (x = j ∧ hh = u) ∨ (x ≠ j ∧ s.β[x]? = some hh) := fun x hh h => by
  by_cases e : j = x
  ·subst e
   rw [qaz (by rw [ho.len]; exact hjl)] at h
   exact .inl ⟨rfl, (qao h).symm⟩
  ·rw [qav e] at h
   exact .inr ⟨Ne.symm e, h⟩
 have cls : ∀ (x : Nat) kk hh b, ((s.M.set i (.fam (Bs.set k .gone))).set j B.blk)[x]? = some kk → kk.live = true → (s.β.set j u)[x]? = some hh → jd kk hh b →
   (x = j ∧ hb u = some b) ∨ (x = i ∧ ∃ (k' : Nat) (B' : Mem) (u' : Value), k' ≠ k ∧ Bs[k']? = some B' ∧ B'.live = true ∧ hs[k']? = some u' ∧ hb u' = some b) ∨ (x ≠ j ∧ x ≠ i ∧ s.M[x]? = some kk ∧ s.β[x]? = some hh) := by
  intro x kk hh b a1 a2 a3 a4
  rcases oldM x kk a1 with ⟨rfl, rfl⟩ | ⟨rfl, rfl⟩ | ⟨n1, n2, a1⟩
  ·rcases oldβ _ hh a3 with ⟨_, rfl⟩ | ⟨n, _⟩
   ·exact .inl ⟨rfl, blk_owns.1 a4⟩
   ·exact absurd rfl n
  ·rcases oldβ _ hh a3 with ⟨e, _⟩ | ⟨_, a3⟩
   ·exact absurd e hne
   ·rw [hβi] at a3
    obtain rfl := qao a3
    obtain ⟨hs', k', B', u', e1, e2, e3, e4, e5⟩ := a4
    have e1 : hs = hs' := by simpa using e1
    subst e1
    by_cases e : k = k'
    ·subst e
     rw [qaz hkl] at e2
     obtain rfl := qao e2
     cases e3
    ·rw [qav e] at e2
     exact .inr (.inl ⟨rfl, k', B', u', Ne.symm e, e2, e3, e4, e5⟩)
  ·rcases oldβ _ hh a3 with ⟨e, _⟩ | ⟨_, a3⟩
   ·exact absurd e n1
   ·exact .inr (.inr ⟨n1, n2, a1, a3⟩)
 have fo : ∀ (k' : Nat) (B' : Mem) (u' : Value) (b : Nat), Bs[k']? = some B' → B'.live = true → hs[k']? = some u' → hb u' = some b → jd (.fam Bs) (.tuple hs.toArray) b := fun k' B' u' b e2 e3 e4 e5 => ⟨hs, k', B', u', rfl, e2, e3, e4, e5⟩
 have lv : ∀ b, Live ⟨s.β.set j u, s.I, (s.M.set i (.fam (Bs.set k .gone))).set j B.blk, s.w⟩ b → Live s b := by
  rintro b ⟨x, kk, hh, a1, a2, a3, a4⟩
  rcases cls x kk hh b a1 a2 a3 a4 with ⟨_, e⟩ | ⟨_, k', B', u', _, e2, e3, e4, e5⟩ | ⟨_, _, a1, a3⟩
  ·exact ql hi rfl hβi (fo k B u b hB hl hu e)
  ·exact ql hi rfl hβi (fo k' B' u' b e2 e3 e4 e5)
  ·exact ql a1 a2 a3 a4
 refine ⟨⟨by simp [ho.len], fun x kk hh h1 h2 => ?_, fun b hb => ho.lt b (lv b hb), ?_, ho.il⟩, jC hnd, fun _ h => h, fun _ h => .inl h, fun _ _ _ => rfl, fun b h => .inr (lv b h), rfl, rfl, rfl, qaE _⟩
 ·rcases oldM x kk h1 with ⟨rfl, rfl⟩ | ⟨rfl, rfl⟩ | ⟨n1, n2, h1⟩
  ·rcases oldβ _ hh h2 with ⟨_, rfl⟩ | ⟨n, _⟩
   ·have hm := hf.ok k B hh hB hu
    cases B <;> exact hm
   ·exact absurd rfl n
  ·rcases oldβ _ hh h2 with ⟨e, _⟩ | ⟨_, h2⟩
   ·exact absurd e hne
   ·rw [hβi] at h2
    obtain rfl := qao h2
    refine ⟨hs, rfl, ⟨by rw [List.length_set]; exact hf.len, fun k' B' u' e2 e4 => ?_, fun k1 k2 B1 B2 u1 u2 b e1 l1 e2 e3 f1 l2 f2 f3 => ?_⟩⟩
    ·by_cases e : k = k'
     ·subst e
      rw [qaz hkl] at e2
      obtain rfl := qao e2
      trivial
     ·rw [qav e] at e2
      exact hf.ok k' B' u' e2 e4
    ·have un : ∀ (q : Nat) Q, (Bs.set k .gone)[q]? = some Q → Q.live = true → Bs[q]? = some Q := fun q Q g1 g2 => by
      by_cases e : k = q
      ·subst e
       rw [qaz hkl] at g1
       obtain rfl := qao g1
       cases g2
      ·rw [qav e] at g1; exact g1
     exact hf.inj k1 k2 B1 B2 u1 u2 b (un k1 B1 e1 l1) l1 e2 e3 (un k2 B2 f1 l2) l2 f2 f3
  ·rcases oldβ _ hh h2 with ⟨e, _⟩ | ⟨_, h2⟩
   ·exact absurd e n1
   ·exact BlkOk.mono (s := s) (s' := ⟨s.β.set j u, s.I, (s.M.set i (.fam (Bs.set k .gone))).set j B.blk, s.w⟩) hnd (fun _ h => h) (fun _ _ => rfl) (ho.blk x kk hh h1 h2) (fun _ _ _ => rfl)
 ·intro x x2 kk kk2 y y2 b a1 a2 a3 a4 c1 c2 c3 c4
  rcases cls x kk y b a1 a2 a3 a4 with ⟨ex, e⟩ | ⟨ex, k', B', u', n', e2, e3, e4, e5⟩ | ⟨m1, m2, a1, a3⟩ <;> rcases cls x2 kk2 y2 b c1 c2 c3 c4 with ⟨fx, f⟩ | ⟨fx, k2, B2, u2, n2, f2, f3, f4, f5⟩ | ⟨p1, p2, c1, c3⟩
  ·exact ex.trans fx.symm
  ·exact absurd (hf.inj k k2 B B2 u u2 b hB hl hu e f2 f3 f4 f5).symm n2
  ·exact absurd (ho.inj i x2 _ kk2 _ y2 b hi rfl hβi (fo k B u b hB hl hu e) c1 c2 c3 c4).symm p2
  ·exact absurd (hf.inj k k' B B' u u' b hB hl hu f e2 e3 e4 e5).symm n'
  ·exact ex.trans fx.symm
  ·exact absurd (ho.inj i x2 _ kk2 _ y2 b hi rfl hβi (fo k' B' u' b e2 e3 e4 e5) c1 c2 c3 c4).symm p2
  ·exact absurd (ho.inj i x _ kk _ y b hi rfl hβi (fo k B u b hB hl hu f) a1 a2 a3 a4).symm m2
  ·exact absurd (ho.inj i x _ kk _ y b hi rfl hβi (fo k2 B2 u2 b f2 f3 f4 f5) a1 a2 a3 a4).symm m2
  ·exact ho.inj x x2 kk kk2 y y2 b a1 a2 a3 a4 c1 c2 c3 c4
section
variable {P : Program} {s0 : St} {n : Cx}
theorem XV {F : Fr} {M : List Blk} {a : Act} {w : World} {t i j k : Nat} {e : TypeId} {sz m : Nat} {L : List Value} {Bs : List Mem} (h : Inv s0 n F M a w) (ht : lk F t = some (.farr i k)) (hi : M[i]? = some (.fam Bs)) (hB : Bs[k]? = some (.arr e sz m L)) (hj : M[j]? = some .hole) : Inv s0 n ((t, .arr j) :: F) ((M.set i (.fam (Bs.set k .gone))).set j (.arr e sz m L)) a w := by
 obtain ⟨h0, s, rfl, rfl, h3, h4, h5, h6⟩ := h
 have hlen := h3.ok.len
 have hil := (qaj.1 hi).1
 have hjl := (qaj.1 hj).1
 obtain ⟨x, hx⟩ : ∃ x, s.β[i]? = some x := ⟨_, qak (by omega)⟩
 obtain ⟨hs, rfl, hfo⟩ := h3.ok.blk i _ x hi hx
 have hkl := (qaj.1 hB).1
 obtain ⟨u, hu⟩ : ∃ u, hs[k]? = some u := ⟨_, qak (by rw [hfo.len]; exact hkl)⟩
 have tt := WU (B := .arr e sz m L) h3.ok hi hj hB rfl hx hu
 refine ⟨h0, ⟨s.β.set j u, s.I, (s.M.set i (.fam (Bs.set k .gone))).set j (.arr e sz m L), s.w⟩, rfl, rfl, h3.trans tt, fun z d hd => ?_, h5, h6.mono h3.ok tt⟩
 rw [jI] at hd
 split at hd
 ·rename_i e'
  subst e'
  obtain rfl := qao hd
  have hr := h4 t _ ht
  show Rep _ _ (jf a t)
  generalize hv : jf a t = v at hr
  cases hr with
  | @farr _ _ ad n' c hs' g1 g2 =>
   rw [hx] at g1
   have e1 : hs = hs' := by simpa using g1
   subst e1
   rw [hu] at g2
   obtain rfl := qao g2
   exact .arr (by show (s.β.set j _)[j]? = _; rw [qaz (by rw [hlen]; exact hjl)])
 ·exact (h4 z d hd).mono h3.ok tt
theorem XW {c : Code} {F : Fr} {M M' : List Blk} {K : Cont} (t i : Nat) {j k : Nat} {e : TypeId} {sz m : Nat} {L : List Value} {Bs : List Mem} (ht : lk F t = some (.farr i k)) (hi : M[i]? = some (.fam Bs)) (hB : Bs[k]? = some (.arr e sz m L)) (hj : M[j]? = some .hole) (hM' : (M.set i (.fam (Bs.set k .gone))).set j (.arr e sz m L) = M') (h : dwp P s0 n c ((t, .arr j) :: F) M' K) : dwp P s0 n c F M K := by
 subst hM'
 exact fun a w hh => h a w (XV hh ht hi hB hj)
end
end Go.Proofs.Ytofklkbfkoliiaa
namespace Go.Proofs.Ytofklkbfkoliiaa
set_option linter.unusedVariables false
set_option linter.unusedSimpArgs false
open Go.RowKit
section
variable {P : Program} {pc : Bool} {o : Oper} {F : Fr} {M : List Blk}
theorem Jh {α : Type} {g : α → D} {l : List α} {q : α} {T T' : TypeId} {x y : Operand} {i j n : Nat} {rw' : Bool} (ho : o.op = .store T x y) (hT : tyB P T = some (rw', 1)) (hx : Ev pc F x (.aloc i (j * 1))) (hy : Ev pc F y (g q)) (hM : M[i]? = some (.arx T' 1 n (l.flatMap fun a => [g a]))) (hj : j < l.length) (h1 : ∀ (s : St) v, Rep s (g q) v → v.cells = #[v] ∧ v.oneCell' = true) :
  DOp P pc o F M [i] .junk [(i, .arx T' 1 n ((l.set j q).flatMap fun a => [g a]))] := by
 have hmk : ∀ a, ((fun a => [g a]) a).length = 1 := fun _ => rfl
 have hmq0 : (fun a => [g a]) q = [g q] := rfl
 generalize hsz : (1 : Nat) = sz at hT hx hM hmk ⊢
 generalize (fun a => [g a]) = mk at hM hmk hmq0 ⊢
 intro hp a s hok hops hfp
 have hr := qo hp hx (by simp [ho, Op.operands]) hops
 have hry := qo hp hy (by simp [ho, Op.operands]) hops
 have hM' : s.M[i]? = some (.arx T' sz n (l.flatMap mk)) := by rw [hfp i (by simp)]; exact hM
 generalize hv : a.eval x = vx at hr
 generalize hvy : a.eval y = vy at hry
 cases hr with
 | @aloc _ _ n' c b h =>
  obtain ⟨hcel, hone⟩ := h1 s vy hry
  obtain ⟨us, hus⟩ : ∃ us, us = [vy] := ⟨_, rfl⟩
  have hul : us.length = (mk q).length := by rw [hus, hmq0]; rfl
  have hu : ∀ (p : Nat) d v, (mk q)[p]? = some d → us[p]? = some v → Rep s d v := fun p d v g1 g2 => by
   rw [hmq0] at g1
   rw [hus] at g2
   match p, g1, g2 with
   | 0, g1, g2 => cases g1; cases g2; exact hry
  have hC : vy.cells.toList = us := by rw [hcel, hus]
  have hoc0 : ∀ u ∈ us, u.oneCell' = true := fun u hu' => by
   rw [hus] at hu'
   obtain rfl := List.mem_singleton.1 hu'
   exact hone
  ·skip
   obtain ⟨vs, hk, q3, q4⟩ := hok.blk i _ _ hM' h
   rcases hk.2 with ⟨e1, e2⟩ | ⟨g, cap, cur, e1, e2, e3, e4, e5, e6, e7⟩
   ·cases e1
   ·cases e1
    have hflat : (l.flatMap mk).length = l.length * sz := wQ hmk l
    have hle := qa1 sz e4
    have hjs : (j + 1) * sz ≤ l.length * sz := qa1 _ hj
    rw [qa8] at hjs
    have hlV := hk.1
    have husz : us.length = sz := by rw [hul, hmk]
    have hcell := qh e3 0
    have hoc := hoc0
    have hcurlen : cur.toList.length = c * sz := by simpa using e6
    have hrun := ym (P := P) (w := s.w) (C := us) ho hT hv hvy hC husz (fun p hp' => by
      have := hcell (j * sz + p) _ (by simpa using qak (by simp at hcurlen ⊢; omega : j * sz + p < cur.toList.length))
      rw [qal] at this
      rw [this]; rfl) (fun p hp' => by simp [World.frozen?, e3]) hoc
    have hβ : s.β.set i (.slice (some ⟨b, 0, none⟩) n c) = s.β := by
     apply qa9
     intro k
     by_cases e : i = k
     ·subst e; rw [qaz (qaj.1 h).1, h]
     ·rw [qav e]
    have lift : ∀ {e : D} {v : Value}, Rep s e v → Rep ⟨s.β.set i (.slice (some ⟨b, 0, none⟩) n c), s.I, s.M.set i (.arx T' sz n ((l.set j q).flatMap mk)), s.w.setCells b (j * sz) us⟩ e v := by
     intro e v hr
     refine Rep.mono' (s := s) (s' := ⟨s.β.set i (.slice (some ⟨b, 0, none⟩) n c), s.I, s.M.set i (.arx T' sz n ((l.set j q).flatMap mk)), s.w.setCells b (j * sz) us⟩) (fun k x hk _ => by show (s.β.set i _)[k]? = _; rw [hβ]; exact hk) (fun _ h => h) (fun b' hI => ja b _ _ s.w b' fun e => ?_) hr
     subst e
     exact (hok.lt b' (ql hM' rfl h rfl)).2 hI
    refine y9 (s' := ⟨s.β.set i (.slice (some ⟨b, 0, none⟩) n c), s.I, s.M.set i (.arx T' sz n ((l.set j q).flatMap mk)), s.w.setCells b (j * sz) us⟩) hrun (yx hok hM' rfl h rfl _ us ?_) rfl
    have hsl := gS us cur.toList (j * sz)
    refine ⟨jL vs (j * sz) us, ⟨by rw [gS]; exact hlV, .inr ⟨b, c, (jL cur.toList (j * sz) us).toArray, rfl, e2, kV b us _ s.w cur.toList T' (by simpa using e3), e4, e5, by simp [hsl]; simpa using e6, ?_⟩⟩, ?_, ?_⟩
    ·rw [gm us cur.toList _ (by omega), gm us vs _ (by omega)]
     have hcut : cur.toList = vs ++ cur.toList.drop vs.length := by
      have := List.take_append_drop (n * sz) cur.toList
      rw [e7, ← hlV] at this
      exact this.symm
     generalize cur.toList.drop vs.length = R at hcut
     rw [hcut]
     have t1 : (vs ++ R).take (j * sz) = vs.take (j * sz) := List.take_append_of_le_length (by omega)
     have t2 : (vs ++ R).drop (j * sz + us.length) = vs.drop (j * sz + us.length) ++ R := List.drop_append_of_le_length (by omega)
     rw [t1, t2, ← hlV, ← qaQ]
     refine List.take_left' ?_
     simp; omega
    ·rw [gS, q3, hflat, wQ hmk, List.length_set]
    ·have key : ((l.set j q).flatMap mk) = (l.flatMap mk).take (j * sz) ++ mk q ++ (l.flatMap mk).drop (j * sz + sz) := by
      rw [zt hmk, show j * sz + sz = (j + 1) * sz by rw [qa8], wO hmk, List.set_eq_take_append_cons_drop, if_pos hj, List.flatMap_append, qaD, qaQ]
     rw [key, gm us vs _ (by omega), husz]
     have hA : Reps ⟨s.β.set i (.slice (some ⟨b, 0, none⟩) n c), s.I, s.M.set i (.arx T' sz n ((l.flatMap mk).take (j * sz) ++ mk q ++ (l.flatMap mk).drop (j * sz + sz))), s.w.setCells b (j * sz) us⟩ ((l.flatMap mk).take (j * sz) ++ mk q ++ (l.flatMap mk).drop (j * sz + sz)) (vs.take (j * sz) ++ us ++ vs.drop (j * sz + sz)) := by
      rw [key] at lift
      refine uZ (uZ ⟨by simp [q3], fun p d v g1 g2 => ?_⟩ ⟨hul, fun p d v g1 g2 => lift (hu p d v g1 g2)⟩) ⟨by simp [q3], fun p d v g1 g2 => ?_⟩
      ·rw [List.getElem?_take] at g1 g2
       split at g1
       ·rename_i hp'
        rw [if_pos hp'] at g2
        exact lift (q4 p d v g1 g2)
       ·cases g1
      ·rw [qa2] at g1 g2
       exact lift (q4 _ d v g1 g2)
     exact hA.2
end
section
variable {P : Program} {s0 : St} {n : Cx}
end
end Go.Proofs.Ytofklkbfkoliiaa
namespace Go.Proofs.Ytofklkbfkoliiaa
set_option linter.unusedVariables false
set_option linter.unusedSimpArgs false
open Go.RowKit
theorem KB : ∀ (ks : List Int) (vs : List Value) (o : Nat) (k : Int) (v : Value), vs.length = ks.length → gg o (ks ++ [k]) (vs ++ [v]) = gg o ks vs ++ [{ key := .int .i64 k, val := v, born := o + ks.length }]
 | [], [], o, k, v, _ => rfl
 | [], _ :: _, o, k, v, h => by simp at h
 | _ :: _, [], o, k, v, h => by simp at h
 | a :: ks, b :: vs, o, k, v, h => by
  rw [qas, qas, gg, gg, KB ks vs (o + 1) k v (by simpa using h), qaI, qas, show o + 1 + ks.length = o + (ks.length + 1) by omega]
theorem zx {kd : IntKind} {k : Int} : ∀ (ks : List Int) (vs : List Value) (o i : Nat), k ∉ ks → Instr.findNow (.int kd) (.int .i64 k) (gg o ks vs) i = some none
 | [], _, o, i, _ => by simp [gg, Instr.findNow]
 | _ :: _, [], o, i, _ => by simp [gg, Instr.findNow]
 | a :: ks, b :: vs, o, i, h => by
  have h1 : k ≠ a := fun e => h (by simp [e])
  rw [gg, Instr.findNow]
  have : Instr.sameNow (.int kd) (.int .i64 k) (.int .i64 a) = some false := by simp [Instr.sameNow, h1]
  rw [this]
  exact zx ks vs (o + 1) (i + 1) fun e => h (qaX _ e)
theorem KC {kd : IntKind} {k : Int} : ∀ (ks : List Int) (vs : List Value) (o i j : Nat) (v : Value), ks.Nodup → ks[j]? = some k → vs[j]? = some v → Instr.findNow (.int kd) (.int .i64 k) (gg o ks vs) i = some (some (i + j, v))
 | [], _, o, i, j, v, _, h, _ => by simp at h
 | _ :: _, [], o, i, j, v, _, _, h => by simp at h
 | a :: ks, b :: vs, o, i, j, v, hn, h, hv => by
  rw [gg, Instr.findNow]
  cases j with
  | zero =>
   simp at h hv
   subst h
   subst hv
   have : Instr.sameNow (.int kd) (.int .i64 a) (.int .i64 a) = some true := by simp [Instr.sameNow]
   rw [this]
   rfl
  | succ j =>
   simp at h hv
   obtain ⟨n1, n2⟩ := List.nodup_cons.1 hn
   have h1 : k ≠ a := fun e => n1 (e ▸ qa0 h)
   have : Instr.sameNow (.int kd) (.int .i64 k) (.int .i64 a) = some false := by simp [Instr.sameNow, h1]
   rw [this]
   have := KC (kd := kd) ks vs (o + 1) (i + 1) j v n2 h hv
   rw [show i + 1 + j = i + (j + 1) by omega] at this
   exact this
theorem zy {α : Type} {σ : List Nat} {V : Nat → Bool} {M : List Blk} {ks ks' : List Int} {f g : α → D} {l l' : List α} (hn : ks = ks') (hl : l = l') (h : ∀ a, vw σ V M (f a) = some (g a)) : (vwL σ V M (l.flatMap fun a => [f a])).map (Blk.mpd ks) = some (Blk.mpd ks' (l'.flatMap fun a => [g a])) := by
 subst hn hl
 rw [u4 h]
 rfl
def Gf (P : Program) (K : TypeId) : Option IntKind := match P.underlying K with
 | some (.int k) => some k
 | _ => none
theorem wl {P : Program} {K : TypeId} {kd : IntKind} (h : Gf P K = some kd) : P.underlying K = some (.int kd) := by
 unfold Gf at h
 split at h
 ·rename_i e h1; cases h; exact h1
 ·cases h
theorem chkI {P : Program} {K : TypeId} {kd : IntKind} (hK : Gf P K = some kd) (e : Bool) (k : Int) (w : World) : ∀ n : Nat, (Instr.checkKey e (n + 1) K (.int .i64 k)).run P w = .ok () w := fun n => by
 simp [Instr.checkKey, run_underlying (wl hK)]
section
variable {P : Program} {K E T : TypeId} {pc : Bool} {o : Oper} {F : Fr} {M : List Blk} {x y z : Operand}
theorem Ac {s : St} (ho : Ok s) {i b : Nat} {ks ks' : List Int} {l l' : List D} {vs' : List Value} (hM : s.M[i]? = some (.mpd ks l)) (hβ : s.β[i]? = some (.map (some b))) (hl : vs'.length = l'.length ∧ ks'.length = l'.length) (hr : ∀ (j : Nat) d v, l'[j]? = some d → vs'[j]? = some v → Rep s d v) :
  Tr s ⟨s.β, s.I, s.M.set i (.mpd ks' l'), s.w.putObj b (.map (gg 0 ks' vs').toArray ks'.length)⟩ := by
 have hil : i < s.M.length := (qaj.1 hM).1
 have hlv : Live s b := ql hM rfl hβ rfl
 have hbl := (ho.lt b hlv).1
 have e : s.β.set i (.map (some b)) = s.β := by
  have : s.β[i]'((qaj.1 hβ).1) = .map (some b) := (qaj.1 hβ).2
  rw [← this, List.set_getElem_self]
 have := kT ho i s.M (.map (some b)) (.mpd ks' l') (s.w.putObj b (.map (gg 0 ks' vs').toArray ks'.length)) rfl (fun _ _ h => .inl h) hil (.inr (.inl hβ)) (by simp)
  ⟨b, vs', rfl, World.putObj_heap_same hbl, hl, fun j d v g1 g2 => Rep.mono' (s := s) (s' := ⟨s.β.set i (.map (some b)), s.I, s.M.set i (.mpd ks' l'), s.w.putObj b (.map (gg 0 ks' vs').toArray ks'.length)⟩) (fun k x hk _ => by show (s.β.set i _)[k]? = _; rw [e]; exact hk) (fun _ h => h) (fun b' hI => World.putObj_heap_other (fun e => (ho.lt b hlv).2 (e ▸ hI))) (hr j d v g1 g2)⟩
  (fun c hc j k h hne h1 h2 h3 h4 => by
   cases hc
   exact hne (ho.inj j i k _ h _ b h1 h2 h3 h4 hM rfl hβ rfl))
  (fun c hc => by cases hc; exact .inr hlv) (fun c hc => by cases hc; simpa using hbl) (fun _ => False) (fun _ h => h.elim)
  (fun c hc hne _ => World.putObj_heap_other (fun e => hne (by rw [e]; rfl))) rfl rfl rfl (by simp)
 rwa [e] at this
theorem Ji {s : St} (hok : Ok s) {i : Nat} {ks : List Int} {l : List D} {v : Value} (hM : s.M[i]? = some (.mpd ks l)) (hr : Rep s (.hnd i) v) : ∃ b vs, v = .map (some b) ∧ s.β[i]? = some (.map (some b)) ∧ s.w.heap[b]? = some (.map (gg 0 ks vs).toArray ks.length) ∧ (vs.length = l.length ∧ ks.length = l.length) ∧ ∀ (j : Nat) d v, l[j]? = some d → vs[j]? = some v → Rep s d v := by
 cases hr with
 | hnd hβ hn =>
  obtain ⟨b, vs, rfl, e2, e3, e4⟩ := hok.blk i _ _ hM hβ
  exact ⟨b, vs, rfl, hβ, e2, e3, e4⟩
theorem Ad (j : Nat) (ho : o.op = .makeMap T none) (hj : M[j]? = some .hole) : DOp P pc o F M [j] (.hnd j) [(j, .mpd [] [])] := by
 intro hp a s hok hops hfp
 have hj' : s.M[j]? = some .hole := by rw [hfp j (by simp)]; exact hj
 have hjl : j < s.β.length := by rw [hok.len]; exact (qaj.1 hj').1
 have ht : Tr s ⟨s.β.set j (.map (some s.w.heap.size)), s.I, s.M.set j (.mpd [] []), s.w.alloc (.map #[] 0)⟩ := by
  refine gX hok hj' _ _ _ (by simp) (fun b hb => by simpa [hb] using (qao hb).symm) (fun b h => Below.heap_alloc _ _ _ h) (fun b hb => ?_) (by simp) rfl rfl rfl ⟨_, [], rfl, by simpa [gg] using heap_alloc_new s.w _, ⟨rfl, rfl⟩, fun p d v g1 g2 => by simp at g1⟩
  cases hb; simp
 refine k6 (v := .map (some s.w.heap.size)) ?_ ht rfl (.hnd (by simp [hjl]) (by simp) (by simp))
 unfold execOp
 simp only [ho]
 refine kE ?_
 simp [Instr.makeMap]
theorem XX {i : Nat} {k : Int} {ks : List Int} {l : List D} {kd : IntKind} {z0 : Value} (hT : mpT P T = some (K, E)) (hK : Gf P K = some kd) (hE : zrV P E = some z0) (ho : o.op = .lookup T x y false) (hx : Ev pc F x (.hnd i)) (hy : Ev pc F y (.val (.int .i64 k))) (hM : M[i]? = some (.mpd ks l)) (hn : pc = true → k ∉ ks) : DOp P pc o F M [i] (.val z0) [] := by
 intro hp a s hok hops hfp
 have hM' : s.M[i]? = some (.mpd ks l) := by rw [hfp i (by simp)]; exact hM
 obtain ⟨b, vs, hv, hβ, hob, hl, hr⟩ := Ji hok hM' (qo hp hx (by simp [ho, Op.operands]) hops)
 have hry := (qo hp hy (by simp [ho, Op.operands]) hops).val_eq
 refine qN hok ?_ (.val _)
 unfold execOp
 simp only [ho, hv, hry]
 refine kE ?_
 have hz : (zeroValue E).run P s.w = .ok z0 s.w := by
  unfold zrV at hE
  rw [Option.bind_eq_some_iff] at hE
  obtain ⟨inf, h1, h2⟩ := hE
  simp [zeroValue, typeInfo, h1, h2]
 have hf := zx (kd := kd) ks vs 0 0 (hn hp)
 unfold Instr.lookup
 rw [Sem.run_bind, run_underlying (uw hT), Result.andThen_ok]
 simp only [Sem.run_bind, getObj, Sem.run, hob, Result.andThen]
 have hc : ∀ e, (Instr.checkKey e 10000 K (.int .i64 k)).run P s.w = .ok () s.w := fun e => chkI hK e k s.w 9999
 simp [hc, Instr.findKey, run_underlying (wl hK), hf, hz]
theorem XY {i j : Nat} {k : Int} {ks : List Int} {l : List D} {kd : IntKind} {d : D} (hT : mpT P T = some (K, E)) (hK : Gf P K = some kd) (ho : o.op = .lookup T x y false) (hx : Ev pc F x (.hnd i)) (hy : Ev pc F y (.val (.int .i64 k))) (hM : M[i]? = some (.mpd ks l)) (hn : pc = true → ks.Nodup) (hk : pc = true → ks[j]? = some k) (hd : l[j]? = some d) : DOp P pc o F M [i] d [] := by
 intro hp a s hok hops hfp
 have hM' : s.M[i]? = some (.mpd ks l) := by rw [hfp i (by simp)]; exact hM
 obtain ⟨b, vs, hv, hβ, hob, hl, hr⟩ := Ji hok hM' (qo hp hx (by simp [ho, Op.operands]) hops)
 have hry := (qo hp hy (by simp [ho, Op.operands]) hops).val_eq
 have hj : j < vs.length := by rw [hl.1]; exact (qaj.1 hd).1
 have hvj : vs[j]? = some vs[j] := qak hj
 refine qN hok ?_ (hr j d _ hd hvj)
 unfold execOp
 simp only [ho, hv, hry]
 refine kE ?_
 have hf := KC (kd := kd) ks vs 0 0 j _ (hn hp) (hk hp) hvj
 unfold Instr.lookup
 rw [Sem.run_bind, run_underlying (uw hT), Result.andThen_ok]
 simp only [Sem.run_bind, getObj, Sem.run, hob, Result.andThen]
 have hc : ∀ e, (Instr.checkKey e 10000 K (.int .i64 k)).run P s.w = .ok () s.w := fun e => chkI hK e k s.w 9999
 simp [hc, Instr.findKey, run_underlying (wl hK), hf]
theorem Ae {i : Nat} {k : Int} {ks : List Int} {l : List D} {kd : IntKind} {d : D} (hT : mpT P T = some (K, E)) (hK : Gf P K = some kd) (ho : o.op = .mapUpdate T x y z) (hx : Ev pc F x (.hnd i)) (hy : Ev pc F y (.val (.int .i64 k))) (hz : Ev pc F z d) (hM : M[i]? = some (.mpd ks l)) (hn : pc = true → k ∉ ks) : DOp P pc o F M [i] .junk [(i, .mpd (ks ++ [k]) (l ++ [d]))] := by
 intro hp a s hok hops hfp
 have hM' : s.M[i]? = some (.mpd ks l) := by rw [hfp i (by simp)]; exact hM
 obtain ⟨b, vs, hv, hβ, hob, hl, hr⟩ := Ji hok hM' (qo hp hx (by simp [ho, Op.operands]) hops)
 have hry := (qo hp hy (by simp [ho, Op.operands]) hops).val_eq
 have hrz := qo hp hz (by simp [ho, Op.operands]) hops
 have ht := Ac (ks' := ks ++ [k]) (l' := l ++ [d]) (vs' := vs ++ [a.eval z]) hok hM' hβ ⟨by simp [hl.1], by simp [hl.2]⟩ (fun j e v g1 g2 => by
  by_cases hj : j < l.length
  ·rw [qaC hj] at g1
   rw [qaC (by omega)] at g2
   exact hr j e v g1 g2
  ·rw [qaH (by omega)] at g1 g2
   have : j - l.length = 0 := by
    have := (qaj.1 g1).1
    simp at this; omega
   rw [this] at g1
   rw [show j - vs.length = 0 by omega] at g2
   simp at g1 g2
   subst g1
   subst g2
   exact hrz)
 refine y9 ?_ ht rfl
 have hf := zx (kd := kd) ks vs 0 0 (hn hp)
 have he := KB ks vs 0 k (a.eval z) (by omega)
 unfold execOp
 simp only [ho, hv, hry]
 refine Ha ?_
 unfold Instr.mapUpdate
 rw [Sem.run_bind, run_underlying (uw hT), Result.andThen_ok]
 simp only [Sem.run_bind, getObj, Sem.run, hob, Result.andThen]
 have hc : ∀ e, (Instr.checkKey e 10000 K (.int .i64 k)).run P s.w = .ok () s.w := fun e => chkI hK e k s.w 9999
 simp [hc, Instr.findKey, run_underlying (wl hK), hf, setObj, Sem.run, World.putObj, he, hob]
end
end Go.Proofs.Ytofklkbfkoliiaa
namespace Go.Proofs.Ytofklkbfkoliiaa
set_option linter.unusedVariables false
set_option linter.unusedSimpArgs false
open Go.RowKit
section
variable {P : Program} {s0 : St} {n : Cx}
theorem Yp {F : Fr} {M : List Blk} {a : Act} {w : World} {i q : Nat} {T : TypeId} {l : List D} (e : TypeId) (sz : Nat) (h : Inv s0 n F M a w) (hi : M[i]? = some (.mix T l)) (hq : l[q]? = some (.val (.slice none 0 0))) : Inv s0 n F ((M ++ [Blk.arx e sz 0 []]).set i (.mix T (l.set q (.arr M.length)))) a w := by
 obtain ⟨h0, s, rfl, rfl, h3, h4, h5, h6⟩ := h
 have t1 := yR h3.ok
 have hlen := h3.ok.len
 have hn : (s.M ++ [Blk.hole])[s.M.length]? = some .hole := by simp
 have t2 : Tr ⟨s.β ++ [Value.nilFunc], s.I, s.M ++ [Blk.hole], s.w⟩ ⟨(s.β ++ [Value.nilFunc]).set s.M.length (.slice none 0 0), s.I, (s.M ++ [Blk.hole]).set s.M.length (.arx e sz 0 []), s.w⟩ :=
  gX (s := ⟨s.β ++ [Value.nilFunc], s.I, s.M ++ [Blk.hole], s.w⟩) t1.ok (j := s.M.length) hn (.slice none 0 0) (.arx e sz 0 []) s.w (by simp) (fun b hb => by cases hb) (fun b _ => rfl) (fun b hb => by cases hb) (qaE _) rfl rfl rfl ⟨[], World.ownsRow_nil s.w 0 e sz, rfl, fun j d v h => by simp at h⟩
 have tt := t1.trans t2
 have hil : i < s.M.length := (qaj.1 hi).1
 have eM : (s.M ++ [Blk.hole]).set s.M.length (.arx e sz 0 []) = s.M ++ [.arx e sz 0 []] := by simp
 rw [eM] at tt
 generalize hS : (⟨(s.β ++ [Value.nilFunc]).set s.M.length (.slice none 0 0), s.I, s.M ++ [.arx e sz 0 []], s.w⟩ : St) = S at tt
 have hSM : S.M = s.M ++ [.arx e sz 0 []] := by rw [← hS]
 have hSw : S.w = s.w := by rw [← hS]
 have hMi : S.M[i]? = some (.mix T l) := by rw [hSM, qaC hil]; exact hi
 have hβlen : s.M.length < S.β.length := by rw [← hS]; simp [hlen]
 have hβn : S.β[s.M.length]? = some (.slice none 0 0) := by rw [← hS]; simp [hlen]
 obtain ⟨hd, hβi⟩ : ∃ hd, S.β[i]? = some hd := ⟨_, qak (by omega)⟩
 obtain ⟨b, vs, rfl, hb, hl, hr⟩ := tt.ok.blk i _ _ hMi hβi
 have hβe : S.β.set i (.pointer (some ⟨b, 0, none⟩)) = S.β := by
  refine qa9 fun k => ?_
  by_cases hk : i = k
  ·subst hk; rw [qaz (by omega), hβi]
  ·rw [qav hk]
 have t3 : Tr S ⟨S.β.set i (.pointer (some ⟨b, 0, none⟩)), S.I, S.M.set i (.mix T (l.set q (.arr s.M.length))), S.w⟩ := by
  have hlv : Live S b := ql hMi rfl hβi rfl
  refine kT tt.ok i S.M (.pointer (some ⟨b, 0, none⟩)) (.mix T (l.set q (.arr s.M.length))) S.w rfl (fun _ _ h => .inl h) (qaj.1 hMi).1 (.inr (.inl hβi)) (by simp) ?_ (fun c hc j k h hne h1 h2 h3 h4 => ?_) (fun c hc => by cases hc; exact .inr hlv) (fun c hc => by cases hc; exact (tt.ok.lt b hlv).1) (fun _ => False) (fun _ h => h.elim) (fun _ _ _ _ => rfl) rfl rfl rfl (qaE _)
  ·refine ⟨b, vs, rfl, hb, by rw [List.length_set]; exact hl, fun j d v h1 h2 => ?_⟩
   have up : ∀ {d : D} {v : Value}, Rep S d v → Rep ⟨S.β.set i (.pointer (some ⟨b, 0, none⟩)), S.I, S.M.set i (.mix T (l.set q (.arr s.M.length))), S.w⟩ d v := fun h =>
    Rep.monoK (s := S) (s' := ⟨S.β.set i (.pointer (some ⟨b, 0, none⟩)), S.I, S.M.set i (.mix T (l.set q (.arr s.M.length))), S.w⟩) (by show hkeep S.β (S.β.set i _); rw [hβe]; exact hkeep.refl _) (fun _ h => h) (fun _ _ => rfl) h
   by_cases e : q = j
   ·subst e
    rw [qaz (qaj.1 hq).1] at h1
    obtain rfl := qao h1
    have hv := (hr q _ v hq h2).val_eq
    subst hv
    exact .arr (by show (S.β.set i _)[_]? = _; rw [hβe]; exact hβn)
   ·rw [qav e] at h1
    exact up (hr j d v h1 h2)
  ·cases hc
   exact hne (tt.ok.inj j i k _ h _ b h1 h2 h3 h4 hMi rfl hβi rfl)
 have ttt := tt.trans t3
 refine ⟨h0, ⟨S.β.set i (.pointer (some ⟨b, 0, none⟩)), S.I, S.M.set i (.mix T (l.set q (.arr s.M.length))), S.w⟩, by simp only [hSM], hSw, h3.trans ttt, fun x d hd => (h4 x d hd).mono h3.ok ttt, h5, h6.mono h3.ok ttt⟩
theorem vj {c : Code} {F : Fr} {M M' : List Blk} {K : Cont} {T : TypeId} {l l' : List D} (i q : Nat) (e : TypeId) (sz : Nat) {m : Nat} (hi : M[i]? = some (.mix T l)) (hq : l[q]? = some (.val (.slice none 0 0))) (hm : M.length = m) (hl : l.set q (.arr m) = l') (hM : (M ++ [Blk.arx e sz 0 []]).set i (.mix T l') = M') (h : dwp P s0 n c F M' K) : dwp P s0 n c F M K := by
 subst hm hl hM
 exact fun a w hv => h a w (Yp e sz hv hi hq)
end
theorem DFun.wk {P : Program} {f : FuncId} {args : List D} {d d' : D} {Min Mout : List Blk} (h : DFun P f args Min d Mout) (hd : ∀ s v, Rep s d v → Rep s d' v) : DFun P f args Min d' Mout := by
 refine ⟨h.1, fun s vs hok hM hr => (h.2 s vs hok hM hr).mono ?_⟩
 rintro e w' ⟨s', rfl, ht, hor⟩
 rcases hor with ⟨d0, v, rfl, hrep, rfl, hMo⟩ | ⟨d0, v, _, _, hf⟩
 ·exact ⟨s', rfl, ht, .inl ⟨d', v, rfl, hd s' v hrep, rfl, hMo⟩⟩
 ·exact hf.elim
end Go.Proofs.Ytofklkbfkoliiaa
namespace Go.Proofs.Ytofklkbfkoliiaa
set_option linter.unusedVariables false
set_option linter.unusedSimpArgs false
open Go.RowKit
def Wk (d d' : D) : Prop := ∀ s v, Rep s d v → Rep s d' v
def WkL (l l' : List D) : Prop := l.length = l'.length ∧ ∀ (j : Nat) d d', l[j]? = some d → l'[j]? = some d' → Wk d d'
theorem Wk.refl (d : D) : Wk d d := fun _ _ h => h
theorem Wk.of_eq {d d' : D} (h : d = d') : Wk d d' := h ▸ Wk.refl d
theorem WkL.nil : WkL [] [] := ⟨rfl, fun j d d' h => by simp at h⟩
theorem WkL.cons {d d' : D} {l l' : List D} (h : Wk d d') (hl : WkL l l') : WkL (d :: l) (d' :: l') := by
 refine ⟨by simp [hl.1], fun j e e' h1 h2 => ?_⟩
 cases j with
 | zero => simp at h1 h2; subst h1 h2; exact h
 | succ j => exact hl.2 j e e' (by simpa using h1) (by simpa using h2)
theorem WkL.refl (l : List D) : WkL l l := ⟨rfl, fun j d d' h1 h2 => by rw [h1] at h2; cases h2; exact Wk.refl d⟩
theorem WkL.rep {s : St} {l l' : List D} {vs : List Value} (h : WkL l l') (hr : ∀ (j : Nat) d v, l[j]? = some d → vs[j]? = some v → Rep s d v) : ∀ (j : Nat) d v, l'[j]? = some d → vs[j]? = some v → Rep s d v := fun j d v h1 h2 => by
 have hj : j < l.length := by rw [h.1]; exact (qaj.1 h1).1
 exact h.2 j l[j] d (qak hj) h1 s v (hr j _ v (qak hj) h2)
theorem Wk.tup {l l' : List D} (h : WkL l l') : Wk (.tup l) (.tup l') := fun s v hr => by
 cases hr with
 | tup hl hr => exact .tup (hl.trans h.1) (h.rep hr)
theorem Wk.agg {l l' : List D} (h : WkL l l') : Wk (.agg l) (.agg l') := fun s v hr => by
 cases hr with
 | agg hl hr => exact .agg (hl.trans h.1) (h.rep hr)
theorem Wk.slm0 (sz : Nat) : Wk (.val (.slice none 0 0)) (.slm sz 0 []) := fun s v hr => by
 cases hr with
 | val => exact .slm (vs := []) rfl (by simp) (qaE _) (qaZ _) (fun _ => rfl) rfl (fun j d v h => by simp at h) (.inl rfl)
theorem Wk.slf0 (sz : Nat) : Wk (.val (.slice none 0 0)) (.slf sz 0 []) := fun s v hr => by
 cases hr with
 | val => exact .slf (by simp) (qaE _) (qaZ _) (fun _ => rfl) (.inl rfl)
theorem Wk.vagg (l : List Value) : Wk (.val (.agg l.toArray)) (.agg (l.map D.val)) := fun s v hr => by
 cases hr with
 | val =>
  refine .agg (by simp) fun j d v h1 h2 => ?_
  rw [qa5, h2] at h1
  cases h1
  exact .val v
theorem Wk.trans {d d' d'' : D} (h : Wk d d') (k : Wk d' d'') : Wk d d'' := fun s v hr => k s v (h s v hr)
theorem DOp.wk {P : Program} {pc : Bool} {o : Oper} {F : Fr} {M : List Blk} {fp : List Nat} {d d' : D} {wr : List (Nat × Blk)} (h : DOp P pc o F M fp d wr) (hw : Wk d d') : DOp P pc o F M fp d' wr := by
 intro hp a s hok hops hfp
 exact (h hp a s hok hops hfp).map fun s' v ho' ⟨e1, e2⟩ => ⟨s', rfl, Tr.refl ho', e1, hw s' v e2⟩
theorem u5 {pc : Bool} {F : Fr} {x : Operand} {d d' : D} (h : Ev pc F x d) (hw : Wk d d') : Ev pc F x d' := by
 obtain ⟨d0, e1, e2⟩ := h
 exact ⟨d0, e1, fun s v hp hr => hw _ _ (e2 s v hp hr)⟩
section
variable {P : Program} {s0 : St} {n : Cx}
theorem Af {c : Code} {F : Fr} {M : List Blk} {K : Cont} {d d' : D} (t : Nat) (ht : lk F t = some d) (hw : Wk d d') (h : dwp P s0 n c ((t, d') :: F) M K) : dwp P s0 n c F M K := by
 intro a w hi
 refine h a w ?_
 obtain ⟨h0, s, h1, h2, h3, h4, h5, h6⟩ := hi
 refine ⟨h0, s, h1, h2, h3, fun x e he => ?_, h5, h6⟩
 rw [jI] at he
 split at he
 ·rename_i e'
  subst e'
  obtain rfl := qao he
  exact hw s _ (h4 t _ ht)
 ·exact h4 x e he
end
theorem WV {σ : List Nat} {V : Nat → Bool} {M : List Blk} {a a' : D} {b : Value} (h : vw σ V M a = some a') : vw σ V M (.tup [a, .val b]) = some (.tup [a', .val b]) := by
 unfold vw; unfold vwL; rw [h]; rfl
theorem WW {σ : List Nat} {V : Nat → Bool} {M : List Blk} {a a' : D} {b c : Value} (h : vw σ V M a = some a') : vw σ V M (.tup [a, .val b, .val c]) = some (.tup [a', .val b, .val c]) := by
 unfold vw; unfold vwL; rw [h]; rfl
section
variable {P : Program} {pc : Bool} {o : Oper} {F : Fr} {M : List Blk} {T : TypeId} {x : Operand}
end
end Go.Proofs.Ytofklkbfkoliiaa
namespace Go.Proofs.Ytofklkbfkoliiaa
set_option linter.unusedVariables false
set_option linter.unusedSimpArgs false
open Go.RowKit
section
variable {P : Program} {pc : Bool} {o : Oper} {F : Fr} {M : List Blk} {T : TypeId} {x y : Operand} {k : IntKind} {z : Int} {n : Nat}
theorem Ag {L : List Value} {v : Value} (j : Nat) (ho : o.op = .index T x y) (hT : arW P T = some n) (hx : Ev pc F x (.val (.agg L.toArray))) (hy : Ev pc F y (.val (.int k z))) (hz : pc = true → z = (j : Int)) (hj : j < n) (hd : L[j]? = some v) : DOp P pc o F M [] (.val v) [] :=
 Aa (ds := L.map D.val) j ho hT (u5 hx (Wk.vagg L)) hy hz hj (by rw [qa5, hd]; rfl)
end
end Go.Proofs.Ytofklkbfkoliiaa
namespace Go.Proofs.Ytofklkbfkoliiaa
set_option linter.unusedVariables false
set_option linter.unusedSimpArgs false
open Go.RowKit
theorem DGives.of_tr {P : Program} {s s1 : St} {post : St → Value → Prop} {r : Result Next} (t : Tr s s1) (hw : s1.w = s.w) (h : DGives P s1 post r) : DGives P s post r := by
 have key : ∀ {w' : World} {v : Value}, (∃ s', s'.w = w' ∧ Tr s1 s' ∧ post s' v) → ∃ s', s'.w = w' ∧ Tr s s' ∧ post s' v := by
  rintro w' v ⟨s', rfl, a2, a3⟩
  exact ⟨s', rfl, t.trans a2, a3⟩
 cases r with
 | halt x w => exact h.elim
 | ok x w =>
  cases x with
  | value v => exact key h
  | skip => exact key h
  | enter f args =>
   obtain ⟨h1, h2⟩ := h
   refine ⟨h1.trans hw, ?_⟩
   rw [← hw]
   refine h2.mono ?_
   rintro e w'' ⟨s', v, e1, e2, e3, e4⟩
   exact ⟨s', v, e1, e2, t.trans e3, e4⟩
  | round l f tmps asg body =>
   obtain ⟨h1, h2⟩ := h
   refine ⟨h1.trans hw, ?_⟩
   rw [← hw]
   refine RoundIn.mono h2 ?_
   rintro e w'' ⟨s', v, e1, e2, e3, e4⟩
   exact ⟨s', v, e1, e2, t.trans e3, e4⟩
  | _ => exact h.elim
section
variable {P : Program} {pc : Bool} {o : Oper} {F : Fr} {M : List Blk}
theorem Qn {T e : TypeId} {sz by' n m f j1 j2 k t t2 : Nat} {Bs : List Mem} {L L2 Z : List Value} (ho : o.op = .call { callee := .builtin .append, args := #[.tmp t, .tmp t2], argTypes := #[T, T] }) (ht : (t == t2) = false) (hT : slE P T = some (e, sz, by')) (hZ : zrC P e = some Z) (hZl : Z.length = sz)
  (hx : Ev pc F (.tmp t) (.farr f k)) (hy : Ev pc F (.tmp t2) (.slf sz m L2)) (hM : M[f]? = some (.fam Bs)) (hB : Bs[k]? = some (.arr e sz n L)) (hj1 : M[j1]? = some .hole) (hj2 : M[j2]? = some .hole) (hne : (j1 == j2) = false) (h1 : pc = true → L2.all (·.oneCell') = true) (hbd : pc = true → (n + m) * by' ≤ 140737488355328 ∧ n + m ≤ 140737488355328) :
  DOp P pc o F M [f, j1, j2] (.farr f Bs.length) [(f, .fam (Bs.set k .gone ++ [.arr e sz (n + m) (L ++ L2)])), (j1, .gone), (j2, .gone)] := by
 intro hp a s hok hops hfp
 have ht : t ≠ t2 := by simpa using ht
 have hne : j1 ≠ j2 := by simpa using hne
 have hmem : o.op.operands = #[.tmp t, .tmp t2] := by rw [ho]; rfl
 have rx := qo hp hx (by rw [hmem]; simp) hops
 have ry := qo hp hy (by rw [hmem]; simp) hops
 have hM' : s.M[f]? = some (.fam Bs) := by rw [hfp f (by simp)]; exact hM
 have g1 : s.M[j1]? = some .hole := by rw [hfp j1 (by simp)]; exact hj1
 have g2 : s.M[j2]? = some .hole := by rw [hfp j2 (by simp)]; exact hj2
 have hf1 : f ≠ j1 := fun e => by subst e; rw [hM'] at g1; cases g1
 have hf2 : f ≠ j2 := fun e => by subst e; rw [hM'] at g2; cases g2
 have hfl := (qaj.1 hM').1
 have hl1 := (qaj.1 g1).1
 have hl2 := (qaj.1 g2).1
 generalize hvx : a.eval (.tmp t) = vx at rx
 cases rx with
 | @farr _ _ ad n' c hs q1 q2 =>
  have tt := WU (B := .arr e sz n L) hok hM' g1 hB rfl q1 q2
  obtain ⟨s1, e1⟩ : ∃ s1 : St, s1 = ⟨s.β.set j1 (.slice ad n' c), s.I, (s.M.set f (.fam (Bs.set k .gone))).set j1 (.arr e sz n L), s.w⟩ := ⟨_, rfl⟩
  have tt : Tr s s1 := by rw [e1]; exact tt
  have hM1 : s1.M = (s.M.set f (.fam (Bs.set k .gone))).set j1 (.arr e sz n L) := by rw [e1]
  have hw1 : s1.w = s.w := by rw [e1]
  have hβ1 : s1.β[j1]? = some (.slice ad n' c) := by rw [e1]; show (s.β.set j1 _)[j1]? = _; rw [qaz (by rw [hok.len]; exact hl1)]
  have m1 : s1.M[j1]? = some (.arr e sz n L) := by rw [hM1, qaz (by simpa using hl1)]
  have m2 : s1.M[j2]? = some .hole := by rw [hM1, qav hne, qav hf2]; exact g2
  have m3 : s1.M[f]? = some (.fam (Bs.set k .gone)) := by rw [hM1, qav (Ne.symm hf1), qaz hfl]
  have ra : Rep s1 (.arr j1) (a.eval (.tmp t)) := by rw [hvx]; exact .arr hβ1
  have hl : ∀ x ∈ o.op.operands, ∀ d, ev [(t, D.arr j1), (t2, .slf sz m L2)] x = some d → Rep s1 d (a.eval x) := by
   intro x hx' d hd
   rw [hmem] at hx'
   simp at hx'
   rcases hx' with rfl | rfl
   ·simp only [ev, lk, Nat.beq_refl, cond_true] at hd
    cases hd
    exact ra
   ·have hb : Nat.beq t t2 = false := by
     cases hbb : Nat.beq t t2
     ·rfl
     ·exact absurd (Nat.eq_of_beq_eq_true hbb) ht
    simp only [ev, lk, hb, Nat.beq_refl, cond_true, cond_false] at hd
    cases hd
    exact ry.mono hok tt
  have hb : Nat.beq t t2 = false := by
   cases hbb : Nat.beq t t2
   ·rfl
   ·exact absurd (Nat.eq_of_beq_eq_true hbb) ht
  have hD := vd (P := P) (pc := true) (F := [(t, D.arr j1), (t2, .slf sz m L2)]) (M := s1.M) (i := j1) (j := j2) (d := .slf sz m L2) (fp := []) ho hT hZ hZl (ev1 (by simp only [ev, lk, Nat.beq_refl, cond_true])) (ev1 (by simp only [ev, lk, hb, Nat.beq_refl, cond_true, cond_false])) yG m1 m2 (fun _ => h1 hp) (fun _ => hbd hp) rfl a s1 tt.ok hl (fun _ _ => rfl)
  rw [hw1] at hD
  refine (DGives.of_tr tt hw1 hD).map fun s' v ho' ⟨u1, u2⟩ => ?_
  have hs'M : s'.M = (s1.M.set j1 .gone).set j2 (.arr e sz (n + m) (L ++ L2)) := u1
  have k2 : s'.M[j2]? = some (.arr e sz (n + m) (L ++ L2)) := by rw [hs'M, qaz (by rw [List.length_set, hM1]; simpa using hl2)]
  have k3 : s'.M[f]? = some (.fam (Bs.set k .gone)) := by rw [hs'M, qav (Ne.symm hf2), qav (Ne.symm hf1)]; exact m3
  have hlen' := ho'.len
  have kf := (qaj.1 k3).1
  have kj := (qaj.1 k2).1
  obtain ⟨x, hx2⟩ : ∃ x, s'.β[f]? = some x := ⟨_, qak (by omega)⟩
  obtain ⟨y, hy2⟩ : ∃ y, s'.β[j2]? = some y := ⟨_, qak (by omega)⟩
  obtain ⟨hs2, rfl, hfo⟩ := ho'.blk f _ x k3 hx2
  have t3 := WT (B := .arr e sz (n + m) (L ++ L2)) ho' k3 k2 rfl hx2 hy2
  refine ⟨⟨s'.β.set f (.tuple (hs2 ++ [y]).toArray), s'.I, (s'.M.set j2 .gone).set f (.fam (Bs.set k .gone ++ [.arr e sz (n + m) (L ++ L2)])), s'.w⟩, rfl, t3, ?_, ?_⟩
  ·show (s'.M.set j2 .gone).set f _ = ((s.M.set f _).set j1 .gone).set j2 .gone
   rw [hs'M, hM1]
   apply qa9
   intro i
   simp only [List.getElem?_set, List.length_set]
   by_cases a1 : f = i
   ·subst a1
    simp [hf1.symm, hf2.symm, hfl]
   ·by_cases a2 : j1 = i
    ·subst a2
     simp [a1, hne.symm, hl1]
    ·by_cases a3 : j2 = i
     ·subst a3
      simp [a1, a2, hl2]
     ·simp [a1, a2, a3]
  ·cases u2 with
   | @arr _ ad' n'' c' hβ =>
    rw [hy2] at hβ
    obtain rfl := qao hβ
    refine .farr (hs := hs2 ++ [.slice ad' n'' c']) (by show (s'.β.set f _)[f]? = _; rw [qaz (by omega)]) ?_
    have : hs2.length = Bs.length := by rw [hfo.len]; simp
    rw [qaH (by omega), show Bs.length - hs2.length = 0 by omega]
    rfl
end
section
variable {P : Program} {s0 : St} {n : Cx}
theorem WX {F : Fr} {M : List Blk} {a : Act} {w : World} {p q j f : Nat} {T e : TypeId} {l : List D} {sz m : Nat} {L : List Value} {Bs : List Mem} (h : Inv s0 n F M a w) (hM : M[p]? = some (.mix T l)) (hq : l[q]? = some (.arr j)) (hj : M[j]? = some (.arr e sz m L)) (hf : M[f]? = some (.fam Bs)) : Inv s0 n F (((M.set j .gone).set f (.fam (Bs ++ [.arr e sz m L]))).set p (.mix T (l.set q (.farr f Bs.length)))) a w := by
 obtain ⟨h0, s, rfl, rfl, h3, h4, h5, h6⟩ := h
 have hlen := h3.ok.len
 have hfl := (qaj.1 hf).1
 have hjl := (qaj.1 hj).1
 have hpl := (qaj.1 hM).1
 have hpj : p ≠ j := fun e => by subst e; rw [hM] at hj; cases hj
 have hpf : p ≠ f := fun e => by subst e; rw [hM] at hf; cases hf
 obtain ⟨x, hx⟩ : ∃ x, s.β[f]? = some x := ⟨_, qak (by omega)⟩
 obtain ⟨y, hy⟩ : ∃ y, s.β[j]? = some y := ⟨_, qak (by omega)⟩
 obtain ⟨z, hz⟩ : ∃ z, s.β[p]? = some z := ⟨_, qak (by omega)⟩
 obtain ⟨hs, rfl, hfo⟩ := h3.ok.blk f _ x hf hx
 have tt := WT (B := .arr e sz m L) h3.ok hf hj rfl hx hy
 obtain ⟨s1, e1⟩ : ∃ s1 : St, s1 = ⟨s.β.set f (.tuple (hs ++ [y]).toArray), s.I, (s.M.set j .gone).set f (.fam (Bs ++ [.arr e sz m L])), s.w⟩ := ⟨_, rfl⟩
 have tt : Tr s s1 := by rw [e1]; exact tt
 have hM1 : s1.M = (s.M.set j .gone).set f (.fam (Bs ++ [.arr e sz m L])) := by rw [e1]
 have hw1 : s1.w = s.w := by rw [e1]
 have hp1 : s1.M[p]? = some (.mix T l) := by rw [hM1, qav (Ne.symm hpf), qav (Ne.symm hpj)]; exact hM
 have hz1 : s1.β[p]? = some z := by rw [e1]; show (s.β.set f _)[p]? = _; rw [qav (Ne.symm hpf)]; exact hz
 have hpl1 : p < s1.M.length := (qaj.1 hp1).1
 have hset : s1.β.set p z = s1.β := by
  have h1 : p < s1.β.length := by rw [tt.ok.len]; exact hpl1
  have h2 : s1.β[p] = z := by
   have := qak h1
   rw [hz1] at this
   exact (qao this).symm
  rw [← h2]
  exact List.set_getElem_self ..
 obtain ⟨b, vs, k1, k2, k3, k4⟩ := tt.ok.blk p _ z hp1 hz1
 have hql := (qaj.1 hq).1
 have t2 : Tr s1 ⟨s1.β, s1.I, s1.M.set p (.mix T (l.set q (.farr f Bs.length))), s1.w⟩ := by
  have hst := kT tt.ok p s1.M z (.mix T (l.set q (.farr f Bs.length))) s1.w rfl (fun i k h => .inl h) hpl1 (.inr (.inl hz1)) (by rw [k1]; simp) ?_ (fun b' hb' j' kj hj' hne h1 h2 h3' h4' => ?_) (fun b' hb' => .inr (ql hp1 rfl hz1 hb')) (fun b' hb' => (tt.ok.lt b' (ql hp1 rfl hz1 hb')).1) (fun _ => False) (fun _ h => h.elim) (fun b' hlt hne _ => rfl) rfl rfl rfl (qaE _)
  ·rw [hset] at hst
   exact hst
  ·refine ⟨b, vs, k1, k2, by simp [k3], fun j' d v g1 g2 => ?_⟩
   rw [hset]
   have lift : ∀ {d v}, Rep s1 d v → Rep ⟨s1.β, s1.I, s1.M.set p (.mix T (l.set q (.farr f Bs.length))), s1.w⟩ d v := fun hr =>
    Rep.mono' (s := s1) (s' := ⟨s1.β, s1.I, s1.M.set p (.mix T (l.set q (.farr f Bs.length))), s1.w⟩) (fun _ _ h _ => h) (fun _ h => h) (fun _ _ => rfl) hr
   by_cases e : q = j'
   ·subst e
    rw [qaz hql] at g1
    cases g1
    refine lift ?_
    have hr := k4 q _ v hq g2
    have hy1 : s1.β[j]? = some y := by
     have hjf : f ≠ j := fun e => by subst e; rw [hf] at hj; cases hj
     rw [e1]; show (s.β.set f _)[j]? = _; rw [qav hjf]; exact hy
    cases hr with
    | @arr _ ad n' c hβ =>
     rw [hy1] at hβ
     obtain rfl := qao hβ
     refine .farr (hs := hs ++ [.slice ad n' c]) (by rw [e1]; show (s.β.set f _)[f]? = _; rw [qaz (by omega)]) ?_
     rw [qaH (by rw [hfo.len]; exact qaE _), hfo.len, Nat.sub_self]
     rfl
   ·rw [qav e] at g1
    exact lift (k4 j' d v g1 g2)
  ·exact hne (tt.ok.inj j' p kj _ hj' _ b' h1 h2 h3' h4' hp1 rfl hz1 hb')
 refine ⟨h0, ⟨s1.β, s1.I, s1.M.set p (.mix T (l.set q (.farr f Bs.length))), s1.w⟩, by rw [hM1], hw1, (h3.trans tt).trans t2, fun x d hd => ((h4 x d hd).mono h3.ok tt).mono tt.ok t2, h5, (h6.mono h3.ok tt).mono tt.ok t2⟩
theorem Gg {c : Code} {F : Fr} {M M' : List Blk} {K : Cont} (p q f : Nat) {j : Nat} {T e : TypeId} {l : List D} {sz m : Nat} {L : List Value} {Bs : List Mem} (hM : M[p]? = some (.mix T l)) (hq : l[q]? = some (.arr j)) (hj : M[j]? = some (.arr e sz m L)) (hf : M[f]? = some (.fam Bs)) (hM' : ((M.set j .gone).set f (.fam (Bs ++ [.arr e sz m L]))).set p (.mix T (l.set q (.farr f Bs.length))) = M') (h : dwp P s0 n c F M' K) : dwp P s0 n c F M K := by
 subst hM'
 exact fun a w hh => h a w (WX hh hM hq hj hf)
end
section
variable {P : Program} {pc : Bool} {o : Oper} {F : Fr} {M : List Blk} {T : TypeId} {x y : Operand} {k : IntKind} {z : Int} {n sz : Nat}
end
end Go.Proofs.Ytofklkbfkoliiaa
