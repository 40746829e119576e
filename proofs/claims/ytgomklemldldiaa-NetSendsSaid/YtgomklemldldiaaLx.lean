/- Rows made by make, and copied into; parts of arrays with their room cut. No condition. -/
import Derived.Test.YtgomklemldldiaaLw
import Derived.Laws.OwnMore
import Derived.Laws.IdiomCopy
import Derived.Laws.Pointers
namespace Go.Proofs.Ytgomklemldldiaa
set_option linter.unusedVariables false
set_option linter.unusedSimpArgs false
open Go.RowKit

section
variable {P : Program} {pc : Bool} {o : Oper} {F : Fr} {M : List Blk} {T e : TypeId} {by' : Nat} {x y : Operand}
/-- make, of elements of one cell -/
theorem op_mks (j n : Nat) {k k' : IntKind} {z z' : Int} (z0 : Value) (ho : o.op = .makeSlice T x y) (hT : slE P T = some (e, 1, by')) (hZ : zrC P e = some [z0]) (hx : Ev pc F x (.val (.int k z))) (hy : Ev pc F y (.val (.int k' z'))) (hz : pc = true → z = (n : Int)) (hz' : pc = true → z' = (n : Int)) (hj : M[j]? = some .hole) (hb : pc = true → by' * n ≤ 281474976710656 ∧ n ≤ 9223372036854775807) :
    DOp P pc o F M [j] (.arr j) [(j, .arr e 1 n (List.replicate n z0))] := by
  intro hp a s hok hops hfp
  obtain ⟨e1, ti, e2, e3, e4⟩ := slE_spec hT
  obtain ⟨ti', zv, q1, q2, q3⟩ := zrC_spec hZ
  rw [e2] at q1
  obtain rfl := Option.some.inj q1
  have h1 := (ev_at hp hx (by simp [ho, Op.operands]) hops).val_eq
  have h2 := (ev_at hp hy (by simp [ho, Op.operands]) hops).val_eq
  rw [hz hp] at h1
  rw [hz' hp] at h2
  obtain ⟨b1, b2⟩ := hb hp
  have hj' : s.M[j]? = some .hole := by rw [hfp j (by simp)]; exact hj
  have hjl : j < s.β.length := by rw [hok.len]; exact (List.getElem?_eq_some_iff.1 hj').1
  have hb3 : (ti.bytes : Int) * (n : Int) ≤ 281474976710656 := by
    have h : ((ti.bytes * n : Nat) : Int) ≤ 281474976710656 := by rw [e4]; omega
    rwa [Int.natCast_mul] at h
  have hrun := run_make (P := P) s.w T e ti zv e1 e2 q2 k k' n n (by omega) (Int.le_refl _) hb3 (by omega)
  simp only [Int.toNat_natCast] at hrun
  have hc : zv.cells = #[z0] := by
    have := congrArg List.toArray q3
    simpa using this
  have hrow := World.ownsRow_lit (base := 0) (e := e) (size := ti.size) s.w (madeCells zv.cells (n * ti.size)) n (Nat.zero_le _) (by unfold maxLen; omega) (size_madeCells _ _)
  rw [hc, e3, Nat.mul_one, toList_madeCells_one] at hrow
  rw [hc, e3, Nat.mul_one] at hrun
  refine dg_step (s' := ⟨s.β.set j (.slice (some ⟨s.w.heap.size, 0, none⟩) n n), s.I, s.M.set j (.arr e 1 n (List.replicate n z0)), _⟩) (v := .slice (some ⟨s.w.heap.size, 0, none⟩) n n) ?_ (tr_new hok hj' _ _ _ (by simp) (fun b hb => by cases hb; rfl) (fun b h => Below.heap_alloc _ _ _ h) (fun b hb => by cases hb; simp) (by simp) rfl rfl rfl hrow) rfl (.arr (by simp [hjl]))
  unfold execOp
  simp only [ho, h1, h2]
  exact run_v hrun
/-- make, of length 0 -/
theorem op_mk0 (j n : Nat) {sz : Nat} {k k' : IntKind} {z z' : Int} {Z : List Value} (ho : o.op = .makeSlice T x y) (hT : slE P T = some (e, sz, by')) (hZ : zrC P e = some Z) (hx : Ev pc F x (.val (.int k z))) (hy : Ev pc F y (.val (.int k' z'))) (hz : pc = true → z = 0) (hz' : pc = true → z' = (n : Int)) (hj : M[j]? = some .hole) (hb : pc = true → by' * n ≤ 281474976710656 ∧ n ≤ 9223372036854775807) :
    DOp P pc o F M [j] (.arr j) [(j, .arr e sz 0 [])] := by
  intro hp a s hok hops hfp
  obtain ⟨e1, ti, e2, e3, e4⟩ := slE_spec hT
  obtain ⟨ti', zv, q1, q2, q3⟩ := zrC_spec hZ
  rw [e2] at q1
  obtain rfl := Option.some.inj q1
  have h1 := (ev_at hp hx (by simp [ho, Op.operands]) hops).val_eq
  have h2 := (ev_at hp hy (by simp [ho, Op.operands]) hops).val_eq
  rw [hz hp] at h1
  rw [hz' hp] at h2
  obtain ⟨b1, b2⟩ := hb hp
  have hj' : s.M[j]? = some .hole := by rw [hfp j (by simp)]; exact hj
  have hjl : j < s.β.length := by rw [hok.len]; exact (List.getElem?_eq_some_iff.1 hj').1
  have hb3 : (ti.bytes : Int) * (n : Int) ≤ 281474976710656 := by
    have h : ((ti.bytes * n : Nat) : Int) ≤ 281474976710656 := by rw [e4]; omega
    rwa [Int.natCast_mul] at h
  have hrun := run_make (P := P) s.w T e ti zv e1 e2 q2 k k' 0 n (Int.le_refl _) (by omega) hb3 (by omega)
  simp only [Int.toNat_natCast, Int.toNat_zero] at hrun
  have hrow := World.ownsRow_made (base := 0) (e := e) (size := ti.size) s.w (madeCells zv.cells (n * ti.size)) n (Nat.zero_le _) (by unfold maxLen; omega) (size_madeCells _ _)
  rw [e3] at hrow hrun
  refine dg_step (s' := ⟨s.β.set j (.slice (some ⟨s.w.heap.size, 0, none⟩) 0 n), s.I, s.M.set j (.arr e sz 0 []), _⟩) (v := .slice (some ⟨s.w.heap.size, 0, none⟩) 0 n) ?_ (tr_new hok hj' _ _ _ (by simp) (fun b hb => by cases hb; rfl) (fun b h => Below.heap_alloc _ _ _ h) (fun b hb => by cases hb; simp) (by simp) rfl rfl rfl hrow) rfl (.arr (by simp [hjl]))
  unfold execOp
  simp only [ho, h1, h2]
  exact run_v hrun

/-- cells written into an array of its own -/
theorem tr_sta {s : St} (hok : Ok s) {i p sz n n' c b : Nat} {T' : TypeId} {L C : List Value} (hM' : s.M[i]? = some (.arr T' sz n L)) (h : s.β[i]? = some (.slice (some ⟨b, 0, none⟩) n' c)) (hfit : p + C.length ≤ L.length) :
    Tr s ⟨s.β, s.I, s.M.set i (.arr T' sz n (setL L p C)), s.w.setCells b p C⟩ ∧ (∀ j, j < C.length → (s.w.cell? ⟨b, p + j, none⟩).isSome = true) ∧ (∀ j, j < C.length → s.w.frozen? ⟨b, p + j, none⟩ = false) := by
  have hk' : s.w.ownsRow 0 T' sz _ n L := hok.blk i _ _ hM' h
  rcases hk'.2 with ⟨e1, e2⟩ | ⟨g, cap, cur, e1, e2, e3, e4, e5, e6, e7⟩
  · cases e1
  · cases e1
    have hle := Nat.mul_le_mul_right sz e4
    have hlL := hk'.1
    have hcell := cellsAt_block e3 0
    have hcurlen : cur.toList.length = c * sz := by simpa using e6
    have hβ : s.β.set i (.slice (some ⟨b, 0, none⟩) n c) = s.β := by
      apply List.ext_getElem?
      intro k
      by_cases e : i = k
      · subst e; rw [List.getElem?_set_self (List.getElem?_eq_some_iff.1 h).1, h]
      · rw [List.getElem?_set_ne e]
    refine ⟨?_, fun j hj => ?_, fun j hj => by simp [World.frozen?, e3]⟩
    · have ht := tr_store (k' := .arr T' sz n (setL L p C)) hok hM' rfl h rfl p C ?_
      · rwa [hβ] at ht
      · have hsl := setL_len C cur.toList p
        refine ⟨by rw [setL_len]; exact hlL, .inr ⟨b, c, (setL cur.toList p C).toArray, rfl, e2, setCells_block b C p s.w cur.toList T' (by simpa using e3), e4, e5, by simp [hsl]; simpa using e6, ?_⟩⟩
        rw [setL_eq C cur.toList p (by omega), setL_eq C L p hfit]
        have hcut : cur.toList = L ++ cur.toList.drop L.length := by
          have := List.take_append_drop (n * sz) cur.toList
          rw [e7, ← hlL] at this
          exact this.symm
        generalize cur.toList.drop L.length = R at hcut
        rw [hcut]
        have t1 : (L ++ R).take p = L.take p := List.take_append_of_le_length (by omega)
        have t2 : (L ++ R).drop (p + C.length) = L.drop (p + C.length) ++ R := List.drop_append_of_le_length (by omega)
        rw [t1, t2, ← hlL, ← List.append_assoc]
        refine List.take_left' ?_
        simp; omega
    · have := hcell (p + j) _ (by simpa using List.getElem?_eq_getElem (by simp; omega : p + j < cur.toList.length))
      rw [Nat.zero_add] at this
      rw [this]; rfl
theorem setL_nil (L : List Value) (p : Nat) : setL L p [] = L := by cases L <;> rfl

theorem cpy_go {a : Act} {s : St} {T2 : TypeId} {i p n m N : Nat} {d : D} {L L2 : List Value} {fp : List Nat} (hok : Ok s) (hfp : ∀ k ∈ i :: fp, s.M[k]? = M[k]?) (hrx : Rep s (.own i 1 p n) (a.eval x)) (hry : Rep s d (a.eval y)) (ho : o.op = .call { callee := .builtin .copy, args := #[x, y], argTypes := #[T, T2] }) (hT : slE P T = some (e, 1, by')) (hsrc : SrcD M fp d m 1 L2) (hM : M[i]? = some (.arr e 1 N L)) (h1 : L2.all (·.oneCell') = true) :
    DGives P s (fun s' v => s'.M = upd s.M [(i, .arr e 1 N (setL L p (L2.take (min m n))))] ∧ Rep s' (.val (.int .i64 ((min m n : Nat) : Int))) v) ((execOp a.eval o).run P s.w) := by
  obtain ⟨e1, ti, e2, e3, e4⟩ := slE_spec hT
  have hM' : s.M[i]? = some (.arr e 1 N L) := by rw [hfp i (by simp)]; exact hM
  obtain ⟨hl2, a2, c2, hv2, hso⟩ := hsrc s _ hok (fun k hk => hfp k (by simp [hk])) hry
  rw [Nat.mul_one] at hl2
  have hs1 : (P.info? e).map (·.size) = some 1 := by rw [e2]; simp [e3]
  have hil : i < s.M.length := (List.getElem?_eq_some_iff.1 hM').1
  generalize hv : a.eval x = vx at hrx
  have none_ : ∀ (ad : Option Addr) c, vx = .slice ad n c → min m n = 0 → DGives P s (fun s' v => s'.M = upd s.M [(i, .arr e 1 N (setL L p (L2.take (min m n))))] ∧ Rep s' (.val (.int .i64 ((min m n : Nat) : Int))) v) ((execOp a.eval o).run P s.w) := by
    intro ad c hvx h0
    subst hvx
    have hr := run_copy_none (P := P) s.w T T2 o.type e ad a2 n c m c2 e1 hs1 h0
    rw [h0, List.take_zero, setL_nil]
    refine dg_step (s' := s) (v := goInt 0) (run_builtin ho (fun cs => rfl) (by simpa [hv, hv2] using hr)) (Tr.refl hok) ?_ (.val _)
    show s.M = s.M.set i _
    have : s.M[i] = .arr e 1 N L := (List.getElem?_eq_some_iff.1 hM').2
    rw [← this, List.set_getElem_self]
  by_cases h0 : min m n = 0
  · cases hrx with
    | own h ha hN hz hn hc => exact none_ _ _ rfl h0
    | ownnil h => exact none_ _ _ rfl h0
  · cases hrx with
    | @own _ _ _ _ N' cap c b ad h ha hN hz hn hc =>
      obtain ⟨e0, e5, _, _, _, _⟩ := arr_cells hok hM' h
      subst e0
      rw [Nat.mul_one] at e5
      have had : ad = some ⟨b, p * 1, none⟩ := ha.resolve_left (by omega)
      rw [Nat.mul_one] at had
      subst had
      obtain ⟨ad2, rfl, hcells⟩ : ∃ ad, a2 = some ad ∧ ∀ (j : Nat) u, L2[j]? = some u → s.w.cell? (ad.add j) = some u := by
        rcases hso with ⟨_, h, _⟩ | h
        · omega
        · exact h
      have hC : (L2.take (min m n)).length = min m n := by rw [List.length_take]; omega
      obtain ⟨t1, t2, t3⟩ := tr_sta (p := p) (C := L2.take (min m n)) hok hM' h (by omega)
      have hr := run_copy_cells (P := P) s.w T T2 o.type e b p n c ad2 m c2 (L2.take (min m n)) e1 hs1 hC (fun j v hj => hcells j v (by
          rw [List.getElem?_take] at hj
          split at hj
          · exact hj
          · cases hj)) t2 t3 (fun v hv => List.all_eq_true.1 h1 v (List.mem_of_mem_take hv))
      rw [hC] at hr
      exact dg_step (v := goInt ((min m n : Nat) : Int)) (run_builtin ho (fun cs => rfl) (by simpa [hv, hv2] using hr)) t1 rfl (.val _)
    | ownnil h => omega
/-- copy into a part of an array of its own, of elements of one cell -/
theorem op_cpy {T2 : TypeId} {i p n m N : Nat} {d : D} {L L2 : List Value} {fp : List Nat} (ho : o.op = .call { callee := .builtin .copy, args := #[x, y], argTypes := #[T, T2] }) (hT : slE P T = some (e, 1, by')) (hx : Ev pc F x (.own i 1 p n)) (hy : Ev pc F y d) (hsrc : SrcD M fp d m 1 L2) (hM : M[i]? = some (.arr e 1 N L)) (h1 : pc = true → L2.all (·.oneCell') = true) :
    DOp P pc o F M (i :: fp) (.val (.int .i64 ((min m n : Nat) : Int))) [(i, .arr e 1 N (setL L p (L2.take (min m n))))] := by
  intro hp a s hok hops hfp
  exact cpy_go hok hfp (ev_at hp hx (by simp [ho, Op.operands, Call.operands]) hops) (ev_at hp hy (by simp [ho, Op.operands, Call.operands]) hops) ho hT hsrc hM (h1 hp)
/-- .. into all of it -/
theorem op_cpa {T2 : TypeId} {i m N : Nat} {d : D} {L L2 : List Value} {fp : List Nat} (ho : o.op = .call { callee := .builtin .copy, args := #[x, y], argTypes := #[T, T2] }) (hT : slE P T = some (e, 1, by')) (hx : Ev pc F x (.arr i)) (hy : Ev pc F y d) (hsrc : SrcD M fp d m 1 L2) (hM : M[i]? = some (.arr e 1 N L)) (h1 : pc = true → L2.all (·.oneCell') = true) :
    DOp P pc o F M (i :: fp) (.val (.int .i64 ((min m N : Nat) : Int))) [(i, .arr e 1 N (setL L 0 (L2.take (min m N))))] := by
  intro hp a s hok hops hfp
  have hM' : s.M[i]? = some (.arr e 1 N L) := by rw [hfp i (by simp)]; exact hM
  have hrx := ev_at hp hx (by simp [ho, Op.operands, Call.operands]) hops
  have key : Rep s (.own i 1 0 N) (a.eval x) := by
    generalize hv : a.eval x = vx at hrx
    cases hrx with
    | @arr _ ad n' c h =>
      have hk : s.w.ownsRow 0 e 1 _ N L := hok.blk i _ _ hM' h
      rcases hk.2 with ⟨e1, e2⟩ | ⟨g, cap, cur, e1, _, e3, e4, e5, _⟩
      · cases e1
        subst e2
        exact .ownnil h
      · cases e1
        exact .own h (.inr (by rw [Nat.zero_mul])) (by omega) (fun q => by cases q) e4 e5
  exact cpy_go hok hfp key (ev_at hp hy (by simp [ho, Op.operands, Call.operands]) hops) ho hT hsrc hM (h1 hp)
end

section
variable {P : Program} {pc : Bool} {o : Oper} {F : Fr} {M : List Blk} {T T' : TypeId} {x y : Operand} {k k' : IntKind} {p q : Int}
theorem fdiv_pow (p : Int) (j : Nat) : p.fdiv (2 ^ j) = p / 2 ^ j := Int.fdiv_eq_ediv_of_nonneg _ (Int.le_of_lt (Int.pow_pos (by decide)))
theorem op_shr (j : Nat) (ho : o.op = .binOp .shr T x y T') (hx : Ev pc F x (.val (.int k p))) (hy : Ev pc F y (.val (.int k' q))) (hq : pc = true → q = (j : Int) ∧ j ≤ k.bits) : DOp P pc o F M [] (.val (.int k (p / 2 ^ j))) [] := by
  refine op_val2 hx hy (by simp [ho, Op.operands]) fun hp a w e1 e2 => ?_
  obtain ⟨h1, h2⟩ := hq hp
  subst h1
  unfold execOp
  simp only [ho, e1, e2]
  refine run_v ?_
  have hg : (eqGuard .shr T x y (.int k p) (.int k' (j : Int))).run P w = .ok () w := by unfold eqGuard; rfl
  rw [Sem.run_bind, hg]
  simp only [Result.andThen, binOp, Op.shift]
  rw [if_neg (by omega), Int.toNat_natCast, Nat.min_eq_left h2]
  simp [fdiv_pow]
theorem op_shl (j : Nat) (ho : o.op = .binOp .shl T x y T') (hx : Ev pc F x (.val (.int k p))) (hy : Ev pc F y (.val (.int k' q))) (hq : pc = true → q = (j : Int) ∧ j ≤ k.bits) : DOp P pc o F M [] (.val (.int k (k.wrap (p * 2 ^ j)))) [] := by
  refine op_val2 hx hy (by simp [ho, Op.operands]) fun hp a w e1 e2 => ?_
  obtain ⟨h1, h2⟩ := hq hp
  subst h1
  unfold execOp
  simp only [ho, e1, e2]
  refine run_v ?_
  have hg : (eqGuard .shl T x y (.int k p) (.int k' (j : Int))).run P w = .ok () w := by unfold eqGuard; rfl
  rw [Sem.run_bind, hg]
  simp only [Result.andThen, binOp, Op.shift]
  rw [if_neg (by omega), Int.toNat_natCast, Nat.min_eq_left h2]
  simp
def orZ (k : IntKind) (p q : Int) : Int := k.wrap (BitVec.ofInt k.bits p ||| BitVec.ofInt k.bits q).toNat
def andZ (k : IntKind) (p q : Int) : Int := k.wrap (BitVec.ofInt k.bits p &&& BitVec.ofInt k.bits q).toNat
def xorZ (k : IntKind) (p q : Int) : Int := k.wrap (BitVec.ofInt k.bits p ^^^ BitVec.ofInt k.bits q).toNat
theorem op_ior (ho : o.op = .binOp .or T x y T') (hx : Ev pc F x (.val (.int k p))) (hy : Ev pc F y (.val (.int k q))) : DOp P pc o F M [] (.val (.int k (orZ k p q))) [] := int_bin ho hx hy fun w => ⟨by unfold eqGuard; rfl, by simp [binOp, Op.intBits, orZ]⟩
theorem op_iand (ho : o.op = .binOp .and T x y T') (hx : Ev pc F x (.val (.int k p))) (hy : Ev pc F y (.val (.int k q))) : DOp P pc o F M [] (.val (.int k (andZ k p q))) [] := int_bin ho hx hy fun w => ⟨by unfold eqGuard; rfl, by simp [binOp, Op.intBits, andZ]⟩
theorem op_ixor (ho : o.op = .binOp .xor T x y T') (hx : Ev pc F x (.val (.int k p))) (hy : Ev pc F y (.val (.int k q))) : DOp P pc o F M [] (.val (.int k (xorZ k p q))) [] := int_bin ho hx hy fun w => ⟨by unfold eqGuard; rfl, by simp [binOp, Op.intBits, xorZ]⟩
/-- low bits set in: a sum -/
theorem or_low {n b j : Nat} (hb : b < 2 ^ j) (hn : n * 2 ^ j + b < 18446744073709551616) : orZ .u64 ((n : Int) * 2 ^ j) b = (n : Int) * 2 ^ j + b := by
  have hn2 : n * 2 ^ j < 18446744073709551616 := by omega
  have e1 : ((n : Int) * 2 ^ j) = ((n * 2 ^ j : Nat) : Int) := by push_cast; rfl
  have e2 : (BitVec.ofInt 64 ((n * 2 ^ j : Nat) : Int) ||| BitVec.ofInt 64 (b : Int)).toNat = n * 2 ^ j + b := by
    rw [BitVec.ofInt_natCast, BitVec.ofInt_natCast, BitVec.toNat_or, BitVec.toNat_ofNat, BitVec.toNat_ofNat, Nat.mod_eq_of_lt (by omega), Nat.mod_eq_of_lt (by omega)]
    have := Nat.shiftLeft_add_eq_or_of_lt hb n
    rw [Nat.shiftLeft_eq] at this
    exact this.symm
  rw [e1]
  show IntKind.u64.wrap ((BitVec.ofInt 64 ((n * 2 ^ j : Nat) : Int) ||| BitVec.ofInt 64 (b : Int)).toNat : Int) = _
  rw [e2, IntWalk.u64_in _ (by omega)]
  push_cast
  rfl
end

section
variable {P : Program} {pc : Bool} {o : Oper} {F : Fr} {M : List Blk} {T : TypeId} {x lo hi mx : Operand} {n sz : Nat} {α : Type} {en : α → List Value} {l : List α} {k k1 k2 : IntKind} {lz hz mz : Int}
/-- the last elements of an array that stays -/
theorem op_slad3 (p : Nat) (ho : o.op = .slice T x (some lo) (some hi) (some mx)) (hT : arE P T = some (n, sz)) (hx : Ev pc F x (.dpf (l.flatMap en))) (hlo : Ev pc F lo (.val (.int k lz))) (hhi : Ev pc F hi (.val (.int k1 hz))) (hmx : Ev pc F mx (.val (.int k2 mz))) (hp' : pc = true → lz = (p : Int)) (hq : pc = true → hz = (n : Int)) (hm : pc = true → mz = (n : Int)) (hb : pc = true → p ≤ n) (hl : l.length = n) (hn : n ≤ maxLen) (hen : ∀ a, (en a).length = sz) :
    DOp P pc o F M [] (.slf sz (l.drop p).length ((l.drop p).flatMap en)) [] := by
  intro hp a s hok hops _
  have b1 := hb hp
  have hr := ev_at hp hx (by simp [ho, Op.operands]) hops
  have h1 := (ev_at hp hlo (by simp [ho, Op.operands]) hops).val_eq
  have h2 := (ev_at hp hhi (by simp [ho, Op.operands]) hops).val_eq
  have h3 := (ev_at hp hmx (by simp [ho, Op.operands]) hops).val_eq
  rw [hp' hp] at h1
  rw [hq hp] at h2
  rw [hm hp] at h3
  obtain ⟨e, i, e1, e2, e3⟩ := arE_spec hT
  have hlen : (l.drop p).length = n - p := by rw [List.length_drop]; omega
  generalize hv : a.eval x = vx at hr
  cases hr with
  | @dpf b off _ hI hc =>
    have sb : ∀ (k : IntKind) (z : Nat) (m : Nat) (cd : BoundsCode), z ≤ m → (Instr.sliceBound (.int k z) m cd).run P s.w = .ok z s.w := fun k z m cd b => by
      simp [Instr.sliceBound, asIntOf, b]
    have hbs : (Instr.sliceBounds false n n (some (a.eval lo)) (some (a.eval hi)) (some (a.eval mx))).run P s.w = .ok (p, n, n) s.w := by
      rw [h1, h2, h3]
      simp [Instr.sliceBounds, sb k p n _ b1, sb k1 n n _ (Nat.le_refl _), sb k2 n n _ (Nat.le_refl _)]
    have hrun : (execOp a.eval o).run P s.w = .ok (.value (.slice (some (if n = p then ⟨b, off, none⟩ else (⟨b, off, none⟩ : Addr).add (p * sz))) (n - p) (n - p))) s.w := by
      unfold execOp
      simp only [ho, hv]
      refine run_v ?_
      simp [Instr.sliceAt, Instr.sureAddr, run_underlying e1, Sem.run_bind, hbs, sizeOf, typeInfo, e2, e3]
    refine dg_val hok hrun ?_
    rw [hlen]
    have hpart : (l.drop p).flatMap en = (l.flatMap en).drop (p * sz) := by rw [flat_drop hen]
    have hfl : ((l.drop p).flatMap en).length = (n - p) * sz := by rw [flat_len hen, hlen]
    refine .slf hfl (Nat.le_refl _) (by omega) (fun e => by cases e) ?_
    by_cases hz0 : n - p = 0
    · left
      exact List.eq_nil_of_length_eq_zero (by rw [hfl, hz0]; simp)
    · right
      rw [if_neg (by omega)]
      refine ⟨b, off + p * sz, by rw [addr_lit], hI, ?_⟩
      rw [hpart]
      intro j v hj
      rw [List.getElem?_drop] at hj
      rw [Nat.add_assoc]
      exact hc _ v hj
/-- a nil slice reads as a row without elements -/
theorem wk_nil2 {f : FuncId} {args : List D} {e : D} {sz : Nat} (h : DFun P f args [] (.tup [.val (.slice none 0 0), e]) []) : DFun P f args [] (.tup [.slf sz 0 [], e]) [] := by
  refine ⟨h.1, fun s vs hok hM hr => (h.2 s vs hok hM hr).mono ?_⟩
  rintro q w' ⟨s', rfl, ht, hor⟩
  rcases hor with ⟨d0, v, rfl, hrep, ⟨rfl, hMo⟩⟩ | ⟨d0, v, _, _, hf⟩
  · refine ⟨s', rfl, ht, .inl ⟨_, v, rfl, ?_, rfl, hMo⟩⟩
    cases hrep with
    | @tup _ vs hl h =>
      refine .tup (by simpa using hl) fun j d v hj hv => ?_
      match j with
      | 0 =>
        simp at hj
        subst hj
        have := h 0 _ v rfl hv
        cases this with
        | val => exact .slf (by simp) (Nat.le_refl _) (Nat.zero_le _) (fun _ => rfl) (.inl rfl)
      | 1 => exact h 1 d v (by simpa using hj) hv
      | j + 2 => simp at hj
  · exact hf.elim
end

section
variable {P : Program} {pc : Bool} {o : Oper} {F : Fr} {M : List Blk} {T e : TypeId} {by' n : Nat} {ds : List D} {Z : List Value}
def D.isSlf : D → Bool
  | .slf _ _ _ => true
  | _ => false
theorem nlL_slf : ∀ {ds : List D}, ds.all D.isSlf = true → D.nlL ds = true
  | [], _ => rfl
  | d :: ds, h => by
    rw [List.all_cons, Bool.and_eq_true] at h
    have h2 := nlL_slf h.2
    cases d with
    | slf sz n L => simp [D.nlL, D.nl, h2]
    | _ => cases h.1
theorem slf_cell {s : St} {d : D} {v : Value} (h : Rep s d v) (hd : d.isSlf = true) : v.cells = #[v] := by
  cases h <;> first | rfl | cases hd
/-- a slice of slices, that stays as it is made -/
theorem op_bsm {ps : List (Nat × Operand)} (ho : o.op = .buildSlice T n ps.toArray) (hT : slE P T = some (e, 1, by')) (hZ : zrC P e = some Z) (hi : ps.map (·.1) = List.range' 0 n) (hv : EvL pc F (ps.map (·.2)) ds) (hs : ds.all D.isSlf = true) (hn : n ≤ 16777216) :
    DOp P pc o F M [] (.slm 1 n ds) [] := by
  intro hp a s hok hops _
  obtain ⟨r1, r2⟩ := evL_reps (a := a) (s := s) hp _ _ hv (fun x hx => hops x (by rw [ho]; simpa [Op.operands] using hx))
  obtain ⟨vs, hvs⟩ : ∃ vs, vs = (ps.map (·.2)).map a.eval := ⟨_, rfl⟩
  rw [← hvs] at r1 r2
  have hcell : ∀ v ∈ vs, v.cells = #[v] := fun v hv' => by
    obtain ⟨j, hj, rfl⟩ := List.getElem_of_mem hv'
    have hj2 : j < ds.length := by omega
    exact slf_cell (r2 j _ _ (List.getElem?_eq_getElem hj2) (List.getElem?_eq_getElem hj)) (List.all_eq_true.1 hs _ (List.getElem_mem hj2))
  have hlen : vs.length = n := by
    rw [hvs, List.length_map, List.length_map]
    have := congrArg List.length hi
    simpa using this
  have hflat : ∀ us : List Value, (∀ v ∈ us, v.cells = #[v]) → (us.flatMap fun v => v.cells.toList) = us := fun us h => by
    induction us with
    | nil => rfl
    | cons u us ih => rw [List.flatMap_cons, h u (List.mem_cons_self ..), ih fun v hv => h v (List.mem_cons_of_mem _ hv)]; rfl
  have hrun := run_buildSlice (P := P) (w := s.w) ho hT hZ hi hvs.symm (fun v hv => by rw [hcell v hv]; rfl) (by omega)
  rw [hflat vs hcell] at hrun
  have ht := step_imm hok (.cells vs.toArray e)
  refine dg_step (s' := ⟨s.β, fun b => s.I b ∨ b = s.w.heap.size, s.M, _⟩) hrun ht rfl (.slm (nlL_slf hs) (by omega) (Nat.le_refl _) (by unfold maxLen; omega) (fun e => by cases e) r1 (fun j d v h1 h2 => (r2 j d v h1 h2).mono hok ht) (.inr ⟨_, 0, rfl, .inr rfl, ?_⟩))
  simpa using cellsAt_block (heap_alloc_new s.w _) 0
theorem nlL_at : ∀ {l : List D} {j : Nat} {d : D}, D.nlL l = true → l[j]? = some d → d.nl = true
  | [], j, d, _, h => by simp at h
  | a :: l, j, d, h, hj => by
    unfold D.nlL at h
    rw [Bool.and_eq_true] at h
    cases j with
    | zero => simp at hj; subst hj; exact h.1
    | succ j => exact nlL_at h.2 (by simpa using hj)
/-- an element of a slice of slices -/
theorem op_ixm {x y : Operand} {k : IntKind} {z : Int} {d : D} (j : Nat) (ho : o.op = .indexAddr T x y) (hT : slE P T = some (e, 1, by')) (hx : Ev pc F x (.slm 1 n ds)) (hy : Ev pc F y (.val (.int k z))) (hz : pc = true → z = (j : Int)) (hd : ds[j]? = some d) : DOp P pc o F M [] (.dpm [d]) [] := by
  intro hp a s hok hops _
  have hr := ev_at hp hx (by simp [ho, Op.operands]) hops
  have h2 := (ev_at hp hy (by simp [ho, Op.operands]) hops).val_eq
  have hjl : j < ds.length := (List.getElem?_eq_some_iff.1 hd).1
  have hz' := hz hp
  generalize hv : a.eval x = vx at hr
  cases hr with
  | @slm _ _ cap ad _ vs hnl hl hn hc ha hvl h hm =>
    rcases hm with hm | ⟨b, q, rfl, hI, hcl⟩
    · rw [hm] at hjl; simp at hjl
    · have hrun := run_index_sl (P := P) (w := s.w) ho hT hv h2 (by omega) (by omega)
      rw [Addr.add_mid] at hrun
      have hjv : j < vs.length := by omega
      refine dg_val hok hrun (.dpm (vs := [vs[j]]) ?_ hI (fun i v hi => ?_) rfl (fun i d' v h1 h2 => ?_))
      · unfold D.nlL
        rw [nlL_at hnl hd]; rfl
      · cases i with
        | zero =>
          simp at hi
          subst hi
          have e : q + z.toNat * 1 + 0 = q + j := by omega
          rw [e]
          exact hcl j _ (List.getElem?_eq_getElem hjv)
        | succ i => simp at hi
      · cases i with
        | zero =>
          simp at h1 h2
          subst h1 h2
          exact h j _ _ hd (List.getElem?_eq_getElem hjv)
        | succ i => simp at h1
end

section
variable {P : Program} {pc : Bool} {o : Oper} {F : Fr} {M : List Blk}
/-- what stands in one cell -/
def D.oc : D → Bool
  | .slf _ _ _ => true
  | .slm _ _ _ => true
  | .arr _ => true
  | .fn _ _ _ => true
  | .farr _ _ => true
  | .floc _ _ _ => true
  | .val u => u.oneCell'
  | _ => false
theorem oc_one {s : St} {d : D} {v : Value} (h : Rep s d v) (hd : d.oc = true) : v.oneCell' = true := by
  cases h with
  | val v => exact hd
  | slf => rfl
  | slm => rfl
  | arr => rfl
  | fn => rfl
  | farr => rfl
  | floc => rfl
  | _ => cases hd
theorem run_build {T : TypeId} {ps : List (Nat × Operand)} {vs : List Value} {offs : List (Nat × Nat)} {Z R : List Value} {a : Act} {w : World} (ho : o.op = .build T ps.toArray) (hT : fdL P T = some offs) (hZ : zrC P T = some Z) (hvs : (ps.map (·.2)).map a.eval = vs)
    (hB : fillB offs Z.length ((ps.map (·.1)).zip (vs.map fun v => v.cells.toList)) = true) (hR : fillL offs Z ((ps.map (·.1)).zip (vs.map fun v => v.cells.toList)) = R) : (execOp a.eval o).run P w = .ok (.value (.agg R.toArray)) w := by
  obtain ⟨i, z, e1, e2, e3⟩ := zrC_spec hZ
  unfold fdL at hT
  split at hT
  · rename_i fs hu
    have hparts : (ps.toArray.map fun (i, x) => (i, a.eval x)).toList = (ps.map (·.1)).zip vs := by
      rw [← hvs]
      simp only [List.map_toArray]
      clear hB hR hvs ho
      induction ps with
      | nil => rfl
      | cons p ps ih => simp only [List.map_cons, List.zip_cons_cons]; rw [← ih]
    have hz : ((ps.map (·.1)).zip vs).map (fun p => (p.1, p.2.cells.toList)) = (ps.map (·.1)).zip (vs.map fun v => v.cells.toList) := by
      rw [List.zip_map_right]
      rfl
    have hpl : (fs.mapM fun f => (do pure (f.offset, ← sizeOf f.type) : Sem (Nat × Nat))).run P w = .ok offs.toArray w := by
      rw [Array.mapM_eq_mapM_toList, Sem.run_map, mapM_run (P := P) (w := w) _ _ (fun f b hb => ?_) fs.toList offs hT]
      · rfl
      · simp only [Option.map_eq_some_iff] at hb
        obtain ⟨j, hj, rfl⟩ := hb
        simp [sizeOf, typeInfo, hj]
    have hf := fill_struct (offs := offs) ((ps.map (·.1)).zip vs) z.cells (by rw [hz, ← Array.length_toList, e3]; exact hB)
    rw [hz, e3, hR] at hf
    unfold execOp
    simp only [ho]
    refine run_v ?_
    have hz0 : (zeroValue T).run P w = .ok z w := by simp [zeroValue, typeInfo, e1, e2]
    simp only [Instr.build, Sem.run_bind, hz0, run_underlying hu, Result.andThen_ok, hpl, hparts, hf, Sem.run_pure]
  · cases hT
/-- a struct whose first field is a slice -/
theorem op_bld1 {T : TypeId} {x : Operand} {d : D} {offs : List (Nat × Nat)} {z0 : Value} {Z : List Value} (ho : o.op = .build T #[(0, x)]) (hT : fdL P T = some ((0, 1) :: offs)) (hZ : zrC P T = some (z0 :: Z)) (hx : Ev pc F x d) (hd : d.isSlf = true) : DOp P pc o F M [] (.agg (d :: Z.map .val)) [] := by
  intro hp a s hok hops _
  have hr := ev_at hp hx (by simp [ho, Op.operands]) hops
  have hc := slf_cell hr hd
  have hrun := run_build (P := P) (ps := [(0, x)]) (vs := [a.eval x]) (a := a) (w := s.w) (R := a.eval x :: Z) ho hT hZ rfl (by simp [fillB, hc]) (by simp [fillL, hc, setL])
  refine dg_val hok hrun (.agg (by simp) fun j e v h1 h2 => ?_)
  cases j with
  | zero => simp at h1 h2; subst h1 h2; exact hr
  | succ j =>
    simp at h1 h2
    rw [h2] at h1
    simp at h1
    subst h1
    exact .val _
/-- a struct that has but one field -/
theorem op_bldA {T : TypeId} {x : Operand} {ds : List D} {Z : List Value} (ho : o.op = .build T #[(0, x)]) (hx : Ev pc F x (.agg ds)) (hT : fdL P T = some [(0, ds.length)]) (hZ : zrC P T = some Z) (hl : Z.length = ds.length) : DOp P pc o F M [] (.agg ds) [] := by
  intro hp a s hok hops _
  have hr := ev_at hp hx (by simp [ho, Op.operands]) hops
  generalize hv : a.eval x = vx at hr
  cases hr with
  | @agg _ vs hvl h =>
    have hrun := run_build (P := P) (ps := [(0, x)]) (vs := [.agg vs.toArray]) (a := a) (w := s.w) (R := vs) ho hT hZ (by simp [hv]) (by simp [fillB, Value.cells, hvl, hl]) (by
      simp only [List.map_cons, List.map_nil, List.zip_cons_cons, List.zip_nil_left, fillL, List.getElem?_cons_zero, Value.cells]
      exact setL_all (by omega))
    exact dg_val hok hrun (.agg hvl h)
/-- such a struct into a new variable -/
theorem op_boxam {T : TypeId} {x : Operand} {ds : List D} (j : Nat) (ho : o.op = .box T x) (hx : Ev pc F x (.agg ds)) (hj : M[j]? = some .hole) : DOp P pc o F M [j] (.loc j 0) [(j, .mix T ds)] := by
  intro hp a s hok hops hfp
  have hr := ev_at hp hx (by simp [ho, Op.operands]) hops
  have hj' : s.M[j]? = some .hole := by rw [hfp j (by simp)]; exact hj
  have hjl : j < s.β.length := by rw [hok.len]; exact (List.getElem?_eq_some_iff.1 hj').1
  have hβ : s.β[j]? = some .nilFunc := by
    have e : s.β[j]? = some s.β[j] := List.getElem?_eq_getElem hjl
    have : s.β[j] = .nilFunc := hok.blk j .hole _ hj' e
    rw [e, this]
  generalize hv : a.eval x = vx at hr
  cases hr with
  | @agg _ vs hvl h =>
    have ht : Tr s ⟨s.β.set j (.pointer (some ⟨s.w.heap.size, 0, none⟩)), s.I, s.M.set j (.mix T ds), s.w.alloc (.cells vs.toArray T)⟩ := by
      refine tr_new hok hj' _ _ _ (by simp) (fun b hb => by simpa [hb] using (Option.some.inj hb).symm) (fun b h => Below.heap_alloc _ _ _ h) (fun b hb => ?_) (by simp) rfl rfl rfl ⟨_, vs, rfl, heap_alloc_new s.w _, hvl, fun k e v hk hv => ?_⟩
      · cases hb; simp
      · refine Rep.mono' (s := s) (s' := ⟨s.β.set j (.pointer (some ⟨s.w.heap.size, 0, none⟩)), s.I, s.M.set j (.mix T ds), s.w.alloc (.cells vs.toArray T)⟩) (fun i h hi hne => ?_) (fun _ h => h) (fun b hI => Below.heap_alloc _ _ _ (hok.il b hI)) (h k e v hk hv)
        show (s.β.set j _)[i]? = some h
        by_cases e : j = i
        · subst e; rw [hi] at hβ; exact absurd (Option.some.inj hβ) hne
        · rw [List.getElem?_set_ne e]; exact hi
    refine dg_step (v := .pointer (some ⟨s.w.heap.size, 0, none⟩)) ?_ ht rfl (rep_new hjl rfl)
    unfold execOp
    simp only [ho, hv]
    rfl
/-- .. into a variable as a whole -/
theorem op_stam {T T' : TypeId} {x y : Operand} {i k : Nat} {rw' : Bool} {ds : List D} {L : List Value} (ho : o.op = .store T x y) (hT : tyB P T = some (rw', k)) (hx : Ev pc F x (.loc i 0)) (hy : Ev pc F y (.agg ds)) (hM : M[i]? = some (.flat T' L)) (hk : ds.length = k) (hfit : ds.length = L.length) (h1 : ds.all D.oc = true) : DOp P pc o F M [i] .junk [(i, .mix T' ds)] := by
  intro hp a s hok hops hfp
  have hr := ev_at hp hx (by simp [ho, Op.operands]) hops
  have hry := ev_at hp hy (by simp [ho, Op.operands]) hops
  have hM' : s.M[i]? = some (.flat T' L) := by rw [hfp i (by simp)]; exact hM
  generalize hv : a.eval x = vx at hr
  generalize hvy : a.eval y = vy at hry
  cases hr with
  | @loc _ _ b h =>
    cases hry with
    | @agg _ vs hvl hd =>
      obtain ⟨b', e1, e2⟩ := hok.blk i _ _ hM' h
      cases e1
      have hcell := cellsAt_block e2 0
      have hoc : ∀ u ∈ vs, u.oneCell' = true := fun u hu => by
        obtain ⟨j, hj, rfl⟩ := List.getElem_of_mem hu
        have hj2 : j < ds.length := by omega
        exact oc_one (hd j _ _ (List.getElem?_eq_getElem hj2) (List.getElem?_eq_getElem hj)) (List.all_eq_true.1 h1 _ (List.getElem_mem hj2))
      have hrun := run_store (P := P) (w := s.w) (C := vs) ho hT hv hvy rfl (by omega) (fun j hj => by
          have hp' : j < L.length := by omega
          have := hcell j L[j] (by simp [hp'])
          rw [Nat.zero_add] at this
          rw [Nat.zero_add, this]; rfl) (fun j hj => by simp [World.frozen?, e2]) hoc
      have hβ : s.β.set i (.pointer (some ⟨b, 0, none⟩)) = s.β := by
        apply List.ext_getElem?
        intro k
        by_cases e : i = k
        · subst e; rw [List.getElem?_set_self (List.getElem?_eq_some_iff.1 h).1, h]
        · rw [List.getElem?_set_ne e]
      refine dg_skip (s' := ⟨s.β.set i (.pointer (some ⟨b, 0, none⟩)), s.I, s.M.set i (.mix T' ds), s.w.setCells b 0 vs⟩) hrun (tr_store hok hM' rfl h rfl 0 _ ?_) rfl
      have hall : setL L 0 vs = vs := setL_all (by omega)
      have hblk := setCells_block b vs 0 s.w L T' e2
      rw [hall] at hblk
      refine ⟨b, vs, rfl, hblk, hvl, fun j e v hj hv' => ?_⟩
      refine Rep.mono' (s := s) (s' := ⟨s.β.set i (.pointer (some ⟨b, 0, none⟩)), s.I, s.M.set i (.mix T' ds), s.w.setCells b 0 vs⟩) (fun k x hk _ => by show (s.β.set i _)[k]? = _; rw [hβ]; exact hk) (fun _ h => h) (fun b' hI => setCells_other b _ 0 s.w b' fun e => ?_) (hd j e v hj hv')
      subst e
      exact (hok.lt b' (live_of hM' rfl h rfl)).2 hI
end

section
variable {P : Program} {pc : Bool} {o : Oper} {F : Fr} {M : List Blk}
def ptT (P : Program) (T : TypeId) : Option TypeId := match P.underlying T with
  | some (.pointer e) => some e
  | _ => none
theorem ptT_spec {P : Program} {T e : TypeId} (h : ptT P T = some e) : P.underlying T = some (.pointer e) := by
  unfold ptT at h
  split at h
  · rename_i e' h1; cases h; exact h1
  · cases h
/-- the address of a block is not nil -/
theorem op_pnil {T T' e : TypeId} {x : Operand} {i q : Nat} (ho : o.op = .binOp .eql T x (.const (.pointer none)) T') (hT : ptT P T = some e) (hx : Ev pc F x (.loc i q)) : DOp P pc o F M [] (.val (.bool false)) [] := by
  intro hp a s hok hops _
  have hr := ev_at hp hx (by simp [ho, Op.operands]) hops
  generalize hv : a.eval x = vx at hr
  cases hr with
  | @loc _ _ b h =>
    refine dg_val (v := .bool false) hok ?_ (.val _)
    unfold execOp
    simp only [ho, hv]
    refine run_v ?_
    have hc : a.eval (.const (.pointer none)) = .pointer none := rfl
    rw [hc]
    have hg : (eqGuard .eql T x (.const (.pointer none)) (.pointer (some ⟨b, q, none⟩)) (.pointer none)).run P s.w = .ok () s.w := by unfold eqGuard; rfl
    rw [Sem.run_bind, hg]
    have he := run_equal_pointer_nil (P := P) s.w T (some ⟨b, q, none⟩) (by rw [show P.pointee T = e by simp [Program.pointee, ptT_spec hT]]; exact ptT_spec hT)
    simp only [Result.andThen, binOp, Sem.run_bind, he]
    rfl
end

section
variable {P : Program} {pc : Bool} {o : Oper} {F : Fr} {M : List Blk}
/-- .. read as a row that stays -/
theorem op_sl3f {α : Type} {en : α → List Value} {r : List α} {T e : TypeId} {sz by' : Nat} {x hi mx : Operand} {k k' : IntKind} {h h' : Int} {j : Nat} (ho : o.op = .slice T x none (some hi) (some mx)) (hT : slE P T = some (e, sz, by')) (hx : Ev pc F x (.slf sz r.length (r.flatMap en))) (hhi : Ev pc F hi (.val (.int k h))) (hmx : Ev pc F mx (.val (.int k' h')))
    (hh : pc = true → h = (j : Int)) (hm : pc = true → h' = (j : Int)) (hj : pc = true → j ≤ r.length) (hen : ∀ a, (en a).length = sz) : DOp P pc o F M [] (.slf sz (r.take j).length ((r.take j).flatMap en)) [] := by
  intro hp a s hok hops _
  have hr := ev_at hp hx (by simp [ho, Op.operands]) hops
  have e1 := (ev_at hp hhi (by simp [ho, Op.operands]) hops).val_eq
  have e2 := (ev_at hp hmx (by simp [ho, Op.operands]) hops).val_eq
  rw [hh hp] at e1
  rw [hm hp] at e2
  have hjl := hj hp
  obtain ⟨q1, ti, q2, q3, q4⟩ := slE_spec hT
  have hlen : (r.take j).length = j := by rw [List.length_take]; omega
  generalize hv : a.eval x = vx at hr
  cases hr with
  | @slf _ _ cap ad _ hl hn hc ha hL =>
    have hjc : j ≤ cap := by omega
    have hrun : (execOp a.eval o).run P s.w = .ok (.value (.slice ad j j)) s.w := by
      unfold execOp
      simp only [ho, hv, Option.map_some, Option.map_none, e1, e2]
      refine run_v ?_
      have hj0 : (0 : Int) ≤ (j : Int) ∧ (j : Int) ≤ (cap : Int) := by omega
      simp [Instr.sliceAt, Instr.slice, run_underlying q1, Sem.run_bind, Instr.sliceBounds, Instr.sliceBound, asIntOf, hjc, sizeOf, typeInfo, q2, Addr.add_zero']
    refine dg_val hok hrun ?_
    rw [hlen]
    refine .slf (by rw [flat_len hen, hlen]) (Nat.le_refl _) (by omega) (fun e => by have := ha e; omega) ?_
    rcases hL with hL | ⟨b, q, e, hI, hcl⟩
    · left
      have : (r.take j).flatMap en = (r.flatMap en).take (j * sz) := by rw [flat_take hen]
      rw [this, hL]; simp
    · right
      refine ⟨b, q, e, hI, ?_⟩
      have : (r.take j).flatMap en = (r.flatMap en).take (j * sz) := by rw [flat_take hen]
      rw [this]
      have h5 := cellsAt_sub hcl 0 (j * sz)
      simpa using h5
end
end Go.Proofs.Ytgomklemldldiaa
