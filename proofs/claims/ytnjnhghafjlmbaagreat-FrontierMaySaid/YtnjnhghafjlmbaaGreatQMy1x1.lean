/- Operations: numbers, bools, structs, memory that is read and written. Conditions: what a type is, by the kernel; Operations on slices: made, cut, grown; tuples; function values; structs. Conditions: what a type is, by the kernel; Ends of calls; structs built; bools and strings compared; least and greatest; slices taken over, and given up. Conditions: what a type is, by the kernel; Scopes; slices beside nil; rows of one's own, element by element. Conditions: what a type is, by the kernel; Codes within a function; a loop's rounds one by one; strings; Strings: put together, cut, indexed, ranged over; numbers by their bits; Memory that stays from now on, within a call; arrays as rows of elements; parts of arrays; Single operations of programs: rows that are turned to their own type, rows made whole and left so, arrays of listed parts, nil rows; Structs of data that stay: boxed; arrays in the. No condition. -/
import Derived.Test.YtnjnhghafjlmbaaGreatQ6
import Derived.WalkKit
import Derived.Below
import Derived.Laws.AppendOwn
import Derived.RangeFuncRecord
import Derived.RangeFuncLeaves
import Derived.OrdersIn
import Derived.Deep.MidRow
import Derived.Laws.MakeOwn
import Derived.IntWalk
import Derived.Laws.OwnMore
import Derived.OwnWalk
import Derived.Recover
import Derived.RangeFuncIn
import Derived.Laws.StructEq
import Derived.Laws.IdiomCopy
import Derived.Laws.Pointers
import Derived.Laws.LoneSync
import Derived.Test.YtnjnhghafjlmbaaGreatRows
import Derived.Test.YtnjnhghafjlmbaaGreatProg
import Derived.OpenShut
import Derived.ChangeArms
import Derived.DataReads
import Derived.Deep.Slices
import Derived.JoinedOf
import Derived.JoinedAt
import Derived.Lib.SmallJoins
import Derived.Carry
import Derived.ProofKit
import Derived.RowKit3
import Derived.LaidMore
import Derived.Handed
import Derived.LaidHandle
import Derived.Stop.Joined
namespace Go.Proofs.YtnjnhghafjlmbaaGreat
set_option linter.unusedVariables false
set_option linter.unusedSimpArgs false
open Go.RowKit

/-! ### what a type is -/
section
variable {P : Program} {pc : Bool} {o : Oper} {F : Fr} {M : List Blk}
section
variable {T T' : TypeId} {x y : Operand} {k : IntKind} {p q : Int}
end
section
variable {T : TypeId} {x : Operand} {i p k : Nat} {L R : List Value} {v : Value}
theorem arr_cells {s : St} (hok : Ok s) {T' : TypeId} {sz n n' c b : Nat} (h1 : s.M[i]? = some (.arr T' sz n L)) (h2 : s.β[i]? = some (.slice (some ⟨b, 0, none⟩) n' c)) : n' = n ∧ L.length = n * sz ∧ n ≤ c ∧ c ≤ maxLen ∧ cellsAt s.w b 0 L ∧ ∃ cur, s.w.heap[b]? = some (.cells cur T' (0, 0)) ∧ L.length ≤ cur.size ∧ cur.toList.take L.length = L := by
  have hk : s.w.ownsRow 0 T' sz _ n L := hok.blk i _ _ h1 h2
  rcases hk.2 with ⟨e1, e2⟩ | ⟨g, cap, cur, e1, e2, e3, e4, e5, e6, e7⟩
  · cases e1
  · cases e1
    have hc0 := cellsAt_sub (cellsAt_block e3 0) 0 (n * sz)
    have hle := Nat.mul_le_mul_right sz e4
    exact ⟨rfl, hk.1, e4, e5, by simpa [e7] using hc0, cur, e3, by rw [hk.1, e6]; exact hle, by rw [hk.1]; exact e7⟩
theorem op_ldoa {T' : TypeId} {sz n : Nat} (ho : o.op = .load T x) (hT : tyB P T = some (false, k)) (hx : Ev pc F x (.aloc i p)) (hM : M[i]? = some (.arr T' sz n L)) (hR : L[p]? = some v) : DOp P pc o F M [i] (.val v) [] := by
  intro hp a s hok hops hfp
  have hr := ev_at hp hx (by simp [ho, Op.operands]) hops
  generalize hv : a.eval x = vx at hr
  cases hr with
  | @aloc _ _ n' c b h =>
    obtain ⟨_, _, _, _, hc, _⟩ := arr_cells hok (by rw [hfp i (by simp)]; exact hM) h
    exact dg_val hok (run_load_one ho hT hv (by simpa using hc p v hR)) (.val _)

/-! ### addresses -/
end
section
variable {T : TypeId} {x y : Operand} {i p n sz : Nat} {k : IntKind} {z : Int} {L : List Value}
variable {e : TypeId} {by' m : Nat}
/-- an element of an array of its own -/
theorem op_ixa {T' : TypeId} (ho : o.op = .indexAddr T x y) (hT : slE P T = some (e, sz, by')) (hx : Ev pc F x (.arr i)) (hy : Ev pc F y (.val (.int k z))) (hM : M[i]? = some (.arr T' sz m L)) (h : pc = true → 0 ≤ z ∧ z < m) : DOp P pc o F M [i] (.aloc i (z.toNat * sz)) [] := by
  intro hp a s hok hops hfp
  have hr := ev_at hp hx (by simp [ho, Op.operands]) hops
  have h2 := (ev_at hp hy (by simp [ho, Op.operands]) hops).val_eq
  obtain ⟨h3, h4⟩ := h hp
  generalize hv : a.eval x = vx at hr
  cases hr with
  | @arr _ ad n' c hb =>
    have hM' : s.M[i]? = some (.arr T' sz m L) := by rw [hfp i (by simp)]; exact hM
    have hk : s.w.ownsRow 0 T' sz _ m L := hok.blk i _ _ hM' hb
    rcases hk.2 with ⟨e1, e2⟩ | ⟨g, cap, cur, e1, e2, e3, e4, e5, e6, e7⟩
    · exfalso; omega
    · cases e1
      refine dg_val hok (run_index_sl ho hT hv h2 h3 h4) ?_
      rw [Addr.add_mid, Nat.zero_add]
      exact .aloc hb
end
end
end Go.Proofs.YtnjnhghafjlmbaaGreat
namespace Go.Proofs.YtnjnhghafjlmbaaGreat
set_option linter.unusedVariables false
set_option linter.unusedSimpArgs false
open Go.RowKit
section
variable {P : Program} {pc : Bool} {o : Oper} {F : Fr} {M : List Blk}
theorem op_lena {T T' : TypeId} {x : Operand} {q : TypeId × Nat × Nat} {i sz n : Nat} {L : List Value} (ho : o.op = .call { callee := .builtin .len, args := #[x], argTypes := #[T] }) (hT : slE P T = some q) (hx : Ev pc F x (.arr i)) (hM : M[i]? = some (.arr T' sz n L)) : DOp P pc o F M [i] (.val (.int .i64 n)) [] := by
  intro hp a s hok hops hfp
  obtain ⟨e1, _⟩ := slE_spec hT
  have hr := ev_at hp hx (by simp [ho, Op.operands, Call.operands]) hops
  generalize hv : a.eval x = vx at hr
  cases hr with
  | arr h =>
    have hM' : s.M[i]? = some (.arr T' sz n L) := by rw [hfp i (by simp)]; exact hM
    have hk : s.w.ownsRow 0 T' sz _ n L := hok.blk i _ _ hM' h
    refine dg_val hok (run_builtin ho (fun cs => rfl) ?_) (.val (.int .i64 n))
    rcases hk.2 with ⟨e2, e3⟩ | ⟨g, cap, cur, e2, _⟩
    · cases e2; simp [Builtin.len_, hv, run_underlying e1, goInt, e3]
    · cases e2; simp [Builtin.len_, hv, run_underlying e1, goInt]
theorem bd_some {y : Operand} {k : IntKind} {z q : Int} (h : Ev pc F y (.val (.int k z))) : Bd pc F (some y) q z := ⟨k, h⟩
theorem run_slice {T e : TypeId} {sz by' : Nat} {x : Operand} {lo hi : Option Operand} {a : Act} {w : World} {ad : Option Addr} {n c : Nat} {l h : Int} (ho : o.op = .slice T x lo hi none) (hT : slE P T = some (e, sz, by')) (hx : a.eval x = .slice ad n c)
    (hlo : lo.map a.eval = none ∧ l = 0 ∨ ∃ k, lo.map a.eval = some (.int k l)) (hhi : hi.map a.eval = none ∧ h = n ∨ ∃ k, hi.map a.eval = some (.int k h)) (h0 : 0 ≤ l) (h1 : l ≤ h) (h2 : h ≤ n) (h3 : n ≤ c) :
    (execOp a.eval o).run P w = .ok (.value (.slice (if c = l.toNat then ad else ad.map (·.add (l.toNat * sz))) (h.toNat - l.toNat) (c - l.toNat))) w := by
  obtain ⟨e1, i, e2, e3, _⟩ := slE_spec hT
  have eh : (h.toNat : Int) = h := Int.toNat_of_nonneg (by omega)
  unfold execOp
  simp only [ho, hx]
  refine run_v ?_
  have hb : (Instr.sliceBounds true n c (lo.map a.eval) (hi.map a.eval) none).run P w = .ok (l.toNat, h.toNat, c) w := by
    have sb : ∀ (k : IntKind) (z : Int) (m : Nat) (cd : BoundsCode), 0 ≤ z → z ≤ m → (Instr.sliceBound (.int k z) m cd).run P w = .ok z.toNat w := fun k z m cd a b => by
      simp [Instr.sliceBound, asIntOf, a, b]
    have el : l.toNat ≤ h.toNat := by omega
    rcases hlo with ⟨q1, q3⟩ | ⟨kl, q1⟩ <;> rcases hhi with ⟨q2, q4⟩ | ⟨kh, q2⟩ <;> rw [q1, q2]
    · have g1 : l.toNat = 0 := by omega
      have g2 : h.toNat = n := by omega
      simp [Instr.sliceBounds, g1, g2]
    · have g1 : l.toNat = 0 := by omega
      simp [Instr.sliceBounds, g1, sb kh h c _ (by omega) (by omega)]
    · have g2 : h.toNat = n := by omega
      simp [Instr.sliceBounds, g2, sb kl l n _ (by omega) (by omega)]
    · simp [Instr.sliceBounds, sb kh h c _ (by omega) (by omega), sb kl l h.toNat _ (by omega) (by omega)]
  simp [Instr.sliceAt, Instr.slice, run_underlying e1, Sem.run_bind, hb, sizeOf, typeInfo, e2, e3]
/-- a part of a slice that stays -/
theorem op_sls {T e : TypeId} {sz by' n : Nat} {x : Operand} {lo hi : Option Operand} {L : List Value} {l h : Int} (ho : o.op = .slice T x lo hi none) (hT : slE P T = some (e, sz, by')) (hx : Ev pc F x (.slf sz n L)) (hlo : Bd pc F lo 0 l) (hhi : Bd pc F hi n h)
    (hb : pc = true → 0 ≤ l ∧ l ≤ h ∧ h ≤ n) : DOp P pc o F M [] (.slf sz (h.toNat - l.toNat) ((L.drop (l.toNat * sz)).take ((h.toNat - l.toNat) * sz))) [] := by
  intro hp a s hok hops _
  obtain ⟨b1, b2, b3⟩ := hb hp
  have hr := ev_at hp hx (by simp [ho, Op.operands]) hops
  generalize hv : a.eval x = vx at hr
  cases hr with
  | @slf _ _ cap ad _ hl hn hc ha hL =>
    refine dg_val hok (run_slice ho hT hv (bd_at hp hlo (fun u e => by subst e; simp [ho, Op.operands]) hops) (bd_at hp hhi (fun u e => by subst e; simp [ho, Op.operands]) hops) b1 b2 b3 hn) ?_
    have hlen : ((L.drop (l.toNat * sz)).take ((h.toNat - l.toNat) * sz)).length = (h.toNat - l.toNat) * sz := by
      rw [List.length_take, List.length_drop, hl, ← Nat.mul_sub_right_distrib]
      exact Nat.min_eq_left (Nat.mul_le_mul_right _ (by omega))
    refine .slf hlen (by omega) (by omega) (fun e => ?_) ?_
    · split at e
      · omega
      · cases ad with
        | none => have := ha rfl; omega
        | some ad => cases e
    · rcases hL with rfl | ⟨b, q, rfl, hI, hcl⟩
      · left; simp
      · by_cases hz : cap = l.toNat
        · left
          have : h.toNat - l.toNat = 0 := by omega
          rw [this]; simp
        · right
          rw [if_neg hz]
          exact ⟨b, q + l.toNat * sz, by rw [Option.map_some, Addr.add_mid], hI, cellsAt_sub hcl _ _⟩
theorem op_slsr {α : Type} {en : α → List Value} {r : List α} {T e : TypeId} {sz by' : Nat} {x : Operand} {lo hi : Option Operand} {l h : Int} {i j : Nat} (hen : ∀ a, (en a).length = sz) (ho : o.op = .slice T x lo hi none) (hT : slE P T = some (e, sz, by')) (hx : Ev pc F x (.slf sz r.length (r.flatMap en))) (hlo : Bd pc F lo 0 l) (hhi : Bd pc F hi r.length h)
    (hl : l = (i : Int)) (hh : h = (j : Int)) (hij : pc = true → i ≤ j ∧ j ≤ r.length) : DOp P pc o F M [] (.slf sz (j - i) (((r.drop i).take (j - i)).flatMap en)) [] := by
  subst hl hh
  have := op_sls (P := P) (M := M) ho hT hx hlo hhi (fun hp => by have := hij hp; omega)
  rw [Int.toNat_natCast, Int.toNat_natCast, flat_drop hen, flat_take hen] at this
  exact this
section
variable {T e : TypeId} {sz by' n : Nat} {ps : List (Nat × Operand)} {vs Z : List Value}
/-- .. as an array of its own, in the place j -/
theorem op_bsa (j : Nat) (ho : o.op = .buildSlice T n ps.toArray) (hT : slE P T = some (e, sz, by')) (hZ : zrC P e = some Z) (hi : ps.map (·.1) = List.range' 0 n) (hv : EvV pc F (ps.map (·.2)) vs) (hs : vs.all (fun v => v.cells.size == sz) = true) (hbig : n * sz ≤ 16777216) (hn : n ≤ 16777216) (hj : M[j]? = some .hole) :
    DOp P pc o F M [j] (.arr j) [(j, .arr e sz n (vs.flatMap fun v => v.cells.toList))] := by
  intro hp a s hok hops hfp
  have hs' : ∀ v ∈ vs, v.cells.size = sz := fun v hv => by simpa using List.all_eq_true.1 hs v hv
  have hvs := evV_ps hp ho hv hops
  have hlen : vs.length = n := by
    rw [← hvs, List.length_map, List.length_map]
    have := congrArg List.length hi
    simpa using this
  have hj' : s.M[j]? = some .hole := by rw [hfp j (by simp)]; exact hj
  have hjl : j < s.β.length := by rw [hok.len]; exact (List.getElem?_eq_some_iff.1 hj').1
  have hrun := run_buildSlice (P := P) (w := s.w) ho hT hZ hi hvs hs' hbig
  refine dg_step (s' := ⟨s.β.set j (.slice (some ⟨s.w.heap.size, 0, none⟩) n n), s.I, s.M.set j (.arr e sz n (vs.flatMap fun v => v.cells.toList)), _⟩) hrun (tr_new hok hj' _ _ _ (by simp) (fun b hb => by cases hb; rfl) (fun b h => Below.heap_alloc _ _ _ h) (fun b hb => by cases hb; simp) (by simp) rfl rfl rfl ?_) rfl (.arr (by simp [hjl]))
  have := World.ownsRow_lit (base := 0) (e := e) (size := sz) s.w (vs.flatMap fun v => v.cells.toList).toArray n (Nat.zero_le _) (by unfold maxLen; omega) (by simp only [List.size_toArray]; rw [cells_sum hs', hlen])
  exact this
end

/-! ### append -/
end
end Go.Proofs.YtnjnhghafjlmbaaGreat
namespace Go.Proofs.YtnjnhghafjlmbaaGreat
set_option linter.unusedVariables false
set_option linter.unusedSimpArgs false
open Go.RowKit
section
variable {P : Program} {fn : Func} {F : Fr} {M : List Blk} {t u v : Tmp} {d d' e f dr : D}
end
section
variable {P : Program} {pc : Bool} {o : Oper} {F : Fr} {M : List Blk}

/-! ### structs built -/
theorem op_neb {T T' : TypeId} {x y : Operand} {p q : Bool} (ho : o.op = .binOp .neq T x y T') (hT : P.underlying T = some .bool) (hx : Ev pc F x (.val (.bool p))) (hy : Ev pc F y (.val (.bool q))) : DOp P pc o F M [] (.val (.bool (p != q))) [] :=
  op_nev ho hx hy (fun w => by unfold eqGuard; rfl) fun w => by
    have h : ∀ d, (Op.equalIn (d + 1) T (.bool p) (.bool q)).run P w = .ok (p == q) w := fun d => by simp [Op.equalIn, run_underlying hT]
    show (do pure (Value.bool (!(← Op.equalIn (9999 + 1) T (.bool p) (.bool q)))) : Sem Value).run P w = _
    rw [Sem.run_bind, h 9999]; rfl
theorem op_min {x y : Operand} {T U : TypeId} {k : IntKind} {p q : Int} (ho : o.op = .call { callee := .builtin .min, args := #[x, y], argTypes := #[T, U] }) (hx : Ev pc F x (.val (.int k p))) (hy : Ev pc F y (.val (.int k q))) : DOp P pc o F M [] (.val (.int k (min p q))) [] := by
  refine op_val2 hx hy (by simp [ho, Op.operands, Call.operands]) fun _ a w e1 e2 => run_builtin ho (fun cs => rfl) ?_
  have : (if q < p then q else p) = min p q := by rw [Int.min_def]; split <;> split <;> omega
  simp [Builtin.min_, e1, e2, Builtin.min2, this]
end
section
variable {P : Program} {s0 : St} {n : Cx}
/-- a nil slice taken over as an array of its own -/
theorem inv_adopt {F : Fr} {M : List Blk} {a : Act} {w : World} {t : Nat} (e : TypeId) (sz : Nat) (h : Inv s0 n F M a w) (ht : lk F t = some (.val (.slice none 0 0))) : Inv s0 n ((t, .arr M.length) :: F) (M ++ [.arr e sz 0 []]) a w := by
  obtain ⟨h0, s, rfl, rfl, h3, h4, h5, h6⟩ := h
  have t1 := step_hole h3.ok
  have hlen := h3.ok.len
  have hn : (s.M ++ [Blk.hole])[s.M.length]? = some .hole := by simp
  have t2 : Tr ⟨s.β ++ [Value.nilFunc], s.I, s.M ++ [Blk.hole], s.w⟩ ⟨(s.β ++ [Value.nilFunc]).set s.M.length (.slice none 0 0), s.I, (s.M ++ [Blk.hole]).set s.M.length (.arr e sz 0 []), s.w⟩ :=
    tr_new (s := ⟨s.β ++ [Value.nilFunc], s.I, s.M ++ [Blk.hole], s.w⟩) t1.ok (j := s.M.length) hn (.slice none 0 0) (.arr e sz 0 []) s.w (by simp) (fun b hb => by cases hb) (fun b _ => rfl) (fun b hb => by cases hb) (Nat.le_refl _) rfl rfl rfl (World.ownsRow_nil s.w 0 e sz)
  have tt := t1.trans t2
  refine ⟨h0, ⟨(s.β ++ [Value.nilFunc]).set s.M.length (.slice none 0 0), s.I, (s.M ++ [Blk.hole]).set s.M.length (.arr e sz 0 []), s.w⟩, by simp, rfl, h3.trans tt, fun x d hd => ?_, h5, h6.mono h3.ok tt⟩
  rw [lk_cons] at hd
  split at hd
  · rename_i e'
    subst e'
    obtain rfl := Option.some.inj hd
    have := (h4 t _ ht).val_eq
    rw [this]
    exact .arr (by simp [hlen])
  · exact (h4 x d hd).mono h3.ok tt
theorem dwp_adopt {c : Code} {F : Fr} {M M' : List Blk} {K : Cont} (t : Nat) (e : TypeId) (sz : Nat) {m : Nat} (ht : lk F t = some (.val (.slice none 0 0))) (hm : M.length = m) (hM : M ++ [.arr e sz 0 []] = M') (h : dwp P s0 n c ((t, .arr m) :: F) M' K) : dwp P s0 n c F M K := by
  subst hm hM
  exact fun a w hi => h a w (inv_adopt e sz hi ht)
end
end Go.Proofs.YtnjnhghafjlmbaaGreat
namespace Go.Proofs.YtnjnhghafjlmbaaGreat
set_option linter.unusedVariables false
set_option linter.unusedSimpArgs false
open Go.RowKit
section
variable {P : Program} {s0 : St} {n : Cx}
variable {ops : Array Oper}
/-- is a slice nil? -/
theorem walk_nil? {o : Oper} {rest : List Oper} {F : Fr} {M : List Blk} {K : Cont} {T T' e : TypeId} {sz by' m t : Nat} {L : List Value} {x : Operand} (hg : o.guard = none) (hd : o.dst = some t) (ht : Nat.blt t n.n = true) (ho : o.op = .binOp .eql T x (.const (.slice none 0 0)) T') (hT : slE P T = some (e, sz, by')) (hx : Ev true F x (.slf sz m L))
    (hk : ∀ b, (b = true → m = 0 ∧ L = []) → Walk P s0 n ops rest ((t, .val (.bool b)) :: F) M K) : Walk P s0 n ops (o :: rest) F M K := by
  intro a w hi
  have hi' := hi
  obtain ⟨h0, s, h1, h2, h3, h4, h5, h6⟩ := hi
  obtain ⟨dx, ex1, ex2⟩ := hx
  have hrx := ex2 s _ rfl (ev_rep h4 ex1)
  generalize hvx : a.eval x = vx at hrx
  cases hrx with
  | @slf _ _ cap ad _ hl hn hc ha hm =>
    obtain ⟨hu, _⟩ := slE_spec hT
    have hrun : (execOp a.eval o).run P w = .ok (.value (.bool ad.isNone)) w := by
      unfold execOp
      simp only [ho]
      have hv : a.eval (.const (.slice none 0 0)) = .slice none 0 0 := rfl
      rw [hv, hvx]
      refine run_v ?_
      simp only [eqGuard, binOp, Sem.run_bind]
      have heq : ∀ d, (Op.equalIn (d + 1) T (.slice ad m cap) (.slice none 0 0)).run P w = .ok ad.isNone w := fun d => by
        unfold Op.equalIn
        rw [Sem.run_bind, run_underlying hu]
        cases ad <;> simp
      have heq' : (Op.equalIn Op.maxDepth T (.slice ad m cap) (.slice none 0 0)).run P w = .ok ad.isNone w := heq 9999
      simp [Op.equal, heq', Sem.run_bind, go_sem]
    have hfin := hk ad.isNone (fun hb => by
      cases ad with
      | none => have := ha rfl; exact ⟨by omega, List.eq_nil_of_length_eq_zero (by rw [hl, show m = 0 by omega]; simp)⟩
      | some q => cases hb) (a.put o.dst (.bool ad.isNone)) w (by
        obtain ⟨h0, s, h1, h2, h3, h4, h5, h6⟩ := hi'
        refine ⟨h0, s, h1, h2, h3, ?_, by rw [put_size]; exact h5, by rw [put_def]; exact h6⟩
        rw [hd]
        exact h4.put (by rw [h5]; exact Nat.blt_eq.mp ht) (.val _))
    show if Region.wanted o (yielded ops a.tmps) then _ else _
    have hw : Region.wanted o (yielded ops a.tmps) = true := by unfold Region.wanted; rw [hg]
    rw [if_pos hw]
    refine ⟨fun _ _ => trivial, ?_⟩
    rw [semAt_noDef (by rw [ho]; rfl), hrun]
    exact hfin
end
section
variable {P : Program} {pc : Bool} {o : Oper} {F : Fr} {M : List Blk} {α : Type} {en : α → List Value} {T T' e : TypeId} {sz by' k n i j : Nat} {l : List α} {x y : Operand}
/-- an element of a row of one's own: its place -/
theorem op_ixar {kd : IntKind} {z : Int} (ho : o.op = .indexAddr T x y) (hT : slE P T = some (e, sz, by')) (hx : Ev pc F x (.arr i)) (hy : Ev pc F y (.val (.int kd z))) (hM : M[i]? = some (.arr T' sz n (l.flatMap en))) (hz : pc = true → z = (j : Int)) (hj : pc = true → j < n) : DOp P pc o F M [i] (.aloc i (j * sz)) [] := by
  cases pc with
  | false => intro h; cases h
  | true =>
    have hz := hz rfl
    have hj := hj rfl
    subst hz
    have := op_ixa ho hT hx hy hM (fun _ => ⟨by omega, by omega⟩)
    simpa using this
theorem op_lda1 {v : Value} (ho : o.op = .load T x) (hT : tyB P T = some (false, k)) (hx : Ev pc F x (.aloc i (j * 1))) (hM : M[i]? = some (.arr T' 1 n (l.flatMap en))) (hen : ∀ a, (en a).length = 1) (hj : j < l.length) (hv : (en l[j])[0]? = some v) : DOp P pc o F M [i] (.val v) [] :=
  op_ldoa ho hT hx hM (by have := flat_cell (c := 0) hen hj (by omega); rw [Nat.add_zero] at this; rw [this, hv])
end
end Go.Proofs.YtnjnhghafjlmbaaGreat
namespace Go.Proofs.YtnjnhghafjlmbaaGreat
set_option linter.unusedVariables false
set_option linter.unusedSimpArgs false
open Go.RowKit
theorem flat_oc {α : Type} {en : α → List Value} (h : ∀ a, (en a).all (·.oneCell') = true) (l : List α) : (l.flatMap en).all (·.oneCell') = true := by
  induction l with
  | nil => rfl
  | cons a l ih => rw [List.flatMap_cons, List.all_append, h, ih]; rfl
section
variable {P : Program} {s0 : St} {n : Cx}
end
end Go.Proofs.YtnjnhghafjlmbaaGreat
namespace Go.Proofs.YtnjnhghafjlmbaaGreat
set_option linter.unusedVariables false
set_option linter.unusedSimpArgs false
open Go.RowKit
section
variable {P : Program} {pc : Bool} {o : Oper} {F : Fr} {M : List Blk}
end
section
variable {P : Program} {pc : Bool} {o : Oper} {F : Fr} {M : List Blk}
/-- parts of a row that stays -/
theorem op_slmd {α : Type} {en : α → List Value} {r : List α} {T e : TypeId} {sz by' : Nat} {x : Operand} {lo hi : Option Operand} {l h : Int} {i j : Nat} (ho : o.op = .slice T x lo hi none) (hT : slE P T = some (e, sz, by')) (hx : Ev pc F x (.slf sz r.length (r.flatMap en))) (hlo : Bd pc F lo 0 l) (hhi : Bd pc F hi r.length h)
    (hl : pc = true → l = (i : Int)) (hh : pc = true → h = (j : Int)) (hij : pc = true → i ≤ j ∧ j ≤ r.length) (hen : ∀ a, (en a).length = sz) : DOp P pc o F M [] (.slf sz ((r.drop i).take (j - i)).length (((r.drop i).take (j - i)).flatMap en)) [] := fun hp => by
  have := hij hp
  rw [show ((r.drop i).take (j - i)).length = j - i by rw [List.length_take, List.length_drop]; omega]
  exact op_slsr hen ho hT hx hlo hhi (hl hp) (hh hp) hij hp
theorem op_sltk {α : Type} {en : α → List Value} {r : List α} {T e : TypeId} {sz by' : Nat} {x : Operand} {hi : Option Operand} {h : Int} {j : Nat} (ho : o.op = .slice T x none hi none) (hT : slE P T = some (e, sz, by')) (hx : Ev pc F x (.slf sz r.length (r.flatMap en))) (hhi : Bd pc F hi r.length h)
    (hh : pc = true → h = (j : Int)) (hij : pc = true → j ≤ r.length) (hen : ∀ a, (en a).length = sz) : DOp P pc o F M [] (.slf sz (r.take j).length ((r.take j).flatMap en)) [] :=
  op_slmd (i := 0) ho hT hx (bd_none (z := 0)) hhi (fun _ => rfl) hh (fun hp => ⟨Nat.zero_le _, hij hp⟩) hen
end
end Go.Proofs.YtnjnhghafjlmbaaGreat
namespace Go.Proofs.YtnjnhghafjlmbaaGreat
set_option linter.unusedVariables false
set_option linter.unusedSimpArgs false
open Go.RowKit
section
variable {P : Program} {s0 : St} {n : Cx}
end
section
variable {P : Program} {pc : Bool} {o : Oper} {F : Fr} {M : List Blk} {T T' : TypeId} {x y : Operand} {i n sz : Nat} {k : IntKind} {z : Int} {α : Type} {en : α → List Value} {l : List α} {j : Nat}
end
section
variable {P : Program} {pc : Bool} {o : Oper} {F : Fr} {M : List Blk}
/-- something with addresses, into a variable that had none -/
theorem op_stfm {T T' : TypeId} {x y : Operand} {i p : Nat} {rw' : Bool} {d : D} {L : List Value} (ho : o.op = .store T x y) (hT : tyB P T = some (rw', 1)) (hx : Ev pc F x (.loc i p)) (hy : Ev pc F y d) (h1 : ∀ (s : St) v, Rep s d v → v.cells = #[v] ∧ v.oneCell' = true) (hM : M[i]? = some (.flat T' L)) (hfit : p < L.length) : DOp P pc o F M [i] .junk [(i, .mix T' ((L.map .val).set p d))] := by
  intro hp a s hok hops hfp
  have hr := ev_at hp hx (by simp [ho, Op.operands]) hops
  have hry := ev_at hp hy (by simp [ho, Op.operands]) hops
  obtain ⟨hc1, hc2⟩ := h1 s _ hry
  have hM' : s.M[i]? = some (.flat T' L) := by rw [hfp i (by simp)]; exact hM
  generalize hv : a.eval x = vx at hr
  cases hr with
  | @loc _ _ b h =>
    obtain ⟨b', e1, e2⟩ := hok.blk i _ _ hM' h
    cases e1
    obtain ⟨vs, hvs⟩ : ∃ vs, vs = L := ⟨_, rfl⟩
    rw [← hvs] at e2 hfit
    have e3 : vs.length = (L.map D.val).length := by rw [hvs]; simp
    have e4 : ∀ (j : Nat) d v, (L.map D.val)[j]? = some d → vs[j]? = some v → Rep s d v := fun j d v h1 h2 => by
      rw [hvs] at h2
      simp [h2] at h1
      subst h1
      exact .val _
    have hcell := cellsAt_block e2 0
    have hrun := run_store (P := P) (w := s.w) (C := [a.eval y]) ho hT hv rfl (by rw [hc1]) rfl (fun j hj => by
        have hj0 : j = 0 := by simp at hj; exact hj
        subst hj0
        have hp' : p < vs.length := by omega
        have := hcell p vs[p] (by simp [hp'])
        rw [Nat.zero_add] at this
        rw [Nat.add_zero, this]; rfl) (fun j hj => by simp [World.frozen?, e2]) (fun u hu => by rw [List.mem_singleton.1 hu]; exact hc2)
    refine dg_skip (s' := ⟨s.β.set i (.pointer (some ⟨b, 0, none⟩)), s.I, s.M.set i (.mix T' ((L.map .val).set p d)), s.w.setCells b p [a.eval y]⟩) hrun (tr_store hok hM' rfl h rfl p _ ?_) rfl
    refine ⟨b, vs.set p (a.eval y), rfl, setCells_block b _ p s.w vs T' e2, by simp [e3], fun j e v hj hv' => ?_⟩
    have hβ : s.β.set i (.pointer (some ⟨b, 0, none⟩)) = s.β := by
      apply List.ext_getElem?
      intro k
      by_cases e : i = k
      · subst e; rw [List.getElem?_set_self (List.getElem?_eq_some_iff.1 h).1, h]
      · rw [List.getElem?_set_ne e]
    have lift : ∀ {e : D} {v : Value}, Rep s e v → Rep ⟨s.β.set i (.pointer (some ⟨b, 0, none⟩)), s.I, s.M.set i (.mix T' ((L.map .val).set p d)), s.w.setCells b p [a.eval y]⟩ e v := by
      intro e v hr
      refine Rep.mono' (s := s) (s' := ⟨s.β.set i (.pointer (some ⟨b, 0, none⟩)), s.I, s.M.set i (.mix T' ((L.map .val).set p d)), s.w.setCells b p [a.eval y]⟩) (fun k x hk _ => by show (s.β.set i _)[k]? = _; rw [hβ]; exact hk) (fun _ h => h) (fun b' hI => setCells_other b _ p s.w b' fun e => ?_) hr
      subst e
      exact (hok.lt b' (live_of hM' rfl h rfl)).2 hI
    by_cases e' : p = j
    · subst e'
      rw [List.getElem?_set_self (by omega)] at hj
      rw [List.getElem?_set_self (by omega)] at hv'
      cases hj; cases hv'
      exact lift hry
    · rw [List.getElem?_set_ne e'] at hj hv'
      exact lift (e4 j e v hj hv')
end
section
variable {P : Program} {s0 : St} {n : Cx}
end
end Go.Proofs.YtnjnhghafjlmbaaGreat
namespace Go.Proofs.YtnjnhghafjlmbaaGreat
set_option linter.unusedVariables false
set_option linter.unusedSimpArgs false
open Go.RowKit
/-- a block of one's own is given up: it stays from now on, as it is left -/
theorem tr_give {s : St} (ho : Ok s) {j g : Nat} {k : Blk} {h : Value} (hM : s.M[j]? = some k) (hl : k.live = true) (hh : s.β[j]? = some h) (hbb : hb h = some g) (w' : World)
    (hkeep : ∀ b, b ≠ g → w'.heap[b]? = s.w.heap[b]?) (hsz : w'.heap.size = s.w.heap.size) (hos : w'.os = s.w.os) (htape : w'.tape = s.w.tape) (hout : w'.output = s.w.output) :
    Tr s ⟨s.β, fun b => s.I b ∨ b = g, s.M.set j .gone, w'⟩ := by
  have hnd : ∀ (i : Nat) h, s.β[i]? = some h → h ≠ .nilFunc → s.β[i]? = some h := fun _ _ h _ => h
  replace hbb : owns k h g := owns_of (ho.blk j k h hM hh) hbb
  have hlg : Live s g := live_of hM hl hh hbb
  have hg := ho.lt g hlg
  have imm : ∀ b, s.I b → w'.heap[b]? = s.w.heap[b]? := fun b hI => hkeep b fun e => by subst e; exact hg.2 hI
  have old : ∀ (i : Nat) k', (s.M.set j .gone)[i]? = some k' → k'.live = true → i ≠ j ∧ s.M[i]? = some k' := by
    intro i k' h1 h2
    by_cases e : i = j
    · subst e
      rw [List.getElem?_set_self (by have := (List.getElem?_eq_some_iff.1 hM).1; exact this)] at h1
      cases h1; cases h2
    · rw [List.getElem?_set_ne (Ne.symm e)] at h1
      exact ⟨e, h1⟩
  have ne : ∀ (i : Nat) k' h' b, i ≠ j → s.M[i]? = some k' → k'.live = true → s.β[i]? = some h' → owns k' h' b → b ≠ g := by
    intro i k' h' b e h1 h2 h3 h4 e2
    subst e2
    exact e (ho.inj i j k' k h' h b h1 h2 h3 h4 hM hl hh hbb)
  have lv : ∀ b, Live ⟨s.β, fun b => s.I b ∨ b = g, s.M.set j .gone, w'⟩ b → Live s b ∧ b ≠ g := by
    rintro b ⟨i, k', h', h1, h2, h3, h4⟩
    obtain ⟨e, a⟩ := old i k' h1 h2
    exact ⟨live_of a h2 h3 h4, ne i k' h' b e a h2 h3 h4⟩
  refine ⟨⟨by simp [ho.len], fun i k' h' h1 h2 => ?_, fun b hb => ?_, ?_, fun b hI => ?_⟩, hkeep_of hnd, fun _ h => .inl h, fun b h => ?_, fun b hb hn => hkeep b fun e => by subst e; exact hn hlg, fun b h => .inr (lv b h).1, hos, htape, hout, by simp [hsz]⟩
  · cases hk : k'.live with
    | false =>
      cases k' with
      | gone => trivial
      | hole =>
        by_cases e : i = j
        · subst e
          rw [List.getElem?_set_self (by have := (List.getElem?_eq_some_iff.1 hM).1; exact this)] at h1
          cases h1
        · rw [List.getElem?_set_ne (Ne.symm e)] at h1
          exact ho.blk i _ h' h1 h2
      | _ => cases hk
    | true =>
      obtain ⟨e, a⟩ := old i k' h1 hk
      exact BlkOk.mono (s := s) (s' := ⟨s.β, fun b => s.I b ∨ b = g, s.M.set j .gone, w'⟩) hnd (fun _ h => .inl h) imm (ho.blk i k' h' a h2) fun b hl' hb' => hkeep b (ne i k' h' b e a hl' h2 hb')
  · obtain ⟨h1, h2⟩ := lv b hb
    obtain ⟨h3, h4⟩ := ho.lt b h1
    exact ⟨by show b < w'.heap.size; omega, fun h => h.elim h4 h2⟩
  · intro i i2 k1 k2 h1 h2 b a1 a2 a3 a4 c1 c2 c3 c4
    obtain ⟨_, a1⟩ := old i k1 a1 a2
    obtain ⟨_, c1⟩ := old i2 k2 c1 c2
    exact ho.inj i i2 k1 k2 h1 h2 b a1 a2 a3 a4 c1 c2 c3 c4
  · show b < w'.heap.size
    rcases hI with h | h
    · have := ho.il b h; omega
    · omega
  · rcases h with h | h
    · exact .inl h
    · subst h; exact .inr (.inr hlg)
section
variable {P : Program} {pc : Bool} {o : Oper} {F : Fr} {M : List Blk} {T e : TypeId} {by' : Nat} {x y : Operand}
end
end Go.Proofs.YtnjnhghafjlmbaaGreat
namespace Go.Proofs.YtnjnhghafjlmbaaGreat
set_option linter.unusedVariables false
set_option linter.unusedSimpArgs false
open Go.RowKit
section
variable {P : Program} {pc : Bool} {o : Oper} {F : Fr} {M : List Blk}
end
/-- a block is forgotten -/
theorem tr_gone {s : St} (ho : Ok s) (i : Nat) : Tr s ⟨s.β, s.I, s.M.set i .gone, s.w⟩ := by
  have hnd : ∀ (i : Nat) h, s.β[i]? = some h → h ≠ .nilFunc → s.β[i]? = some h := fun _ _ h _ => h
  have old : ∀ (j : Nat) k, (s.M.set i .gone)[j]? = some k → k = .gone ∨ s.M[j]? = some k := fun j k hj => by
    by_cases e : i = j
    · subst e
      by_cases hl : i < s.M.length
      · rw [List.getElem?_set_self hl] at hj
        exact .inl (Option.some.inj hj).symm
      · rw [List.getElem?_eq_none (by simp; omega)] at hj; cases hj
    · rw [List.getElem?_set_ne e] at hj; exact .inr hj
  have lv : ∀ b, Live ⟨s.β, s.I, s.M.set i .gone, s.w⟩ b → Live s b := by
    rintro b ⟨j, k, h, h1, h2, h3, h4⟩
    rcases old j k h1 with rfl | h1
    · cases h2
    · exact live_of h1 h2 h3 h4
  refine ⟨⟨by simp [ho.len], fun j k h h1 h2 => ?_, fun b hb => ho.lt b (lv b hb), ?_, ho.il⟩, hkeep_of hnd, fun _ h => h, fun _ h => .inl h, fun _ _ _ => rfl, fun b h => .inr (lv b h), rfl, rfl, rfl, Nat.le_refl _⟩
  · rcases old j k h1 with rfl | h1
    · trivial
    · exact BlkOk.mono (s := s) (s' := ⟨s.β, s.I, s.M.set i .gone, s.w⟩) hnd (fun _ h => h) (fun _ _ => rfl) (ho.blk j k h h1 h2) (fun _ _ _ => rfl)
  · intro j j2 k k2 x x2 b a1 a2 a3 a4 c1 c2 c3 c4
    rcases old j k a1 with rfl | a1
    · cases a2
    · rcases old j2 k2 c1 with rfl | c1
      · cases c2
      · exact ho.inj j j2 k k2 x x2 b a1 a2 a3 a4 c1 c2 c3 c4
/-- a row of one's own is given up: it stays from now on -/
theorem tr_giveA {s : St} (ho : Ok s) {j sz n : Nat} {T : TypeId} {L : List Value} {v : Value} (hM : s.M[j]? = some (.arr T sz n L)) (hr : Rep s (.arr j) v) : ∃ I' : Nat → Prop, Tr s ⟨s.β, I', s.M.set j .gone, s.w⟩ ∧ Rep ⟨s.β, I', s.M.set j .gone, s.w⟩ (.slf sz n L) v := by
  cases hr with
  | @arr _ ad n' c hβ =>
    have hk : s.w.ownsRow 0 T sz _ n L := ho.blk j _ _ hM hβ
    rcases hk.2 with ⟨e1, e2⟩ | ⟨g, cap, cur, e1, e2, e3, e4, e5, e6, e7⟩
    · cases e1; subst e2
      exact ⟨s.I, tr_gone ho j, .slf hk.1 (Nat.le_refl _) (Nat.zero_le _) (fun _ => rfl) (.inl (List.eq_nil_of_length_eq_zero (by simpa using hk.1)))⟩
    · cases e1
      refine ⟨fun b => s.I b ∨ b = g, tr_give ho hM rfl hβ rfl s.w (fun _ _ => rfl) rfl rfl rfl rfl, .slf hk.1 e4 e5 (fun e => by cases e) (.inr ⟨g, 0, rfl, .inr rfl, ?_⟩)⟩
      have hc := cellsAt_sub (cellsAt_block e3 0) 0 (n * sz)
      show cellsAt s.w g 0 L
      simpa [e7] using hc
section
variable {P : Program} {s0 : St} {n : Cx}
theorem inv_giveA {F : Fr} {M : List Blk} {a : Act} {w : World} {t i : Nat} {e : TypeId} {sz m : Nat} {L : List Value} (h : Inv s0 n F M a w) (ht : lk F t = some (.arr i)) (hM : M[i]? = some (.arr e sz m L)) : Inv s0 n ((t, .slf sz m L) :: F) (M.set i .gone) a w := by
  obtain ⟨h0, s, rfl, rfl, h3, h4, h5, h6⟩ := h
  obtain ⟨I', tt, r1⟩ := tr_giveA h3.ok hM (h4 t _ ht)
  refine ⟨h0, ⟨s.β, I', s.M.set i .gone, s.w⟩, rfl, rfl, h3.trans tt, fun x d hd => ?_, h5, h6.mono h3.ok tt⟩
  rw [lk_cons] at hd
  split at hd
  · rename_i e'
    subst e'
    obtain rfl := Option.some.inj hd
    exact r1
  · exact (h4 x d hd).mono h3.ok tt
theorem dwp_giveA {c : Code} {F : Fr} {M M' : List Blk} {K : Cont} (t : Nat) {i : Nat} {e : TypeId} {sz m : Nat} {L : List Value} (ht : lk F t = some (.arr i)) (hM : M[i]? = some (.arr e sz m L)) (hM' : M.set i .gone = M') (h : dwp P s0 n c ((t, .slf sz m L) :: F) M' K) : dwp P s0 n c F M K := by
  subst hM'
  exact fun a w hi => h a w (inv_giveA hi ht hM)
end
section
variable {P : Program} {s0 : St} {n : Cx}
end
end Go.Proofs.YtnjnhghafjlmbaaGreat
namespace Go.Proofs.YtnjnhghafjlmbaaGreat
set_option linter.unusedVariables false
set_option linter.unusedSimpArgs false
open Go.RowKit
theorem natzero (a : Nat) : (((a : Int)) == 0) = decide (a = 0) := by
  rw [Bool.eq_iff_iff]; simp
end Go.Proofs.YtnjnhghafjlmbaaGreat
namespace Go.Proofs.YtnjnhghafjlmbaaGreat
set_option linter.unusedVariables false
set_option linter.unusedSimpArgs false
open Go.RowKit
set_option maxRecDepth 4000 in
set_option maxHeartbeats 1000000 in
theorem refVR_d (v : Vec) : DFun Tryz.prog 13 [.val (.agg (c9 v).toArray)] [] (.val (.bool (vB v))) [] := by
  refine zba (N := 21) 0 (by kernel_rfl) Tryz.func13 rfl rfl rfl (by simp only [fr0, Nat.zero_add, Nat.reduceAdd]; exact rfl) rfl fun s0 hs0 => ?_
  refine zaf ?_
  refine zaj 1 (by simp only [holes, List.cons_append, List.nil_append]; exact rfl) ?_
  refine zac ?_
  refine zam rfl rfl rfl (op_boxa 0 rfl (ev1 rfl) rfl) (by simp only [upd, za, zaa]; exact rfl) ?_
  refine zab rfl rfl rfl (zad (.inr rfl) (ev1 rfl)) ?_
  refine zae ?_
  refine zaf ?_
  refine zaf ?_
  refine zac ?_
  refine zab rfl rfl rfl (zas rfl tb24 (ev1 rfl) rfl rfl) ?_
  refine zab rfl rfl rfl (zad (.inl rfl) (ev1 rfl)) ?_
  refine zae ?_
  refine zat ?_
  refine dwp_loopS ⟨hs0, rfl⟩ (α := Nat) (fun k => [(6, .val (.int .i64 (k : Int)))]) [(5, _)] (fun k => []) [_] (fun k => k ≤ 9 ∧ ∀ i, i < k → vOne v i) (fun k => 9 - k) 0 [0] (⟨by omega, fun i hi => absurd hi (by omega)⟩) rfl ⟨rfl, trivial⟩ ⟨rfl, trivial⟩ ⟨rfl, trivial⟩ ?_
  intro k hx
  simp only [upd, za, zaa, List.cons_append, List.nil_append]
  obtain ⟨hk, he⟩ := hx
  refine zaf ?_
  refine zac ?_
  refine zab rfl rfl rfl (op_lss rfl (ev1 rfl) (ev1 rfl)) ?_
  refine zae ?_
  refine zaf ?_
  refine zaw rfl (fun c1 => ?_) (fun c1 => ?_)
  · try simp only [decide_eq_true_eq, decide_eq_false_iff_not, beq_iff_eq, bne_iff_ne, beq_eq_false_iff_ne, bne_eq_false_iff_eq, Bool.not_eq_true', Bool.not_eq_false', Bool.and_eq_true, Bool.or_eq_true, Bool.or_eq_false_iff, ne_eq, Decidable.not_not, Int.not_lt, Int.not_le] at c1
    refine zak ?_
    refine zaf ?_
    refine zat ?_
    refine zaf ?_
    refine zac ?_
    refine zab rfl rfl rfl (zad (.inl rfl) (ev1 rfl)) ?_
    refine zab rfl rfl rfl (op_ixu (k) rfl aw24 (ev1 rfl) (ev1 rfl) (fun _ => rfl) (by omega) (c9_at v _ (by omega))) ?_
    refine zab rfl rfl rfl (zad (.inr rfl) (ev1 rfl)) ?_
    refine zab rfl rfl rfl (zad (.inr rfl) (ev1 rfl)) ?_
    refine zae ?_
    refine zaf ?_
    refine zac ?_
    refine zab rfl rfl rfl (zad (.inl rfl) (ev1 rfl)) ?_
    refine zab rfl rfl rfl (op_gtr rfl (ev1 rfl) (ev1 rfl)) ?_
    refine zab rfl rfl rfl (zad (.inl rfl) (ev1 rfl)) ?_
    refine zag (zan rfl rfl rfl) rfl rfl rfl (zad (.inl rfl) (ev1 rfl)) ?_
    refine zag (zan rfl rfl rfl) rfl rfl rfl (zb rfl (ev2 rfl) (ev1 rfl)) ?_
    refine zag (zan rfl rfl rfl) rfl rfl rfl (zad (.inl rfl) (ev2 rfl)) ?_
    refine zag (zay rfl rfl rfl) rfl rfl rfl (zad (.inl rfl) (ev1 rfl)) ?_
    refine zag (zay rfl rfl rfl) rfl rfl rfl (op_neq rfl (ev2 rfl) (ev1 rfl)) ?_
    refine zag (zan rfl rfl rfl) rfl rfl rfl (zaz rfl (ev2 rfl) (ev2 rfl)) ?_
    refine zab rfl rfl rfl (op_or rfl (ev1 rfl) (ev3 rfl id)) ?_
    refine zae ?_
    refine zaw rfl (fun c2 => ?_) (fun c2 => ?_)
    · try simp only [decide_eq_true_eq, decide_eq_false_iff_not, beq_iff_eq, bne_iff_ne, beq_eq_false_iff_ne, bne_eq_false_iff_eq, Bool.not_eq_true', Bool.not_eq_false', Bool.and_eq_true, Bool.or_eq_true, Bool.or_eq_false_iff, ne_eq, Decidable.not_not, Int.not_lt, Int.not_le] at c2
      refine zaf ?_
      refine zac ?_
      refine zab rfl rfl rfl (zad (.inr rfl) (ev1 rfl)) ?_
      refine zae ?_
      refine zau ?_
      refine kend0 (rs1 rfl (rv_t rfl)) rfl ?_
      rw [vB_no (i := k) (by omega) (fun h => by unfold vOne at h; omega)]
    · try simp only [decide_eq_true_eq, decide_eq_false_iff_not, beq_iff_eq, bne_iff_ne, beq_eq_false_iff_ne, bne_eq_false_iff_eq, Bool.not_eq_true', Bool.not_eq_false', Bool.and_eq_true, Bool.or_eq_true, Bool.or_eq_false_iff, ne_eq, Decidable.not_not, Int.not_lt, Int.not_le] at c2
      have hov : vOne v k := ⟨by simp at c2; omega, fun e => by simp at c2; omega⟩
      refine zak ?_
      refine zac ?_
      refine zab rfl rfl rfl (op_add' rfl (ev1 rfl) (ev1 rfl) (fun _ => IntWalk.i64_in _ (by omega))) ?_
      refine zab rfl rfl rfl (zad (.inl rfl) (ev1 rfl)) ?_
      refine zae ?_
      refine ⟨k + 1, [0], ⟨by omega, vOne_step he hov⟩, by simp only []; omega, rfl, ⟨rfl, rfl, trivial⟩, ⟨rfl, trivial⟩⟩
  · try simp only [decide_eq_true_eq, decide_eq_false_iff_not, beq_iff_eq, bne_iff_ne, beq_eq_false_iff_ne, bne_eq_false_iff_eq, Bool.not_eq_true', Bool.not_eq_false', Bool.and_eq_true, Bool.or_eq_true, Bool.or_eq_false_iff, ne_eq, Decidable.not_not, Int.not_lt, Int.not_le] at c1
    refine dwp_exit ?_
    refine zaf ?_
    refine zac ?_
    refine zab rfl rfl rfl (zad (.inr rfl) (ev1 rfl)) ?_
    refine zae ?_
    refine zau ?_
    refine kend0 (rs1 rfl (rv_t rfl)) rfl ?_
    rw [vB_all.2 fun i hi => he i (by omega)]
end Go.Proofs.YtnjnhghafjlmbaaGreat
namespace Go.Proofs.YtnjnhghafjlmbaaGreat
set_option linter.unusedVariables false
set_option linter.unusedSimpArgs false
open Go.RowKit
set_option maxRecDepth 4000 in
set_option maxHeartbeats 1000000 in
theorem refVC_d (v w : Vec) : DFun Tryz.prog 56 [.val (.agg (c9 v).toArray), .val (.agg (c9 w).toArray)] [] (.val (.bool (coB v w))) [] := by
  refine zba (N := 24) 0 (by kernel_rfl) Tryz.func56 rfl rfl rfl (by simp only [fr0, Nat.zero_add, Nat.reduceAdd]; exact rfl) rfl fun s0 hs0 => ?_
  refine zaf ?_
  refine zaj 2 (by simp only [holes, List.cons_append, List.nil_append]; exact rfl) ?_
  refine zac ?_
  refine zam rfl rfl rfl (op_boxa 0 rfl (ev1 rfl) rfl) (by simp only [upd, za, zaa]; exact rfl) ?_
  refine zam rfl rfl rfl (op_boxa 1 rfl (ev1 rfl) rfl) (by simp only [upd, za, zaa]; exact rfl) ?_
  refine zab rfl rfl rfl (zad (.inr rfl) (ev1 rfl)) ?_
  refine zae ?_
  refine zaf ?_
  refine zaf ?_
  refine zac ?_
  refine zab rfl rfl rfl (zas rfl tb24 (ev1 rfl) rfl rfl) ?_
  refine zab rfl rfl rfl (zad (.inl rfl) (ev1 rfl)) ?_
  refine zae ?_
  refine zat ?_
  refine dwp_loopS ⟨hs0, rfl⟩ (α := Nat) (fun k => [(8, .val (.int .i64 (k : Int)))]) [(2, _), (3, _), (7, _)] (fun k => []) [_, _] (fun k => k ≤ 9 ∧ ∀ i, i < k → w i ≤ v i) (fun k => 9 - k) 0 [0, 1] (⟨by omega, fun i hi => absurd hi (by omega)⟩) rfl ⟨rfl, rfl, rfl, trivial⟩ ⟨rfl, trivial⟩ ⟨rfl, rfl, trivial⟩ ?_
  intro k hx
  simp only [upd, za, zaa, List.cons_append, List.nil_append]
  obtain ⟨hk, he⟩ := hx
  refine zaf ?_
  refine zac ?_
  refine zab rfl rfl rfl (op_lss rfl (ev1 rfl) (ev1 rfl)) ?_
  refine zae ?_
  refine zaf ?_
  refine zaw rfl (fun c1 => ?_) (fun c1 => ?_)
  · try simp only [decide_eq_true_eq, decide_eq_false_iff_not, beq_iff_eq, bne_iff_ne, beq_eq_false_iff_ne, bne_eq_false_iff_eq, Bool.not_eq_true', Bool.not_eq_false', Bool.and_eq_true, Bool.or_eq_true, Bool.or_eq_false_iff, ne_eq, Decidable.not_not, Int.not_lt, Int.not_le] at c1
    refine zak ?_
    refine zaf ?_
    refine zat ?_
    refine zaf ?_
    refine zac ?_
    refine zab rfl rfl rfl (zad (.inl rfl) (ev1 rfl)) ?_
    refine zab rfl rfl rfl (op_ixu (k) rfl aw24 (ev1 rfl) (ev1 rfl) (fun _ => rfl) (by omega) (c9_at w _ (by omega))) ?_
    refine zab rfl rfl rfl (zad (.inr rfl) (ev1 rfl)) ?_
    refine zab rfl rfl rfl (zad (.inr rfl) (ev1 rfl)) ?_
    refine zae ?_
    refine zaf ?_
    refine zac ?_
    refine zab rfl rfl rfl (zad (.inl rfl) (ev1 rfl)) ?_
    refine zab rfl rfl rfl (zad (.inl rfl) (ev1 rfl)) ?_
    refine zab rfl rfl rfl (op_ixl rfl ar24 (ev1 rfl) (ev1 rfl) (fun _ => by omega)) ?_
    refine zab rfl rfl rfl (op_ldo rfl tb22 (ev1 rfl) rfl (c9_atp (j := k) (by simp) (by omega))) ?_
    refine zab rfl rfl rfl (op_gtr rfl (ev1 rfl) (ev1 rfl)) ?_
    refine zae ?_
    refine zaw rfl (fun c2 => ?_) (fun c2 => ?_)
    · try simp only [decide_eq_true_eq, decide_eq_false_iff_not, beq_iff_eq, bne_iff_ne, beq_eq_false_iff_ne, bne_eq_false_iff_eq, Bool.not_eq_true', Bool.not_eq_false', Bool.and_eq_true, Bool.or_eq_true, Bool.or_eq_false_iff, ne_eq, Decidable.not_not, Int.not_lt, Int.not_le] at c2
      refine zaf ?_
      refine zac ?_
      refine zab rfl rfl rfl (zad (.inr rfl) (ev1 rfl)) ?_
      refine zae ?_
      refine zau ?_
      refine kend0 (rs1 rfl (rv_t rfl)) rfl ?_
      rw [show coB v w = false by rw [← Bool.not_eq_true, coB_iff]; exact fun h => absurd (h.2.2 k (by omega)) (by omega)]
    · try simp only [decide_eq_true_eq, decide_eq_false_iff_not, beq_iff_eq, bne_iff_ne, beq_eq_false_iff_ne, bne_eq_false_iff_eq, Bool.not_eq_true', Bool.not_eq_false', Bool.and_eq_true, Bool.or_eq_true, Bool.or_eq_false_iff, ne_eq, Decidable.not_not, Int.not_lt, Int.not_le] at c2
      refine zak ?_
      refine zac ?_
      refine zab rfl rfl rfl (op_add' rfl (ev1 rfl) (ev1 rfl) (fun _ => IntWalk.i64_in _ (by omega))) ?_
      refine zab rfl rfl rfl (zad (.inl rfl) (ev1 rfl)) ?_
      refine zae ?_
      refine ⟨k + 1, [0, 1], ⟨by omega, fun i hi => by
      by_cases e : i = k
      · rw [e]; omega
      · exact he i (by omega)⟩, by simp only []; omega, rfl, ⟨rfl, rfl, rfl, rfl, trivial⟩, ⟨rfl, rfl, trivial⟩⟩
  · try simp only [decide_eq_true_eq, decide_eq_false_iff_not, beq_iff_eq, bne_iff_ne, beq_eq_false_iff_ne, bne_eq_false_iff_eq, Bool.not_eq_true', Bool.not_eq_false', Bool.and_eq_true, Bool.or_eq_true, Bool.or_eq_false_iff, ne_eq, Decidable.not_not, Int.not_lt, Int.not_le] at c1
    refine dwp_exit ?_
    refine zaf ?_
    refine zac ?_
    refine zab rfl rfl rfl (zas rfl tb24 (ev1 rfl) rfl rfl) ?_
    refine zab rfl rfl rfl (zah [] [] [] rfl (ev1 rfl) (ec (ev1 rfl) en) rfl rfl (refVR_d _) rfl rfl rfl rfl rfl rfl) ?_
    refine zab rfl rfl rfl (zad (.inl rfl) (ev1 rfl)) ?_
    refine zag (zar rfl rfl rfl) rfl rfl rfl (zas rfl tb24 (ev1 rfl) rfl rfl) ?_
    refine zag (zar rfl rfl rfl) rfl rfl rfl (zah [] [] [] rfl (ev1 rfl) (ec (ev2 rfl) en) rfl rfl (refVR_d _) rfl rfl rfl rfl rfl rfl) ?_
    refine zab rfl rfl rfl (zaz rfl (ev1 rfl) (ev3 rfl id)) ?_
    refine zab rfl rfl rfl (zad (.inr rfl) (ev1 rfl)) ?_
    refine zae ?_
    refine zau ?_
    refine kend0 (rs1 rfl (rv_t rfl)) rfl ?_
    rw [show coB v w = (vB v && vB w) by
      rw [Bool.eq_iff_iff, coB_iff, Bool.and_eq_true]
      exact ⟨fun h => ⟨h.1, h.2.1⟩, fun h => ⟨h.1, h.2, fun i hi => he i (by omega)⟩⟩]
end Go.Proofs.YtnjnhghafjlmbaaGreat
namespace Go.Proofs.YtnjnhghafjlmbaaGreat
set_option linter.unusedVariables false
set_option linter.unusedSimpArgs false
open Go.RowKit
set_option maxRecDepth 4000 in
set_option maxHeartbeats 1000000 in
theorem rise1_idle (e : Int) : DDef Tryz.prog 59 [.loc 0 0] [.flat 34 [.int .i64 e]] none none [.flat 34 [.int .i64 0]] := by
  refine ddef_go1 (dr := .tup []) (t := 1) (N := 3) 1 (by kernel_rfl) Tryz.func59 rfl rfl rfl (by simp only [fr0, Nat.zero_add, Nat.reduceAdd]; exact rfl) rfl rfl rfl rfl rfl fun s0 hs0 => ?_
  refine zab rfl rfl rfl (zah [] [] [] rfl (ev1 rfl) (ec (ev1 rfl) en) rfl rfl (ftold_no) rfl rfl rfl rfl rfl rfl) ?_
  refine zax rfl rfl (op_stwi rfl tb34 (ev1 rfl) (ev1 rfl) rfl) (by simp only [upd, za, zaa]; exact rfl) ?_
  refine zae ?_
  refine kend [0] (res_none rfl) rfl rfl ?_ ⟨rfl, trivial⟩
  rfl
set_option maxRecDepth 4000 in
set_option maxHeartbeats 1000000 in
theorem rise1_caught (e n : Int) : DDef Tryz.prog 59 [.loc 0 0] [.flat 34 [.int .i64 e]] (some (.ifc 126 (.val (.agg #[.int .i64 n])))) none [.flat 34 [.int .i64 n]] := by
  refine ddef_go1 (dr := .tup []) (t := 1) (N := 3) 1 (by kernel_rfl) Tryz.func59 rfl rfl rfl (by simp only [fr0, Nat.zero_add, Nat.reduceAdd]; exact rfl) rfl rfl rfl rfl rfl fun s0 hs0 => ?_
  refine zab rfl rfl rfl (zah [] [] [] rfl (ev1 rfl) (ec (ev1 rfl) en) rfl rfl (ftold_w n) rfl rfl rfl rfl rfl rfl) ?_
  refine zax rfl rfl (op_stwi rfl tb34 (ev1 rfl) (ev1 rfl) rfl) (by simp only [upd, za, zaa]; exact rfl) ?_
  refine zae ?_
  refine kend [0] (res_none rfl) rfl rfl ?_ ⟨rfl, trivial⟩
  rfl
end Go.Proofs.YtnjnhghafjlmbaaGreat
namespace Go.Proofs.YtnjnhghafjlmbaaGreat
set_option linter.unusedVariables false
set_option linter.unusedSimpArgs false
open Go.RowKit
theorem tb84 : tyB Tryz.prog 84 = some (false, 1) := by kernel_rfl
theorem zr84 : zrC Tryz.prog 84 = some [.nilFunc] := by kernel_rfl
def risTo (f : FrM) (k : Nat) : FrM := { f with st := fun i => if i < k then risP f.fo (f.st i) else f.st i }
theorem risTo_0 (f : FrM) : risTo f 0 = f := by
  unfold risTo
  simp
theorem risTo_yes (f : FrM) {k : Nat} (h : (f.st k).inn = true) : (risTo f k).sw k ⟨true, f.fo, 0, z9⟩ = risTo f (k + 1) := by
  unfold risTo FrM.sw upV
  congr 1
  funext i
  dsimp only
  by_cases e : i = k
  · subst e
    rw [if_pos rfl, if_pos (by omega)]
    unfold risP
    rw [if_pos h]
  · rw [if_neg e]
    by_cases h2 : i < k
    · rw [if_pos h2, if_pos (by omega)]
    · rw [if_neg h2, if_neg (by omega)]
theorem risTo_no (f : FrM) {k : Nat} (h : ¬ (f.st k).inn = true) : risTo f k = risTo f (k + 1) := by
  unfold risTo
  congr 1
  funext i
  by_cases e : i = k
  · subst e
    rw [if_neg (by omega), if_pos (by omega)]
    unfold risP
    rw [if_neg h]
  · by_cases h2 : i < k
    · rw [if_pos h2, if_pos (by omega)]
    · rw [if_neg h2, if_neg (by omega)]
theorem risTo_end (f : FrM) : frC { (risTo f 9) with pr := 0 } = frC ⟨f.fo, f.bv, 0, fun i => risP f.fo (f.st i)⟩ := by
  unfold frC risTo stC
  rfl
set_option maxRecDepth 4000 in
set_option maxHeartbeats 1000000 in
theorem forget_d (f : FrM) (j : Nat) (hj : j < 9) : DFun Tryz.prog 60 [.loc 0 0, .val (.int .i64 (j : Int))] [.flat 101 (frC f)] (.tup []) [.flat 101 (frC (f.sw j ⟨true, f.fo, 0, z9⟩))] := by
  refine zba (N := 16) 1 (by kernel_rfl) Tryz.func60 rfl rfl rfl (by simp only [fr0, Nat.zero_add, Nat.reduceAdd]; exact rfl) rfl fun s0 hs0 => ?_
  refine dwp_draw [([], []), ([], []), ([], []), ([], []), ([], []), ([], []), ([0], []), ([], []), ([], []), ([], []), ([], []), ([], []), ([0], [0])] mixed (by kernel_rfl) ?_
  refine lex_r rfl rfl (zad (.inl rfl) (ev1 rfl)) ?_
  refine lex_r rfl rfl (zad (.inl rfl) (ev1 rfl)) ?_
  refine lex_r rfl rfl (zad (.inl rfl) (ev1 rfl)) ?_
  refine lex_r rfl rfl (op_nc rfl (ev1 rfl) (fun s v h => by cases h; exact ⟨_, rfl⟩)) ?_
  refine lex_r rfl rfl (zap rfl fo101_0 (ev1 rfl)) ?_
  refine lex_r rfl rfl (zap rfl fo29_0 (ev1 rfl)) ?_
  refine lex_r rfl rfl (op_ldo rfl tb22 (ev1 rfl) rfl rfl) ?_
  refine lex_r rfl rfl (op_build (ps := [(0, .const (.bool true)), (1, .tmp 10)]) rfl fl26 zr26 (vc (ev1 rfl) (vc (ev1 rfl) vn)) rfl rfl) ?_
  refine lex_r rfl rfl (op_nc rfl (ev1 rfl) (fun s v h => by cases h; exact ⟨_, rfl⟩)) ?_
  refine lex_r rfl rfl (zap rfl fo101_0 (ev1 rfl)) ?_
  refine lex_r rfl rfl (zap rfl fo29_3 (ev1 rfl)) ?_
  refine lex_r rfl rfl (op_ixl rfl ar27 (ev1 rfl) (ev1 rfl) (fun _ => by omega)) ?_
  refine lex_s rfl rfl (op_st (C := plC ⟨true, f.fo, 0, z9⟩) rfl tb26 (ev1 rfl) (ev1 rfl) rfl rfl rfl rfl (by simp only [zao, plC_len]; omega) (frC_swp (j := j) (by omega) hj)) rfl (by simp only [upd, za, zaa]; exact rfl) ?_
  refine lex_nil ?_
  refine kend [0] (res_none rfl) rfl rfl ?_ ⟨rfl, trivial⟩
  rfl
noncomputable def risA : Code := rfA (pth [1, 1, 1, 1, 0, 1, 0] (bodyOf Tryz.f24))
noncomputable def risB : Code := rfB (pth [1, 1, 1, 1, 0, 1, 0] (bodyOf Tryz.f24))
set_option maxRecDepth 4000 in
set_option maxHeartbeats 1000000 in
theorem risRound (f : FrM) (j : Nat) (hj : j < 9) (p : Pl) : DRound Tryz.prog 0 [.val (.int .i64 (j : Int)), .val (.agg (plC p).toArray)] [.lp 27 [(5, .loc 1 0)] #[14, 15] risA risB .ready none, .mix 84 [.fn (.func 60) [.loc 2 0] []], .flat 101 (frC f)] true [.lp 27 [(5, .loc 1 0)] #[14, 15] risA risB .ready none, .mix 84 [.fn (.func 60) [.loc 2 0] []], .flat 101 (frC (f.sw j ⟨true, f.fo, 0, z9⟩))] := by
  refine dround_go 3 rfl rfl (by simp) rfl rfl fun s0 hs0 => ?_
  refine zac ?_
  refine zab rfl rfl rfl (zad (.inr rfl) (ev1 rfl)) ?_
  refine zae ?_
  refine ⟨rfl, ?_⟩
  simp only [za, zaa]
  refine zat ?_
  refine zac ?_
  refine zab rfl rfl rfl (zav rfl tb84 (ev1 rfl) rfl rfl) ?_
  refine zab rfl rfl rfl (zad (.inl rfl) (ev1 rfl)) ?_
  refine zam rfl rfl rfl (zah [2] [] [] rfl (ev1 rfl) (ec (ev1 rfl) en) rfl rfl (forget_d f j hj) rfl rfl rfl rfl rfl rfl) (by simp only [upd, za, zaa]; exact rfl) ?_
  refine zae ?_
  refine ⟨by first | rfl | assumption | simp_all, rfl, [0, 1, 2], rfl, ⟨rfl, rfl, rfl, trivial⟩⟩
set_option maxRecDepth 4000 in
set_option maxHeartbeats 1000000 in
theorem rd_rise (f : FrM) : DFun Tryz.prog 80 [.yld 0, .loc 2 0] [.lp 27 [(5, .loc 1 0)] #[14, 15] risA risB .ready none, .mix 84 [.fn (.func 60) [.loc 3 0] []], .mix 97 [.loc 3 0], .flat 101 (frC f)] (.tup []) [.lp 27 [(5, .loc 1 0)] #[14, 15] risA risB .ready none, .mix 84 [.fn (.func 60) [.loc 3 0] []], .mix 97 [.loc 3 0], .flat 101 (frC (risTo f 9))] := by
  refine zba (N := 24) 4 (by kernel_rfl) Tryz.func80 rfl rfl rfl (by simp only [fr0, Nat.zero_add, Nat.reduceAdd]; exact rfl) rfl fun s0 hs0 => ?_
  refine zaf ?_
  refine zac ?_
  refine zab rfl rfl rfl (zav rfl tb97 (ev1 rfl) rfl rfl) ?_
  refine zab rfl rfl rfl (op_nc rfl (ev1 rfl) (fun s v h => by cases h; exact ⟨_, rfl⟩)) ?_
  refine zab rfl rfl rfl (zap rfl fo101_0 (ev1 rfl)) ?_
  refine zab rfl rfl rfl (zap rfl fo29_3 (ev1 rfl)) ?_
  refine zab rfl rfl rfl (op_ldr rfl tb27 (ev1 rfl) rfl (stC_flat f) (by rw [sL_flat]; rfl)) ?_
  refine zab rfl rfl rfl (zad (.inl rfl) (ev1 rfl)) ?_
  refine zae ?_
  refine zat ?_
  refine dwp_loopS ⟨hs0, rfl⟩ (α := Nat) (fun k => [(10, .val (.int .i64 (k : Int)))]) [(0, _), (9, _)] (fun k => [(3, .flat 101 (frC (risTo f k)))]) [_, _, _, .hole] (fun k => k ≤ 9) (fun k => 9 - k) 0 [0, 1, 2, 3] (by omega) rfl ⟨rfl, rfl, trivial⟩ ⟨rfl, trivial⟩ ⟨rfl, rfl, rfl, by rw [risTo_0]; rfl, trivial⟩ ?_
  intro k hx
  simp only [upd, za, zaa, List.cons_append, List.nil_append]
  have hk := hx
  refine zaf ?_
  refine zac ?_
  refine zab rfl rfl rfl (op_lss rfl (ev1 rfl) (ev1 rfl)) ?_
  refine zae ?_
  refine zaf ?_
  refine zaw rfl (fun c1 => ?_) (fun c1 => ?_)
  · try simp only [decide_eq_true_eq, decide_eq_false_iff_not, beq_iff_eq, bne_iff_ne, beq_eq_false_iff_ne, bne_eq_false_iff_eq, Bool.not_eq_true', Bool.not_eq_false', Bool.and_eq_true, Bool.or_eq_true, Bool.or_eq_false_iff, ne_eq, Decidable.not_not, Int.not_lt, Int.not_le] at c1
    refine zak ?_
    refine zaf ?_
    refine zat ?_
    refine zaf ?_
    refine zaj 1 (by simp only [holes, List.cons_append, List.nil_append]; exact rfl) ?_
    refine zac ?_
    refine zab rfl rfl rfl (zad (.inl rfl) (ev1 rfl)) ?_
    refine zab rfl rfl rfl ((by rw [← sL_at f.st k (by omega)]; exact op_ixv (j := k) (zP) rfl av27 (ev1 rfl) (ev1 rfl) (fun _ => rfl) (fun _ => by omega) (sL_len _) (fun _ => rfl) : DOp _ _ _ _ _ _ (.val (.agg (plC (f.st k)).toArray)) _)) ?_
    refine zam rfl rfl rfl (zaq 4 rfl zr26 rfl) (by simp only [upd, za, zaa]; exact rfl) ?_
    refine zab rfl rfl rfl (zad (.inr rfl) (ev1 rfl)) ?_
    refine zax rfl rfl (op_stwa rfl tb26 (ev1 rfl) (ev1 rfl) rfl rfl rfl rfl) (by simp only [upd, za, zaa]; exact rfl) ?_
    refine zae ?_
    refine zaf ?_
    by_cases hin : (f.st k).inn = true
    · refine zac ?_
      refine zab rfl rfl rfl (zap rfl fo26_0 (ev1 rfl)) ?_
      refine zab rfl rfl rfl ((op_ldo rfl tb4 (ev1 rfl) rfl rfl).cast (d' := .val (.bool true)) (by rw [hin])) ?_
      refine zab rfl rfl rfl (zad (.inl rfl) (ev1 rfl)) ?_
      refine zai (zar (b := true) rfl rfl rfl) rfl rfl rfl (zad (.inl rfl) (ev1 rfl)) (by simp only [upd, za, zaa]; exact rfl) ?_
      refine zai (zar (b := true) rfl rfl rfl) rfl rfl rfl (zad (.inl rfl) (ev1 rfl)) (by simp only [upd, za, zaa]; exact rfl) ?_
      refine zai (zar (b := true) rfl rfl rfl) rfl rfl rfl (zas rfl tb26 (ev1 rfl) rfl rfl) (by simp only [upd, za, zaa]; exact rfl) ?_
      refine zai (zar (b := true) rfl rfl rfl) rfl rfl rfl (op_y (i := 0) [0, 1, 3] [] [] rfl (ev2 rfl) (ec (ev2 rfl) (ec (ev2 rfl) en)) rfl rfl rfl (risRound (risTo f k) k (by omega) (f.st k)) rfl rfl rfl rfl rfl) (by simp only [upd, za, zaa]; exact rfl) ?_
      refine zai (zar (b := true) rfl rfl rfl) rfl rfl rfl (op_not rfl (ev2 rfl)) (by simp only [upd, za, zaa]; exact rfl) ?_
      refine zab rfl rfl rfl (zaz rfl (ev1 rfl) (ev3 rfl (fun _ => rfl))) ?_
      refine zae ?_
      refine dwp_if_f rfl (rfl) ?_
      refine zak ?_
      refine zac ?_
      refine zab rfl rfl rfl (op_add' rfl (ev1 rfl) (ev1 rfl) (fun _ => IntWalk.i64_in _ (by omega))) ?_
      refine zab rfl rfl rfl (zad (.inl rfl) (ev1 rfl)) ?_
      refine zae ?_
      refine ⟨k + 1, [0, 1, 2, 3], by omega, by simp only []; omega, rfl, ⟨rfl, rfl, rfl, trivial⟩, ⟨rfl, rfl, rfl, by rw [← risTo_yes f hin]; rfl, trivial⟩⟩
    · refine zac ?_
      refine zab rfl rfl rfl (zap rfl fo26_0 (ev1 rfl)) ?_
      refine zab rfl rfl rfl ((op_ldo rfl tb4 (ev1 rfl) rfl rfl).cast (d' := .val (.bool false)) (by rw [show (f.st k).inn = false by simpa using hin])) ?_
      refine zab rfl rfl rfl (zad (.inl rfl) (ev1 rfl)) ?_
      refine zag (zar (b := false) rfl rfl rfl) rfl rfl rfl (zal (d := .junk)) ?_
      refine zag (zar (b := false) rfl rfl rfl) rfl rfl rfl (zal (d := .junk)) ?_
      refine zag (zar (b := false) rfl rfl rfl) rfl rfl rfl (zal (d := .junk)) ?_
      refine zag (zar (b := false) rfl rfl rfl) rfl rfl rfl (zal (d := .val (.bool false))) ?_
      refine zag (zar (b := false) rfl rfl rfl) rfl rfl rfl (zal (d := .val (.bool false))) ?_
      refine zab rfl rfl rfl (zaz rfl (ev1 rfl) (ev3 rfl id)) ?_
      refine zae ?_
      refine dwp_if_f rfl (rfl) ?_
      refine zak ?_
      refine zac ?_
      refine zab rfl rfl rfl (op_add' rfl (ev1 rfl) (ev1 rfl) (fun _ => IntWalk.i64_in _ (by omega))) ?_
      refine zab rfl rfl rfl (zad (.inl rfl) (ev1 rfl)) ?_
      refine zae ?_
      refine ⟨k + 1, [0, 1, 2, 3], by omega, by simp only []; omega, rfl, ⟨rfl, rfl, rfl, trivial⟩, ⟨rfl, rfl, rfl, by rw [← risTo_no f hin]; rfl, trivial⟩⟩
  · try simp only [decide_eq_true_eq, decide_eq_false_iff_not, beq_iff_eq, bne_iff_ne, beq_eq_false_iff_ne, bne_eq_false_iff_eq, Bool.not_eq_true', Bool.not_eq_false', Bool.and_eq_true, Bool.or_eq_true, Bool.or_eq_false_iff, ne_eq, Decidable.not_not, Int.not_lt, Int.not_le] at c1
    refine dwp_exit ?_
    have hk9 : k = 9 := by omega
    subst hk9
    refine kend [0, 1, 2, 3] (res_none rfl) rfl rfl ?_ ⟨rfl, rfl, rfl, rfl, trivial⟩
    rfl
set_option maxRecDepth 4000 in
set_option maxHeartbeats 1000000 in
theorem ris_no (f : FrM) (hf : frB f = false) : DFun Tryz.prog 24 [.val (.agg (frC f).toArray)] [] (.tup [.val (.agg (frC zF).toArray), .val (.int .i64 280)]) [] := by
  refine dcalls_body (N := 27) 0 (by kernel_rfl) Tryz.func24 rfl rfl rfl (by simp only [fr0, Nat.zero_add, Nat.reduceAdd]; exact rfl) rfl fun s0 hs0 => ?_
  refine dbody_seq rfl hs0 ?_
  refine zaj 3 (by simp only [holes, List.cons_append, List.nil_append]; exact rfl) ?_
  refine zac ?_
  refine zam rfl rfl rfl (op_boxa 0 rfl (ev1 rfl) rfl) (by simp only [upd, za, zaa]; exact rfl) ?_
  refine zam rfl rfl rfl (zaq 1 rfl zr29 rfl) (by simp only [upd, za, zaa]; exact rfl) ?_
  refine zam rfl rfl rfl (zaq 2 rfl zr34 rfl) (by simp only [upd, za, zaa]; exact rfl) ?_
  refine zae ?_
  refine dbody_defer (l0 := [_]) rfl rfl rfl rfl rfl hs0 ?_
  refine zab rfl rfl rfl (op_mkf rfl en (ec (ev1 rfl) en)) ?_
  refine zae ⟨_, _, _, 3, ev1 rfl, Nat.le_trans hs0 (by decide), rfl, ?_⟩
  have hs1 : s0.M.length ≤ 3 := Nat.le_trans hs0 (by decide)
  refine dbody_end rfl hs0 ?_
  refine zaf ?_
  refine zac ?_
  refine zab rfl rfl rfl (zas rfl tb29 (ev1 rfl) rfl (zao _)) ?_
  refine walk_p rfl (dop_callP [] [] [] rfl (ev1 rfl) (ec (ev1 rfl) en) rfl rfl (chOf_no f hf) rfl rfl rfl rfl rfl rfl) rfl ?_
  refine kdef (dturn_caught [2] [] rfl rfl rfl (rise1_caught _ _) rfl rfl rfl rfl rfl) ?_
  refine kend0 (rs2 rfl (rv_w tb29 rfl rfl (zao _)) (rv_1 tb34 rfl rfl rfl)) rfl ?_
  rfl
set_option maxRecDepth 4000 in
set_option maxHeartbeats 1000000 in
theorem ris_ok (f : FrM) (hf : frB f = true) : DFun Tryz.prog 24 [.val (.agg (frC f).toArray)] [] (.tup [.val (.agg (frC ⟨f.fo, f.bv, 0, fun i => risP f.fo (f.st i)⟩).toArray), .val (.int .i64 0)]) [] := by
  refine dcalls_body (N := 27) 0 (by kernel_rfl) Tryz.func24 rfl rfl rfl (by simp only [fr0, Nat.zero_add, Nat.reduceAdd]; exact rfl) rfl fun s0 hs0 => ?_
  refine dbody_seq rfl hs0 ?_
  refine zaj 3 (by simp only [holes, List.cons_append, List.nil_append]; exact rfl) ?_
  refine zac ?_
  refine zam rfl rfl rfl (op_boxa 0 rfl (ev1 rfl) rfl) (by simp only [upd, za, zaa]; exact rfl) ?_
  refine zam rfl rfl rfl (zaq 1 rfl zr29 rfl) (by simp only [upd, za, zaa]; exact rfl) ?_
  refine zam rfl rfl rfl (zaq 2 rfl zr34 rfl) (by simp only [upd, za, zaa]; exact rfl) ?_
  refine zae ?_
  refine dbody_defer (l0 := [_]) rfl rfl rfl rfl rfl hs0 ?_
  refine zab rfl rfl rfl (op_mkf rfl en (ec (ev1 rfl) en)) ?_
  refine zae ⟨_, _, _, 3, ev1 rfl, Nat.le_trans hs0 (by decide), rfl, ?_⟩
  have hs1 : s0.M.length ≤ 3 := Nat.le_trans hs0 (by decide)
  refine dbody_end rfl hs0 ?_
  refine zaf ?_
  refine zaj 1 (by simp only [holes, List.cons_append, List.nil_append]; exact rfl) ?_
  refine zac ?_
  refine zab rfl rfl rfl (zas rfl tb29 (ev1 rfl) rfl (zao _)) ?_
  refine zam rfl rfl rfl (zah [] [] [3] rfl (ev1 rfl) (ec (ev1 rfl) en) rfl rfl (chOf_ok f hf) rfl rfl rfl rfl rfl rfl) (by simp only [upd, za, zaa]; exact rfl) ?_
  refine zab rfl rfl rfl (zad (.inr rfl) (ev1 rfl)) ?_
  refine zae ?_
  refine zaf ?_
  refine zaj 1 (by simp only [holes, List.cons_append, List.nil_append]; exact rfl) ?_
  refine zac ?_
  refine zab rfl rfl rfl (zad (.inl rfl) (ev1 rfl)) ?_
  refine zab rfl rfl rfl (op_mkf rfl (ec (ev1 rfl) en) en) ?_
  refine zam rfl rfl rfl (zaq 4 rfl zr84 rfl) (by simp only [upd, za, zaa]; exact rfl) ?_
  refine zax rfl rfl (op_stfm rfl tb84 (ev1 rfl) (ev1 rfl) (fun s v h => by cases h <;> exact ⟨rfl, rfl⟩) rfl (by decide)) (by simp only [upd, za, zaa]; exact rfl) ?_
  refine zae ?_
  refine zaf ?_
  refine zaf ?_
  refine zaj 1 (by simp only [holes, List.cons_append, List.nil_append]; exact rfl) ?_
  refine zac ?_
  refine zab rfl rfl rfl (zad (.inl rfl) (ev1 rfl)) ?_
  refine zam rfl rfl rfl (zah [3] [] [5] rfl (ev1 rfl) (ec (ev1 rfl) en) rfl rfl (regd_d _) rfl rfl rfl rfl rfl rfl) (by simp only [upd, za, zaa]; exact rfl) ?_
  refine zae ?_
  refine zat ?_
  refine dwp_hole ?_
  simp only [List.cons_append, List.nil_append]
  refine dwp_rf (FL := [(5, _)]) (st := .ready) (pe := none) [6, 4, 5, 3] [] [] 6 rfl rfl (ev1 rfl) rfl (subF_lk ⟨rfl, trivial⟩) rfl rfl rfl (rd_rise f) rfl rfl rfl rfl rfl rfl rfl (by simp) (fun e => ?_) (fun c e => ?_)
  · simp only [upd, za, zaa]
    refine zaf ?_
    refine zac ?_
    refine zab rfl rfl rfl (zad (.inl rfl) (ev1 rfl)) ?_
    refine zab rfl rfl rfl (op_nc rfl (ev1 rfl) (fun s v h => by cases h; exact ⟨_, rfl⟩)) ?_
    refine zab rfl rfl rfl (zap rfl fo101_0 (ev1 rfl)) ?_
    refine zab rfl rfl rfl (zap rfl fo29_2 (ev1 rfl)) ?_
    refine zax rfl rfl (op_st1 rfl tb22 (ev1 rfl) (ev1 rfl) rfl (by simp only [zao]; omega) (frC_wpr _)) (by simp only [upd, za, zaa]; exact rfl) ?_
    refine zae ?_
    refine zaf ?_
    refine zac ?_
    refine zab rfl rfl rfl (zad (.inl rfl) (ev1 rfl)) ?_
    refine zab rfl rfl rfl (op_nc rfl (ev1 rfl) (fun s v h => by cases h; exact ⟨_, rfl⟩)) ?_
    refine zab rfl rfl rfl (zap rfl fo101_0 (ev1 rfl)) ?_
    refine zab rfl rfl rfl (zas rfl tb29 (ev1 rfl) rfl (zao _)) ?_
    refine zax rfl rfl (op_stwa rfl tb29 (ev1 rfl) (ev1 rfl) rfl (zao _) (frC_oc _) rfl) (by simp only [upd, za, zaa]; exact rfl) ?_
    refine zax rfl rfl (op_stwi rfl tb34 (ev1 rfl) (ev1 rfl) rfl) (by simp only [upd, za, zaa]; exact rfl) ?_
    refine zae ?_
    refine zau ?_
    refine kdef (dturn_idle [2] [] rfl rfl (rise1_idle _) rfl rfl rfl rfl rfl) ?_
    refine kend0 (rs2 rfl (rv_w tb29 rfl rfl (zao _)) (rv_1 tb34 rfl rfl rfl)) rfl ?_
    rw [← risTo_end]
  · cases e
end Go.Proofs.YtnjnhghafjlmbaaGreat
namespace Go.Proofs.YtnjnhghafjlmbaaGreat
set_option linter.unusedVariables false
set_option linter.unusedSimpArgs false
open Go.RowKit
theorem siB_ref (fo i : Nat) (p : Pl) : (((!p.inn) && (!eqP p zP)) || (p.inn && ((decide (i = 0) || !plB p) || decide (p.fl < fo)))) = !siB fo i p := by
  cases hi : p.inn
  · have : plB p = false := by unfold plB; rw [hi]; rfl
    unfold siB
    rw [this]
    cases eqP p zP <;> simp
  · have : eqP p zP = false := by
      rw [← Bool.not_eq_true]
      intro h
      have := (eqP_zP.1 h).1
      rw [hi] at this
      cases this
    unfold siB
    rw [this]
    rw [Bool.eq_iff_iff]
    cases hp : plB p <;> simp
theorem fr1_t (f : FrM) (h : ((((decide ((4611686018427387904 : Int) < (f.fo : Int))) || !vB f.bv) || decide ((4611686018427387904 : Int) < (f.pr : Int))) || (((f.pr : Int) != 0) && decide ((f.pr : Int) ≤ (f.fo : Int)))) = true) : frB f = false := by
  rw [natover, natover, natnz, natle] at h
  rw [← Bool.not_eq_true, frB_iff]
  rintro ⟨h1, h2, h3, h4, h5⟩
  rw [h2] at h
  simp at h
  omega
theorem fr1_f (f : FrM) (h : ((((decide ((4611686018427387904 : Int) < (f.fo : Int))) || !vB f.bv) || decide ((4611686018427387904 : Int) < (f.pr : Int))) || (((f.pr : Int) != 0) && decide ((f.pr : Int) ≤ (f.fo : Int)))) = false) : f.fo ≤ LAST ∧ vB f.bv = true ∧ f.pr ≤ LAST ∧ (f.pr = 0 ∨ f.fo < f.pr) := by
  rw [natover, natover, natnz, natle] at h
  cases hv : vB f.bv
  · rw [hv] at h; simp at h
  · rw [hv] at h
    simp at h
    exact ⟨by omega, rfl, by omega, by omega⟩
set_option maxRecDepth 4000 in
set_option maxHeartbeats 1000000 in
theorem refPl_d (p : Pl) : DFun Tryz.prog 44 [.val (.agg (plC p).toArray)] [] (.val (.bool (plB p))) [] := by
  refine zba (N := 20) 0 (by kernel_rfl) Tryz.func44 rfl rfl rfl (by simp only [fr0, Nat.zero_add, Nat.reduceAdd]; exact rfl) rfl fun s0 hs0 => ?_
  refine zaf ?_
  refine zaj 1 (by simp only [holes, List.cons_append, List.nil_append]; exact rfl) ?_
  refine zac ?_
  refine zam rfl rfl rfl (op_boxa 0 rfl (ev1 rfl) rfl) (by simp only [upd, za, zaa]; exact rfl) ?_
  refine zab rfl rfl rfl (zad (.inr rfl) (ev1 rfl)) ?_
  refine zae ?_
  refine zaf ?_
  refine zac ?_
  refine zab rfl rfl rfl (zap rfl fo26_0 (ev1 rfl)) ?_
  refine zab rfl rfl rfl (op_ldo rfl tb4 (ev1 rfl) rfl rfl) ?_
  refine zab rfl rfl rfl (zad (.inl rfl) (ev1 rfl)) ?_
  refine zag (zar rfl rfl rfl) rfl rfl rfl (zap rfl fo26_1 (ev1 rfl)) ?_
  refine zag (zar rfl rfl rfl) rfl rfl rfl (op_ldo rfl tb22 (ev2 rfl) rfl rfl) ?_
  refine zag (zar rfl rfl rfl) rfl rfl rfl (op_leq rfl (ev2 rfl) (ev1 rfl)) ?_
  refine zab rfl rfl rfl (zaz rfl (ev1 rfl) (ev3 rfl id)) ?_
  refine zab rfl rfl rfl (zad (.inl rfl) (ev1 rfl)) ?_
  refine zag (zar rfl rfl rfl) rfl rfl rfl (zap rfl fo26_2 (ev1 rfl)) ?_
  refine zag (zar rfl rfl rfl) rfl rfl rfl (op_ldo rfl tb22 (ev2 rfl) rfl rfl) ?_
  refine zag (zar rfl rfl rfl) rfl rfl rfl (op_leq rfl (ev2 rfl) (ev1 rfl)) ?_
  refine zab rfl rfl rfl (zaz rfl (ev1 rfl) (ev3 rfl id)) ?_
  refine zab rfl rfl rfl (zad (.inl rfl) (ev1 rfl)) ?_
  refine zag (zar rfl rfl rfl) rfl rfl rfl (zap rfl fo26_3 (ev1 rfl)) ?_
  refine zag (zar rfl rfl rfl) rfl rfl rfl (op_ldr rfl tb24 (ev2 rfl) rfl rfl rfl) ?_
  refine zag (zar rfl rfl rfl) rfl rfl rfl (zah [] [] [] rfl (ev1 rfl) (ec (ev2 rfl) en) rfl rfl (refVR_d _) rfl rfl rfl rfl rfl rfl) ?_
  refine zab rfl rfl rfl (zaz rfl (ev1 rfl) (ev3 rfl id)) ?_
  refine zab rfl rfl rfl (zad (.inr rfl) (ev1 rfl)) ?_
  refine zae ?_
  refine zau ?_
  refine kend0 (rs1 rfl (rv_t rfl)) rfl ?_
  rw [natlast, natlast]
  rfl
set_option maxRecDepth 4000 in
set_option maxHeartbeats 1000000 in
theorem refFr_d (f : FrM) : DFun Tryz.prog 10 [.val (.agg (frC f).toArray)] [] (.val (.bool (frB f))) [] := by
  refine zba (N := 66) 0 (by kernel_rfl) Tryz.func10 rfl rfl rfl (by simp only [fr0, Nat.zero_add, Nat.reduceAdd]; exact rfl) rfl fun s0 hs0 => ?_
  refine zaf ?_
  refine zaj 1 (by simp only [holes, List.cons_append, List.nil_append]; exact rfl) ?_
  refine zac ?_
  refine zam rfl rfl rfl (op_boxa 0 rfl (ev1 rfl) rfl) (by simp only [upd, za, zaa]; exact rfl) ?_
  refine zab rfl rfl rfl (zad (.inr rfl) (ev1 rfl)) ?_
  refine zae ?_
  refine zaf ?_
  refine zaf ?_
  refine zac ?_
  refine zab rfl rfl rfl (zap rfl fo29_0 (ev1 rfl)) ?_
  refine zab rfl rfl rfl (op_ldo rfl tb22 (ev1 rfl) rfl rfl) ?_
  refine zab rfl rfl rfl (op_gtr rfl (ev1 rfl) (ev1 rfl)) ?_
  refine zab rfl rfl rfl (zad (.inl rfl) (ev1 rfl)) ?_
  refine zag (zan rfl rfl rfl) rfl rfl rfl (zap rfl fo29_1 (ev1 rfl)) ?_
  refine zag (zan rfl rfl rfl) rfl rfl rfl (op_ldr rfl tb24 (ev2 rfl) rfl (frC_bv _) rfl) ?_
  refine zag (zan rfl rfl rfl) rfl rfl rfl (zah [] [] [] rfl (ev1 rfl) (ec (ev2 rfl) en) rfl rfl (refVR_d _) rfl rfl rfl rfl rfl rfl) ?_
  refine zag (zan rfl rfl rfl) rfl rfl rfl (op_not rfl (ev2 rfl)) ?_
  refine zab rfl rfl rfl (op_or rfl (ev1 rfl) (ev3 rfl id)) ?_
  refine zab rfl rfl rfl (zad (.inl rfl) (ev1 rfl)) ?_
  refine zag (zan rfl rfl rfl) rfl rfl rfl (zap rfl fo29_2 (ev1 rfl)) ?_
  refine zag (zan rfl rfl rfl) rfl rfl rfl (op_ldo rfl tb22 (ev2 rfl) rfl (frC_pr _)) ?_
  refine zag (zan rfl rfl rfl) rfl rfl rfl (op_gtr rfl (ev2 rfl) (ev1 rfl)) ?_
  refine zab rfl rfl rfl (op_or rfl (ev1 rfl) (ev3 rfl id)) ?_
  refine zab rfl rfl rfl (zad (.inl rfl) (ev1 rfl)) ?_
  refine zag (zan rfl rfl rfl) rfl rfl rfl (zap rfl fo29_2 (ev1 rfl)) ?_
  refine zag (zan rfl rfl rfl) rfl rfl rfl (op_ldo rfl tb22 (ev2 rfl) rfl (frC_pr _)) ?_
  refine zag (zan rfl rfl rfl) rfl rfl rfl (op_neq rfl (ev2 rfl) (ev1 rfl)) ?_
  refine zag (zan rfl rfl rfl) rfl rfl rfl (zad (.inl rfl) (ev2 rfl)) ?_
  refine zag (zay rfl rfl rfl) rfl rfl rfl (zap rfl fo29_2 (ev1 rfl)) ?_
  refine zag (zay rfl rfl rfl) rfl rfl rfl (op_ldo rfl tb22 (ev2 rfl) rfl (frC_pr _)) ?_
  refine zag (zay rfl rfl rfl) rfl rfl rfl (zap rfl fo29_0 (ev1 rfl)) ?_
  refine zag (zay rfl rfl rfl) rfl rfl rfl (op_ldo rfl tb22 (ev2 rfl) rfl rfl) ?_
  refine zag (zay rfl rfl rfl) rfl rfl rfl (op_leq rfl (ev2 rfl) (ev2 rfl)) ?_
  refine zag (zan rfl rfl rfl) rfl rfl rfl (zaz rfl (ev2 rfl) (ev2 rfl)) ?_
  refine zab rfl rfl rfl (op_or rfl (ev1 rfl) (ev3 rfl id)) ?_
  refine zae ?_
  refine zaw rfl (fun c1 => ?_) (fun c1 => ?_)
  · have hb := fr1_t f c1
    refine zaf ?_
    refine zac ?_
    refine zab rfl rfl rfl (zad (.inr rfl) (ev1 rfl)) ?_
    refine zae ?_
    refine zau ?_
    refine kend0 (rs1 rfl (rv_t rfl)) rfl ?_
    rw [hb]
  · have hb := fr1_f f c1
    refine zak ?_
    refine zaf ?_
    refine zaf ?_
    refine zac ?_
    refine zab rfl rfl rfl (zap rfl fo29_3 (ev1 rfl)) ?_
    refine zab rfl rfl rfl (op_ldr rfl tb27 (ev1 rfl) rfl (frC_st f) (by rw [sL_flat]; rfl)) ?_
    refine zab rfl rfl rfl (zad (.inl rfl) (ev1 rfl)) ?_
    refine zae ?_
    refine zat ?_
    refine dwp_loopS ⟨hs0, rfl⟩ (α := Nat) (fun k => [(33, .val (.int .i64 (k : Int)))]) [(1, _), (32, _)] (fun k => []) [_] (fun k => k ≤ 9 ∧ ∀ i, i < k → siB f.fo i (f.st i) = true) (fun k => 9 - k) 0 [0] (⟨by omega, fun i hi => absurd hi (by omega)⟩) rfl ⟨rfl, rfl, trivial⟩ ⟨rfl, trivial⟩ ⟨rfl, trivial⟩ ?_
    intro k hx
    simp only [upd, za, zaa, List.cons_append, List.nil_append]
    obtain ⟨hk, he⟩ := hx
    refine zaf ?_
    refine zac ?_
    refine zab rfl rfl rfl (op_lss rfl (ev1 rfl) (ev1 rfl)) ?_
    refine zae ?_
    refine zaf ?_
    refine zaw rfl (fun c2 => ?_) (fun c2 => ?_)
    · try simp only [decide_eq_true_eq, decide_eq_false_iff_not, beq_iff_eq, bne_iff_ne, beq_eq_false_iff_ne, bne_eq_false_iff_eq, Bool.not_eq_true', Bool.not_eq_false', Bool.and_eq_true, Bool.or_eq_true, Bool.or_eq_false_iff, ne_eq, Decidable.not_not, Int.not_lt, Int.not_le] at c2
      refine zak ?_
      refine zaf ?_
      refine zat ?_
      refine zaf ?_
      refine zaj 1 (by simp only [holes, List.cons_append, List.nil_append]; exact rfl) ?_
      refine zac ?_
      refine zab rfl rfl rfl (zad (.inl rfl) (ev1 rfl)) ?_
      refine zab rfl rfl rfl ((by rw [← sL_at f.st k (by omega)]; exact op_ixv (j := k) (zP) rfl av27 (ev1 rfl) (ev1 rfl) (fun _ => rfl) (fun _ => by omega) (sL_len _) (fun _ => rfl) : DOp _ _ _ _ _ _ (.val (.agg (plC (f.st k)).toArray)) _)) ?_
      refine zam rfl rfl rfl (zaq 1 rfl zr26 rfl) (by simp only [upd, za, zaa]; exact rfl) ?_
      refine zab rfl rfl rfl (zad (.inr rfl) (ev1 rfl)) ?_
      refine zax rfl rfl (op_stwa rfl tb26 (ev1 rfl) (ev1 rfl) rfl rfl rfl rfl) (by simp only [upd, za, zaa]; exact rfl) ?_
      refine zae ?_
      refine zaf ?_
      refine zac ?_
      refine zab rfl rfl rfl (zap rfl fo26_0 (ev1 rfl)) ?_
      refine zab rfl rfl rfl (op_ldo rfl tb4 (ev1 rfl) rfl rfl) ?_
      refine zab rfl rfl rfl (op_not rfl (ev1 rfl)) ?_
      refine zab rfl rfl rfl (zad (.inl rfl) (ev1 rfl)) ?_
      refine zag (zar rfl rfl rfl) rfl rfl rfl (zas rfl tb26 (ev1 rfl) rfl rfl) ?_
      refine zag (zar rfl rfl rfl) rfl rfl rfl (op_build0 rfl fl26 zr26) ?_
      refine zag (zar rfl rfl rfl) rfl rfl rfl (op_ner eq26 rfl gd26 tb26 (ev2 rfl) (ev2 rfl)) ?_
      refine zab rfl rfl rfl (zaz rfl (ev1 rfl) (ev3 rfl id)) ?_
      refine zab rfl rfl rfl (zad (.inl rfl) (ev1 rfl)) ?_
      refine zag (zan rfl rfl rfl) rfl rfl rfl (zap rfl fo26_0 (ev1 rfl)) ?_
      refine zag (zan rfl rfl rfl) rfl rfl rfl (op_ldo rfl tb4 (ev2 rfl) rfl rfl) ?_
      refine zag (zan rfl rfl rfl) rfl rfl rfl (zad (.inl rfl) (ev2 rfl)) ?_
      refine zag (zay rfl rfl rfl) rfl rfl rfl (zad (.inl rfl) (ev1 rfl)) ?_
      refine zag (zay rfl rfl rfl) rfl rfl rfl (zb rfl (ev2 rfl) (ev1 rfl)) ?_
      refine zag (zay rfl rfl rfl) rfl rfl rfl (zad (.inl rfl) (ev2 rfl)) ?_
      refine zag (gd_ff rfl rfl rfl) rfl rfl rfl (zas rfl tb26 (ev1 rfl) rfl rfl) ?_
      refine zag (gd_ff rfl rfl rfl) rfl rfl rfl (zah [] [] [] rfl (ev1 rfl) (ec (ev2 rfl) en) rfl rfl (refPl_d _) rfl rfl rfl rfl rfl rfl) ?_
      refine zag (gd_ff rfl rfl rfl) rfl rfl rfl (op_not rfl (ev2 rfl)) ?_
      refine zag (zay rfl rfl rfl) rfl rfl rfl (op_or rfl (ev2 rfl) (ev2 rfl)) ?_
      refine zag (zay rfl rfl rfl) rfl rfl rfl (zad (.inl rfl) (ev2 rfl)) ?_
      refine zag (gd_ff rfl rfl rfl) rfl rfl rfl (zap rfl fo26_1 (ev1 rfl)) ?_
      refine zag (gd_ff rfl rfl rfl) rfl rfl rfl (op_ldo rfl tb22 (ev2 rfl) rfl rfl) ?_
      refine zag (gd_ff rfl rfl rfl) rfl rfl rfl (zap rfl fo29_0 (ev1 rfl)) ?_
      refine zag (gd_ff rfl rfl rfl) rfl rfl rfl (op_ldo rfl tb22 (ev2 rfl) rfl rfl) ?_
      refine zag (gd_ff rfl rfl rfl) rfl rfl rfl (op_lss rfl (ev2 rfl) (ev2 rfl)) ?_
      refine zag (zay rfl rfl rfl) rfl rfl rfl (op_or rfl (ev2 rfl) (ev2 rfl)) ?_
      refine zag (zan rfl rfl rfl) rfl rfl rfl (zaz rfl (ev2 rfl) (ev2 rfl)) ?_
      refine zab rfl rfl rfl (op_or rfl (ev1 rfl) (ev3 rfl id)) ?_
      refine zae ?_
      refine zaw rfl (fun c2 => ?_) (fun c2 => ?_)
      · have hsi : siB f.fo k (f.st k) = false := by
          rw [natlt, natzero] at c2
          exact notT ((siB_ref f.fo k (f.st k)).symm.trans c2)
        refine zaf ?_
        refine zac ?_
        refine zab rfl rfl rfl (zad (.inr rfl) (ev1 rfl)) ?_
        refine zae ?_
        refine zau ?_
        refine kend0 (rs1 rfl (rv_t rfl)) rfl ?_
        rw [show frB f = false by rw [← Bool.not_eq_true, frB_iff]; exact fun h => by have := h.2.2.2.2 k (by omega); rw [hsi] at this; cases this]
      · have hsi : siB f.fo k (f.st k) = true := by
          rw [natlt, natzero] at c2
          exact notF ((siB_ref f.fo k (f.st k)).symm.trans c2)
        refine zak ?_
        refine zac ?_
        refine zab rfl rfl rfl (op_add' rfl (ev1 rfl) (ev1 rfl) (fun _ => IntWalk.i64_in _ (by omega))) ?_
        refine zab rfl rfl rfl (zad (.inl rfl) (ev1 rfl)) ?_
        refine zae ?_
        refine ⟨k + 1, [0], ⟨by omega, fun i hi => by
      by_cases e : i = k
      · rw [e]; exact hsi
      · exact he i (by omega)⟩, by simp only []; omega, rfl, ⟨rfl, rfl, rfl, trivial⟩, ⟨rfl, trivial⟩⟩
    · try simp only [decide_eq_true_eq, decide_eq_false_iff_not, beq_iff_eq, bne_iff_ne, beq_eq_false_iff_ne, bne_eq_false_iff_eq, Bool.not_eq_true', Bool.not_eq_false', Bool.and_eq_true, Bool.or_eq_true, Bool.or_eq_false_iff, ne_eq, Decidable.not_not, Int.not_lt, Int.not_le] at c2
      refine dwp_exit ?_
      refine zaf ?_
      refine zac ?_
      refine zab rfl rfl rfl (zad (.inr rfl) (ev1 rfl)) ?_
      refine zae ?_
      refine zau ?_
      refine kend0 (rs1 rfl (rv_t rfl)) rfl ?_
      rw [frB_iff.2 ⟨hb.1, hb.2.1, hb.2.2.1, hb.2.2.2, fun i hi => he i (by omega)⟩]
end Go.Proofs.YtnjnhghafjlmbaaGreat
namespace Go.Proofs.YtnjnhghafjlmbaaGreat
set_option linter.unusedVariables false
set_option linter.unusedSimpArgs false
open Go.RowKit
def asRef (f : FrM) (k : Nat) : Vec := fun i => if i < k then (f.st i).fs else 0
theorem asRef_0 (f : FrM) : asRef f 0 = z9 := by funext i; unfold asRef; rw [if_neg (by omega)]; rfl
theorem asRef_step (f : FrM) (k : Nat) : upV (asRef f k) k (f.st k).fs = asRef f (k + 1) := by
  funext i
  unfold upV asRef
  by_cases e : i = k
  · subst e; rw [if_pos rfl, if_pos (by omega)]
  · rw [if_neg e]
    by_cases h2 : i < k
    · rw [if_pos h2, if_pos (by omega)]
    · rw [if_neg h2, if_neg (by omega)]
theorem asRef_9 (f : FrM) : c9 (asRef f 9) = c9 (askV f) := c9_congr fun i hi => by unfold asRef askV; rw [if_pos hi]
set_option maxRecDepth 4000 in
set_option maxHeartbeats 1000000 in
theorem refAsk_d (f : FrM) : DFun Tryz.prog 18 [.val (.agg (frC f).toArray)] [] (.val (.agg (c9 (askV f)).toArray)) [] := by
  refine zba (N := 18) 0 (by kernel_rfl) Tryz.func18 rfl rfl rfl (by simp only [fr0, Nat.zero_add, Nat.reduceAdd]; exact rfl) rfl fun s0 hs0 => ?_
  refine zaf ?_
  refine zaj 2 (by simp only [holes, List.cons_append, List.nil_append]; exact rfl) ?_
  refine zac ?_
  refine zam rfl rfl rfl (op_boxa 0 rfl (ev1 rfl) rfl) (by simp only [upd, za, zaa]; exact rfl) ?_
  refine zam rfl rfl rfl (zaq 1 rfl zr24 rfl) (by simp only [upd, za, zaa]; exact rfl) ?_
  refine zae ?_
  refine zaf ?_
  refine zaj 1 (by simp only [holes, List.cons_append, List.nil_append]; exact rfl) ?_
  refine zac ?_
  refine zam rfl rfl rfl (zaq 2 rfl zr24 rfl) (by simp only [upd, za, zaa]; exact rfl) ?_
  refine zae ?_
  refine zaf ?_
  refine zaf ?_
  refine zac ?_
  refine zab rfl rfl rfl (zap rfl fo29_3 (ev1 rfl)) ?_
  refine zab rfl rfl rfl (op_ldr rfl tb27 (ev1 rfl) rfl (frC_st f) (by rw [sL_flat]; rfl)) ?_
  refine zab rfl rfl rfl (zad (.inl rfl) (ev1 rfl)) ?_
  refine zae ?_
  refine zat ?_
  refine dwp_loopS ⟨hs0, rfl⟩ (α := Nat) (fun k => [(8, .val (.int .i64 (k : Int)))]) [(2, _), (3, _), (7, _)] (fun k => [(2, .flat 24 (c9 (asRef f k)))]) [_, _, .hole] (fun k => k ≤ 9) (fun k => 9 - k) 0 [0, 1, 2] (by omega) rfl ⟨rfl, rfl, rfl, trivial⟩ ⟨rfl, trivial⟩ ⟨rfl, rfl, by rw [asRef_0]; rfl, trivial⟩ ?_
  intro k hx
  simp only [upd, za, zaa, List.cons_append, List.nil_append]
  have hk := hx
  refine zaf ?_
  refine zac ?_
  refine zab rfl rfl rfl (op_lss rfl (ev1 rfl) (ev1 rfl)) ?_
  refine zae ?_
  refine zaf ?_
  refine zaw rfl (fun c1 => ?_) (fun c1 => ?_)
  · try simp only [decide_eq_true_eq, decide_eq_false_iff_not, beq_iff_eq, bne_iff_ne, beq_eq_false_iff_ne, bne_eq_false_iff_eq, Bool.not_eq_true', Bool.not_eq_false', Bool.and_eq_true, Bool.or_eq_true, Bool.or_eq_false_iff, ne_eq, Decidable.not_not, Int.not_lt, Int.not_le] at c1
    refine zak ?_
    refine zaf ?_
    refine zat ?_
    refine zaf ?_
    refine zaj 1 (by simp only [holes, List.cons_append, List.nil_append]; exact rfl) ?_
    refine zac ?_
    refine zab rfl rfl rfl (zad (.inl rfl) (ev1 rfl)) ?_
    refine zab rfl rfl rfl ((by rw [← sL_at f.st k (by omega)]; exact op_ixv (j := k) (zP) rfl av27 (ev1 rfl) (ev1 rfl) (fun _ => rfl) (fun _ => by omega) (sL_len _) (fun _ => rfl) : DOp _ _ _ _ _ _ (.val (.agg (plC (f.st k)).toArray)) _)) ?_
    refine zam rfl rfl rfl (zaq 3 rfl zr26 rfl) (by simp only [upd, za, zaa]; exact rfl) ?_
    refine zab rfl rfl rfl (zad (.inr rfl) (ev1 rfl)) ?_
    refine zax rfl rfl (op_stwa rfl tb26 (ev1 rfl) (ev1 rfl) rfl rfl rfl rfl) (by simp only [upd, za, zaa]; exact rfl) ?_
    refine zae ?_
    refine zac ?_
    refine zab rfl rfl rfl (zad (.inl rfl) (ev1 rfl)) ?_
    refine zab rfl rfl rfl (zap rfl fo26_2 (ev1 rfl)) ?_
    refine zab rfl rfl rfl (op_ldo rfl tb22 (ev1 rfl) rfl rfl) ?_
    refine zab rfl rfl rfl (op_ixl rfl ar24 (ev1 rfl) (ev1 rfl) (fun _ => by omega)) ?_
    refine zax rfl rfl (op_st1 rfl tb22 (ev1 rfl) (ev1 rfl) rfl (by simp [c9_len]; omega) (c9_setp (j := k) (by simp) (by omega))) (by simp only [upd, za, zaa]; exact rfl) ?_
    refine zae ?_
    refine zac ?_
    refine zab rfl rfl rfl (op_add' rfl (ev1 rfl) (ev1 rfl) (fun _ => IntWalk.i64_in _ (by omega))) ?_
    refine zab rfl rfl rfl (zad (.inl rfl) (ev1 rfl)) ?_
    refine zae ?_
    refine ⟨k + 1, [0, 1, 2], by omega, by simp only []; omega, rfl, ⟨rfl, rfl, rfl, rfl, trivial⟩, ⟨rfl, rfl, by rw [← asRef_step]; rfl, trivial⟩⟩
  · try simp only [decide_eq_true_eq, decide_eq_false_iff_not, beq_iff_eq, bne_iff_ne, beq_eq_false_iff_ne, bne_eq_false_iff_eq, Bool.not_eq_true', Bool.not_eq_false', Bool.and_eq_true, Bool.or_eq_true, Bool.or_eq_false_iff, ne_eq, Decidable.not_not, Int.not_lt, Int.not_le] at c1
    refine dwp_exit ?_
    refine zaf ?_
    refine zac ?_
    refine zab rfl rfl rfl (zas rfl tb24 (ev1 rfl) rfl rfl) ?_
    refine zax rfl rfl (op_stwa rfl tb24 (ev1 rfl) (ev1 rfl) rfl rfl rfl rfl) (by simp only [upd, za, zaa]; exact rfl) ?_
    refine zae ?_
    refine zau ?_
    refine kend0 (rs1 rfl (rv_w tb24 rfl rfl rfl)) rfl ?_
    rw [show k = 9 by omega, asRef_9]
theorem arrI_add (l : List Int) (z : Int) : Blk.arr 3 1 (l.length + 1) (l.flatMap inI ++ [.int .i64 z]) = Blk.arr 3 1 (l ++ [z]).length ((l ++ [z]).flatMap inI) := by
  simp [List.flatMap_append, inI]
theorem waitB_ref (f : FrM) (v : Vec) (k : Nat) : ((f.st k).inn && ((decide (((f.st k).fl : Int) < (f.pr : Int)) || decide (((v k : Nat) : Int) < ((f.st k).fs : Int))) || !coB (f.st k).has (askV f))) = waitB f v k := by
  unfold waitB
  rw [natlt, natlt]
set_option maxRecDepth 4000 in
set_option maxHeartbeats 1000000 in
theorem refWai_o (f : FrM) (v : Vec) : DFun Tryz.prog 16 [.val (.agg (frC f).toArray), .val (.agg (c9 v).toArray)] [] (.arr 0) [.arr 3 1 (waitL f v).length ((waitL f v).flatMap inI)] := by
  refine zba (N := 45) 0 (by kernel_rfl) Tryz.func16 rfl rfl rfl (by simp only [fr0, Nat.zero_add, Nat.reduceAdd]; exact rfl) rfl fun s0 hs0 => ?_
  refine zaf ?_
  refine zaj 2 (by simp only [holes, List.cons_append, List.nil_append]; exact rfl) ?_
  refine zac ?_
  refine zam rfl rfl rfl (op_boxa 0 rfl (ev1 rfl) rfl) (by simp only [upd, za, zaa]; exact rfl) ?_
  refine zam rfl rfl rfl (op_boxa 1 rfl (ev1 rfl) rfl) (by simp only [upd, za, zaa]; exact rfl) ?_
  refine zab rfl rfl rfl (zad (.inr rfl) (ev1 rfl)) ?_
  refine zae ?_
  refine zaf ?_
  refine zac ?_
  refine zab rfl rfl rfl (zad (.inr rfl) (ev1 rfl)) ?_
  refine zae ?_
  refine zaf ?_
  refine zaf ?_
  refine zac ?_
  refine zab rfl rfl rfl (zap rfl fo29_3 (ev1 rfl)) ?_
  refine zab rfl rfl rfl (op_ldr rfl tb27 (ev1 rfl) rfl (frC_st f) (by rw [sL_flat]; rfl)) ?_
  refine zab rfl rfl rfl (zad (.inl rfl) (ev1 rfl)) ?_
  refine zae ?_
  refine zat ?_
  refine dwp_adopt 5 3 1 rfl rfl rfl ?_
  refine dwp_loopS ⟨hs0, rfl⟩ (α := Nat) (fun k => [(10, .val (.int .i64 (k : Int)))]) [(2, _), (3, _), (5, _), (9, _)] (fun k => [(2, .arr 3 1 (wlTo f v k).length ((wlTo f v k).flatMap inI))]) [_, _, .hole] (fun k => k ≤ 9) (fun k => 9 - k) 0 [0, 1, 2] (by omega) rfl ⟨rfl, rfl, rfl, rfl, trivial⟩ ⟨rfl, trivial⟩ ⟨rfl, rfl, rfl, trivial⟩ ?_
  intro k hx
  simp only [upd, za, zaa, List.cons_append, List.nil_append]
  have hk := hx
  have hwl := wlTo_len f v k
  refine zaf ?_
  refine zac ?_
  refine zab rfl rfl rfl (op_lss rfl (ev1 rfl) (ev1 rfl)) ?_
  refine zae ?_
  refine zaf ?_
  refine zaw rfl (fun c1 => ?_) (fun c1 => ?_)
  · try simp only [decide_eq_true_eq, decide_eq_false_iff_not, beq_iff_eq, bne_iff_ne, beq_eq_false_iff_ne, bne_eq_false_iff_eq, Bool.not_eq_true', Bool.not_eq_false', Bool.and_eq_true, Bool.or_eq_true, Bool.or_eq_false_iff, ne_eq, Decidable.not_not, Int.not_lt, Int.not_le] at c1
    refine zak ?_
    refine zaf ?_
    refine zat ?_
    refine zaf ?_
    refine zaj 1 (by simp only [holes, List.cons_append, List.nil_append]; exact rfl) ?_
    refine zac ?_
    refine zab rfl rfl rfl (zad (.inl rfl) (ev1 rfl)) ?_
    refine zab rfl rfl rfl ((by rw [← sL_at f.st k (by omega)]; exact op_ixv (j := k) (zP) rfl av27 (ev1 rfl) (ev1 rfl) (fun _ => rfl) (fun _ => by omega) (sL_len _) (fun _ => rfl) : DOp _ _ _ _ _ _ (.val (.agg (plC (f.st k)).toArray)) _)) ?_
    refine zam rfl rfl rfl (zaq 3 rfl zr26 rfl) (by simp only [upd, za, zaa]; exact rfl) ?_
    refine zab rfl rfl rfl (zad (.inr rfl) (ev1 rfl)) ?_
    refine zax rfl rfl (op_stwa rfl tb26 (ev1 rfl) (ev1 rfl) rfl rfl rfl rfl) (by simp only [upd, za, zaa]; exact rfl) ?_
    refine zae ?_
    refine zaf ?_
    refine dwp_draw [([], []), ([3], []), ([], []), ([], []), ([3], []), ([], []), ([0], []), ([], []), ([], []), ([], []), ([3], []), ([], []), ([], []), ([1], []), ([], []), ([], []), ([], []), ([], []), ([3], []), ([0], []), ([], []), ([], []), ([], []), ([], []), ([], [])] mixed (by kernel_rfl) ?_
    refine lex_r rfl rfl (zap rfl fo26_0 (ev1 rfl)) ?_
    refine lex_r rfl rfl (op_ldo rfl tb4 (ev1 rfl) rfl rfl) ?_
    refine lex_r rfl rfl (zad (.inl rfl) (ev1 rfl)) ?_
    refine lex_gr (zar rfl rfl rfl) rfl rfl (zap rfl fo26_1 (ev1 rfl)) ?_
    refine lex_gr (zar rfl rfl rfl) rfl rfl (op_ldo rfl tb22 (ev2 rfl) rfl rfl) ?_
    refine lex_gr (zar rfl rfl rfl) rfl rfl (zap rfl fo29_2 (ev1 rfl)) ?_
    refine lex_gr (zar rfl rfl rfl) rfl rfl (op_ldo rfl tb22 (ev2 rfl) rfl (frC_pr _)) ?_
    refine lex_gr (zar rfl rfl rfl) rfl rfl (op_lss rfl (ev2 rfl) (ev2 rfl)) ?_
    refine lex_gr (zar rfl rfl rfl) rfl rfl (zad (.inl rfl) (ev2 rfl)) ?_
    refine lex_gr (gd_ff rfl rfl rfl) rfl rfl (zap rfl fo26_2 (ev1 rfl)) ?_
    refine lex_gr (gd_ff rfl rfl rfl) rfl rfl (op_ldo rfl tb22 (ev2 rfl) rfl rfl) ?_
    refine lex_gr (gd_ff rfl rfl rfl) rfl rfl (zad (.inl rfl) (ev1 rfl)) ?_
    refine lex_gr (gd_ff rfl rfl rfl) rfl rfl (op_ixl rfl ar24 (ev1 rfl) (ev2 rfl) (fun _ => by omega)) ?_
    refine lex_gr (gd_ff rfl rfl rfl) rfl rfl (op_ldo rfl tb22 (ev2 rfl) rfl (c9_atp (j := k) (by simp) (by omega))) ?_
    refine lex_gr (gd_ff rfl rfl rfl) rfl rfl (op_gtr rfl (ev2 rfl) (ev2 rfl)) ?_
    refine lex_gr (zar rfl rfl rfl) rfl rfl (op_or rfl (ev2 rfl) (ev2 rfl)) ?_
    refine lex_gr (zar rfl rfl rfl) rfl rfl (zad (.inl rfl) (ev2 rfl)) ?_
    refine lex_gr (gd_ff rfl rfl rfl) rfl rfl (zap rfl fo26_3 (ev1 rfl)) ?_
    refine lex_gr (gd_ff rfl rfl rfl) rfl rfl (op_ldr rfl tb24 (ev2 rfl) rfl rfl rfl) ?_
    refine lex_gr (gd_ff rfl rfl rfl) rfl rfl (zas rfl tb29 (ev1 rfl) rfl (zao _)) ?_
    refine lex_gr (gd_ff rfl rfl rfl) rfl rfl (zah [] [] [] rfl (ev1 rfl) (ec (ev2 rfl) en) rfl rfl (refAsk_d _) rfl rfl rfl rfl rfl rfl) ?_
    refine lex_gr (gd_ff rfl rfl rfl) rfl rfl (zah [] [] [] rfl (ev1 rfl) (ec (ev2 rfl) (ec (ev2 rfl) en)) rfl rfl (refVC_d _ _) rfl rfl rfl rfl rfl rfl) ?_
    refine lex_gr (gd_ff rfl rfl rfl) rfl rfl (op_not rfl (ev2 rfl)) ?_
    refine lex_gr (zar rfl rfl rfl) rfl rfl (op_or rfl (ev2 rfl) (ev2 rfl)) ?_
    refine lex_r rfl rfl (zaz rfl (ev1 rfl) (ev3 rfl id)) ?_
    refine lex_nil ?_
    refine zaw rfl (fun c2 => ?_) (fun c2 => ?_)
    · have hw : waitB f v k = true := (waitB_ref f v k).symm.trans c2
      refine zaj 1 (by simp only [holes, List.cons_append, List.nil_append]; exact rfl) ?_
      refine zac ?_
      refine zab rfl rfl rfl (zad (.inl rfl) (ev1 rfl)) ?_
      refine zab rfl rfl rfl (zad (.inl rfl) (ev1 rfl)) ?_
      refine zab rfl rfl rfl (op_bs (ps := [(0, .tmp 40)]) rfl sl31 zr3 rfl (vc (ev1 rfl) vn) rfl (by decide) (by decide)) ?_
      refine zam rfl rfl rfl (op_app (j := 4) rfl sl31 zr3 rfl (ev1 rfl) (ev1 rfl) src_slf rfl rfl (fun _ => rfl) (fun _ => ⟨by omega, by omega⟩)) (by simp only [upd, za, zaa]; exact rfl) ?_
      refine zab rfl rfl rfl (zad (.inr rfl) (ev1 rfl)) ?_
      refine zae ?_
      refine zac ?_
      refine zab rfl rfl rfl (op_add' rfl (ev1 rfl) (ev1 rfl) (fun _ => IntWalk.i64_in _ (by omega))) ?_
      refine zab rfl rfl rfl (zad (.inl rfl) (ev1 rfl)) ?_
      refine zae ?_
      refine ⟨k + 1, [0, 1, 4], by omega, by simp only []; omega, rfl, ⟨rfl, rfl, rfl, rfl, rfl, trivial⟩, ⟨rfl, rfl, by rw [wlTo_yes hw, ← arrI_add]; rfl, trivial⟩⟩
    · have hw : waitB f v k = false := (waitB_ref f v k).symm.trans c2
      refine zak ?_
      refine zac ?_
      refine zab rfl rfl rfl (op_add' rfl (ev1 rfl) (ev1 rfl) (fun _ => IntWalk.i64_in _ (by omega))) ?_
      refine zab rfl rfl rfl (zad (.inl rfl) (ev1 rfl)) ?_
      refine zae ?_
      refine ⟨k + 1, [0, 1, 2], by omega, by simp only []; omega, rfl, ⟨rfl, rfl, rfl, rfl, rfl, trivial⟩, ⟨rfl, rfl, by rw [wlTo_no hw]; rfl, trivial⟩⟩
  · try simp only [decide_eq_true_eq, decide_eq_false_iff_not, beq_iff_eq, bne_iff_ne, beq_eq_false_iff_ne, bne_eq_false_iff_eq, Bool.not_eq_true', Bool.not_eq_false', Bool.and_eq_true, Bool.or_eq_true, Bool.or_eq_false_iff, ne_eq, Decidable.not_not, Int.not_lt, Int.not_le] at c1
    refine dwp_exit ?_
    refine zaf ?_
    refine zac ?_
    refine zab rfl rfl rfl (zad (.inl rfl) (ev1 rfl)) ?_
    refine zab rfl rfl rfl (zad (.inr rfl) (ev1 rfl)) ?_
    refine zae ?_
    refine zau ?_
    refine kend [2] (rs1 rfl (rv_t rfl)) rfl rfl ?_ ⟨?_, trivial⟩
    rfl
    rw [show k = 9 by omega]; rfl
end Go.Proofs.YtnjnhghafjlmbaaGreat
namespace Go.Proofs.YtnjnhghafjlmbaaGreat
set_option linter.unusedVariables false
set_option linter.unusedSimpArgs false
open Go.RowKit
theorem refWai_d (f : FrM) (v : Vec) : DFun Tryz.prog 16 [.val (.agg (frC f).toArray), .val (.agg (c9 v).toArray)] [] (.slf 1 (waitL f v).length ((waitL f v).flatMap inI)) [] := freeze (refWai_o f v) rfl
set_option maxRecDepth 4000 in
set_option maxHeartbeats 1000000 in
theorem refRdy_d (f : FrM) (v : Vec) : DFun Tryz.prog 17 [.val (.agg (frC f).toArray), .val (.agg (c9 v).toArray)] [] (.val (.bool (readyB f v))) [] := by
  refine zba (N := 15) 0 (by kernel_rfl) Tryz.func17 rfl rfl rfl (by simp only [fr0, Nat.zero_add, Nat.reduceAdd]; exact rfl) rfl fun s0 hs0 => ?_
  refine zaf ?_
  refine zaj 2 (by simp only [holes, List.cons_append, List.nil_append]; exact rfl) ?_
  refine zac ?_
  refine zam rfl rfl rfl (op_boxa 0 rfl (ev1 rfl) rfl) (by simp only [upd, za, zaa]; exact rfl) ?_
  refine zam rfl rfl rfl (op_boxa 1 rfl (ev1 rfl) rfl) (by simp only [upd, za, zaa]; exact rfl) ?_
  refine zab rfl rfl rfl (zad (.inr rfl) (ev1 rfl)) ?_
  refine zae ?_
  refine zaf ?_
  refine zac ?_
  refine zab rfl rfl rfl (zap rfl fo29_2 (ev1 rfl)) ?_
  refine zab rfl rfl rfl (op_ldo rfl tb22 (ev1 rfl) rfl (frC_pr _)) ?_
  refine zab rfl rfl rfl (op_gtr rfl (ev1 rfl) (ev1 rfl)) ?_
  refine zab rfl rfl rfl (zad (.inl rfl) (ev1 rfl)) ?_
  refine zag (zar rfl rfl rfl) rfl rfl rfl (zas rfl tb29 (ev1 rfl) rfl (zao _)) ?_
  refine zag (zar rfl rfl rfl) rfl rfl rfl (zas rfl tb24 (ev1 rfl) rfl rfl) ?_
  refine zag (zar rfl rfl rfl) rfl rfl rfl (zah [] [] [] rfl (ev1 rfl) (ec (ev2 rfl) (ec (ev2 rfl) en)) rfl rfl (refWai_d _ _) rfl rfl rfl rfl rfl rfl) ?_
  refine zag (zar rfl rfl rfl) rfl rfl rfl (op_len rfl sl31 (ev2 rfl)) ?_
  refine zag (zar rfl rfl rfl) rfl rfl rfl (zb rfl (ev2 rfl) (ev1 rfl)) ?_
  refine zab rfl rfl rfl (zaz rfl (ev1 rfl) (ev3 rfl id)) ?_
  refine zab rfl rfl rfl (zad (.inr rfl) (ev1 rfl)) ?_
  refine zae ?_
  refine zau ?_
  refine kend0 (rs1 rfl (rv_t rfl)) rfl ?_
  unfold readyB
  rw [show decide ((0 : Int) < (f.pr : Int)) = decide (0 < f.pr) from natlt 0 f.pr]
  cases waitL f v <;> simp
  all_goals (intros; omega)
set_option maxRecDepth 4000 in
set_option maxHeartbeats 1000000 in
theorem refFol_d (f : FrM) : DFun Tryz.prog 19 [.val (.agg (frC f).toArray)] [] (.val (.agg (frC ⟨f.pr, askV f, 0, f.st⟩).toArray)) [] := by
  refine zba (N := 11) 0 (by kernel_rfl) Tryz.func19 rfl rfl rfl (by simp only [fr0, Nat.zero_add, Nat.reduceAdd]; exact rfl) rfl fun s0 hs0 => ?_
  refine zaf ?_
  refine zaj 2 (by simp only [holes, List.cons_append, List.nil_append]; exact rfl) ?_
  refine zac ?_
  refine zam rfl rfl rfl (op_boxa 0 rfl (ev1 rfl) rfl) (by simp only [upd, za, zaa]; exact rfl) ?_
  refine zam rfl rfl rfl (zaq 1 rfl zr29 rfl) (by simp only [upd, za, zaa]; exact rfl) ?_
  refine zae ?_
  refine zaf ?_
  refine dwp_draw [([0], []), ([], []), ([], []), ([0], []), ([], []), ([0], [0]), ([], []), ([0], [0]), ([], []), ([0], [0])] mixed (by kernel_rfl) ?_
  refine lex_r rfl rfl (zas rfl tb29 (ev1 rfl) rfl (zao _)) ?_
  refine lex_r rfl rfl (zah [] [] [] rfl (ev1 rfl) (ec (ev1 rfl) en) rfl rfl (refAsk_d _) rfl rfl rfl rfl rfl rfl) ?_
  refine lex_r rfl rfl (zap rfl fo29_2 (ev1 rfl)) ?_
  refine lex_r rfl rfl (op_ldo rfl tb22 (ev1 rfl) rfl (frC_pr _)) ?_
  refine lex_r rfl rfl (zap rfl fo29_1 (ev1 rfl)) ?_
  refine lex_s rfl rfl (op_st (C := c9 (askV f)) rfl tb24 (ev1 rfl) (ev1 rfl) rfl rfl rfl rfl (by simp only [zao, c9_len]; omega) (frC_wbv _ _)) rfl (by simp only [upd, za, zaa]; exact rfl) ?_
  refine lex_r rfl rfl (zap rfl fo29_0 (ev1 rfl)) ?_
  refine lex_s rfl rfl (op_st1 rfl tb22 (ev1 rfl) (ev1 rfl) rfl (by simp only [zao]; omega) (frC_wfo _ f.pr)) rfl (by simp only [upd, za, zaa]; exact rfl) ?_
  refine lex_r rfl rfl (zap rfl fo29_2 (ev1 rfl)) ?_
  refine lex_s rfl rfl (op_st1 rfl tb22 (ev1 rfl) (ev1 rfl) rfl (by simp only [zao]; omega) (frC_wpr _)) rfl (by simp only [upd, za, zaa]; exact rfl) ?_
  refine lex_nil ?_
  refine zaf ?_
  refine zac ?_
  refine zab rfl rfl rfl (zas rfl tb29 (ev1 rfl) rfl (zao _)) ?_
  refine zax rfl rfl (op_stwa rfl tb29 (ev1 rfl) (ev1 rfl) rfl (zao _) (frC_oc _) rfl) (by simp only [upd, za, zaa]; exact rfl) ?_
  refine zae ?_
  refine zau ?_
  refine kend0 (rs1 rfl (rv_w tb29 rfl rfl (zao _))) rfl ?_
  rfl
theorem risTo_fin (f : FrM) : frC (risTo { f with pr := 0 } 9) = frC ⟨f.fo, f.bv, 0, fun i => risP f.fo (f.st i)⟩ := by
  unfold frC risTo stC
  rfl
set_option maxRecDepth 4000 in
set_option maxHeartbeats 1000000 in
theorem refRis_d (f : FrM) : DFun Tryz.prog 25 [.val (.agg (frC f).toArray)] [] (.val (.agg (frC ⟨f.fo, f.bv, 0, fun i => risP f.fo (f.st i)⟩).toArray)) [] := by
  refine zba (N := 22) 0 (by kernel_rfl) Tryz.func25 rfl rfl rfl (by simp only [fr0, Nat.zero_add, Nat.reduceAdd]; exact rfl) rfl fun s0 hs0 => ?_
  refine zaf ?_
  refine zaj 2 (by simp only [holes, List.cons_append, List.nil_append]; exact rfl) ?_
  refine zac ?_
  refine zam rfl rfl rfl (op_boxa 0 rfl (ev1 rfl) rfl) (by simp only [upd, za, zaa]; exact rfl) ?_
  refine zam rfl rfl rfl (zaq 1 rfl zr29 rfl) (by simp only [upd, za, zaa]; exact rfl) ?_
  refine zae ?_
  refine zaf ?_
  refine zac ?_
  refine zab rfl rfl rfl (zap rfl fo29_2 (ev1 rfl)) ?_
  refine zax rfl rfl (op_st1 rfl tb22 (ev1 rfl) (ev1 rfl) rfl (by simp only [zao]; omega) (frC_wpr _)) (by simp only [upd, za, zaa]; exact rfl) ?_
  refine zae ?_
  refine zaf ?_
  refine zaf ?_
  refine zac ?_
  refine zab rfl rfl rfl (zap rfl fo29_3 (ev1 rfl)) ?_
  refine zab rfl rfl rfl (op_ldr rfl tb27 (ev1 rfl) rfl (frC_st ({ f with pr := 0 } : FrM)) (by rw [sL_flat]; rfl)) ?_
  refine zab rfl rfl rfl (zad (.inl rfl) (ev1 rfl)) ?_
  refine zae ?_
  refine zat ?_
  refine dwp_loopS ⟨hs0, rfl⟩ (α := Nat) (fun k => [(8, .val (.int .i64 (k : Int)))]) [(1, _), (2, _), (7, _)] (fun k => [(0, .flat 29 (frC (risTo ({ f with pr := 0 } : FrM) k)))]) [.hole, _] (fun k => k ≤ 9) (fun k => 9 - k) 0 [0, 1] (by omega) rfl ⟨rfl, rfl, rfl, trivial⟩ ⟨rfl, trivial⟩ ⟨by rw [risTo_0]; rfl, rfl, trivial⟩ ?_
  intro k hx
  simp only [upd, za, zaa, List.cons_append, List.nil_append]
  have hk := hx
  refine zaf ?_
  refine zac ?_
  refine zab rfl rfl rfl (op_lss rfl (ev1 rfl) (ev1 rfl)) ?_
  refine zae ?_
  refine zaf ?_
  refine zaw rfl (fun c1 => ?_) (fun c1 => ?_)
  · try simp only [decide_eq_true_eq, decide_eq_false_iff_not, beq_iff_eq, bne_iff_ne, beq_eq_false_iff_ne, bne_eq_false_iff_eq, Bool.not_eq_true', Bool.not_eq_false', Bool.and_eq_true, Bool.or_eq_true, Bool.or_eq_false_iff, ne_eq, Decidable.not_not, Int.not_lt, Int.not_le] at c1
    refine zak ?_
    refine zaf ?_
    refine zat ?_
    refine zaf ?_
    refine zaj 1 (by simp only [holes, List.cons_append, List.nil_append]; exact rfl) ?_
    refine zac ?_
    refine zab rfl rfl rfl (zad (.inl rfl) (ev1 rfl)) ?_
    refine zab rfl rfl rfl ((by rw [← sL_at f.st k (by omega)]; exact op_ixv (j := k) (zP) rfl av27 (ev1 rfl) (ev1 rfl) (fun _ => rfl) (fun _ => by omega) (sL_len _) (fun _ => rfl) : DOp _ _ _ _ _ _ (.val (.agg (plC (f.st k)).toArray)) _)) ?_
    refine zam rfl rfl rfl (zaq 2 rfl zr26 rfl) (by simp only [upd, za, zaa]; exact rfl) ?_
    refine zab rfl rfl rfl (zad (.inr rfl) (ev1 rfl)) ?_
    refine zax rfl rfl (op_stwa rfl tb26 (ev1 rfl) (ev1 rfl) rfl rfl rfl rfl) (by simp only [upd, za, zaa]; exact rfl) ?_
    refine zae ?_
    refine zaf ?_
    refine zac ?_
    refine zab rfl rfl rfl (zap rfl fo26_0 (ev1 rfl)) ?_
    refine zab rfl rfl rfl (op_ldo rfl tb4 (ev1 rfl) rfl rfl) ?_
    refine zae ?_
    refine zaw rfl (fun c2 => ?_) (fun c2 => ?_)
    · have hin : (({ f with pr := 0 } : FrM).st k).inn = true := c2
      refine zac ?_
      refine zab rfl rfl rfl (zad (.inl rfl) (ev1 rfl)) ?_
      refine zab rfl rfl rfl (zap rfl fo29_0 (ev1 rfl)) ?_
      refine zab rfl rfl rfl (op_ldo rfl tb22 (ev1 rfl) rfl rfl) ?_
      refine zab rfl rfl rfl (op_build (ps := [(0, .const (.bool true)), (1, .tmp 16)]) rfl fl26 zr26 (vc (ev1 rfl) (vc (ev1 rfl) vn)) rfl rfl) ?_
      refine zab rfl rfl rfl (zap rfl fo29_3 (ev1 rfl)) ?_
      refine zab rfl rfl rfl (op_ixl rfl ar27 (ev1 rfl) (ev1 rfl) (fun _ => by omega)) ?_
      refine zax rfl rfl (op_st (C := plC ⟨true, f.fo, 0, z9⟩) rfl tb26 (ev1 rfl) (ev1 rfl) rfl rfl rfl rfl (by simp only [zao, plC_len]; omega) (frC_swp (j := k) (by omega) (by omega))) (by simp only [upd, za, zaa]; exact rfl) ?_
      refine zae ?_
      refine zac ?_
      refine zab rfl rfl rfl (op_add' rfl (ev1 rfl) (ev1 rfl) (fun _ => IntWalk.i64_in _ (by omega))) ?_
      refine zab rfl rfl rfl (zad (.inl rfl) (ev1 rfl)) ?_
      refine zae ?_
      refine ⟨k + 1, [0, 1], by omega, by simp only []; omega, rfl, ⟨rfl, rfl, rfl, rfl, trivial⟩, ⟨by rw [← risTo_yes ({ f with pr := 0 } : FrM) hin]; rfl, rfl, trivial⟩⟩
    · have hin : ¬ (({ f with pr := 0 } : FrM).st k).inn = true := by rw [show (({ f with pr := 0 } : FrM).st k).inn = false from c2]; decide
      refine zak ?_
      refine zac ?_
      refine zab rfl rfl rfl (op_add' rfl (ev1 rfl) (ev1 rfl) (fun _ => IntWalk.i64_in _ (by omega))) ?_
      refine zab rfl rfl rfl (zad (.inl rfl) (ev1 rfl)) ?_
      refine zae ?_
      refine ⟨k + 1, [0, 1], by omega, by simp only []; omega, rfl, ⟨rfl, rfl, rfl, rfl, trivial⟩, ⟨by rw [← risTo_no ({ f with pr := 0 } : FrM) hin]; rfl, rfl, trivial⟩⟩
  · try simp only [decide_eq_true_eq, decide_eq_false_iff_not, beq_iff_eq, bne_iff_ne, beq_eq_false_iff_ne, bne_eq_false_iff_eq, Bool.not_eq_true', Bool.not_eq_false', Bool.and_eq_true, Bool.or_eq_true, Bool.or_eq_false_iff, ne_eq, Decidable.not_not, Int.not_lt, Int.not_le] at c1
    refine dwp_exit ?_
    refine zaf ?_
    refine zac ?_
    refine zab rfl rfl rfl (zas rfl tb29 (ev1 rfl) rfl (zao _)) ?_
    refine zax rfl rfl (op_stwa rfl tb29 (ev1 rfl) (ev1 rfl) rfl (zao _) (frC_oc _) rfl) (by simp only [upd, za, zaa]; exact rfl) ?_
    refine zae ?_
    refine zau ?_
    refine kend0 (rs1 rfl (rv_w tb29 rfl rfl (zao _))) rfl ?_
    rw [show k = 9 by omega, risTo_fin]
end Go.Proofs.YtnjnhghafjlmbaaGreat
namespace Go.Proofs.YtnjnhghafjlmbaaGreat
set_option linter.unusedVariables false
set_option linter.unusedSimpArgs false
open Go.RowKit
theorem un4 : Tryz.prog.underlying 4 = some .bool := by kernel_rfl
end Go.Proofs.YtnjnhghafjlmbaaGreat
namespace Go.Proofs.YtnjnhghafjlmbaaGreat
set_option linter.unusedVariables false
set_option linter.unusedSimpArgs false
open Go.RowKit
open Go.ChangeShapes Go.WideShapes Go.ChangeAt Go.Joins Go.Deep
theorem fits_i64 : ∀ cs, fitsP [.int .i64] cs → ∃ a : Int, (-9223372036854775808 ≤ a ∧ a ≤ 9223372036854775807) ∧ cs = inI a
  | [c0], h => by
    obtain ⟨h0, _⟩ := h
    obtain ⟨a, w, rfl⟩ := fits_prim_i64 h0
    exact ⟨a, w, rfl⟩
  | [], h => by cases h
  | _ :: _ :: _, h => by obtain ⟨_, h⟩ := h; cases h
end Go.Proofs.YtnjnhghafjlmbaaGreat
namespace Go.Proofs.YtnjnhghafjlmbaaGreat
set_option linter.unusedVariables false
set_option linter.unusedSimpArgs false
open Go.RowKit
def ixI (s : Int) : List Int → Int → Int
  | [], _ => -1
  | a :: l, k => if s = a then k else ixI s l (k + 1)
theorem ixI_drop {s : Int} {l : List Int} {k : Nat} (h : k < l.length) : ixI s (l.drop k) (k : Int) = if s = l[k] then (k : Int) else ixI s (l.drop (k + 1)) ((k + 1 : Nat) : Int) := by
  rw [List.drop_eq_getElem_cons h, ixI]
  rfl
theorem ixI_in (s : Int) : ∀ (l : List Int) (k : Int), 0 ≤ k → (0 ≤ ixI s l k ↔ s ∈ l)
  | [], k, h => by simp [ixI]
  | a :: l, k, h => by
    unfold ixI
    by_cases e : s = a
    · rw [if_pos e]; simp [e, h]
    · rw [if_neg e, ixI_in s l (k + 1) (by omega)]; simp [e]
theorem in_sitL {f : FrM} (hf : frB f = true) (s : Int) : decide (s ∈ sitL f) = inS f s := by
  rw [Bool.eq_iff_iff, decide_eq_true_eq]
  unfold sitL inS
  rw [List.mem_map]
  constructor
  · rintro ⟨i, hi, rfl⟩
    have h := List.mem_filter.1 hi
    have h9 := List.mem_range.1 h.1
    have hs := siB_in (frB_at hf h9) (by simpa using h.2)
    rw [Bool.and_eq_true]
    refine ⟨isS_iff.2 ⟨by omega, by omega⟩, by simpa using h.2⟩
  · intro h
    rw [Bool.and_eq_true] at h
    have hs := isS_iff.1 h.1
    exact ⟨s.toNat, List.mem_filter.2 ⟨List.mem_range.2 (by omega), by simpa using h.2⟩, by omega⟩
set_option maxRecDepth 4000 in
set_option maxHeartbeats 1000000 in
theorem indexI (l : List Int) (s : Int) : DFun Tryz.prog 58 [.slf 1 (l).length ((l).flatMap inI), .val (.int .i64 s)] [] (.val (.int .i64 (ixI s l 0))) [] := by
  refine zba (N := 19) 0 (by kernel_rfl) Tryz.func58 rfl rfl rfl (by simp only [fr0, Nat.zero_add, Nat.reduceAdd]; exact rfl) rfl fun s0 hs0 => ?_
  refine dwp_len (t := 0) rfl fun hl0 hL0 => ?_
  refine zaf ?_
  refine zac ?_
  refine zab rfl rfl rfl (zad (.inr rfl) (ev1 rfl)) ?_
  refine zae ?_
  refine zaf ?_
  refine zaf ?_
  refine zac ?_
  refine zab rfl rfl rfl (zad (.inl rfl) (ev1 rfl)) ?_
  refine zab rfl rfl rfl (op_len rfl sl31 (ev1 rfl)) ?_
  refine zab rfl rfl rfl (zad (.inl rfl) (ev1 rfl)) ?_
  refine zae ?_
  refine zat ?_
  refine dwp_loopS ⟨hs0, rfl⟩ (α := Nat) (fun k => [(8, .val (.int .i64 (k : Int)))]) [(0, _), (1, _), (7, _)] (fun k => []) [] (fun k => k ≤ l.length ∧ ixI s l 0 = ixI s (l.drop k) (k : Int)) (fun k => l.length - k) 0 [] (⟨by omega, rfl⟩) rfl ⟨rfl, rfl, rfl, trivial⟩ ⟨rfl, trivial⟩ trivial ?_
  intro k hx
  simp only [upd, za, zaa, List.cons_append, List.nil_append]
  obtain ⟨hk, he⟩ := hx
  refine zaf ?_
  refine zac ?_
  refine zab rfl rfl rfl (op_lss rfl (ev1 rfl) (ev1 rfl)) ?_
  refine zae ?_
  refine zaf ?_
  refine zaw rfl (fun c1 => ?_) (fun c1 => ?_)
  · try simp only [decide_eq_true_eq, decide_eq_false_iff_not, beq_iff_eq, bne_iff_ne, beq_eq_false_iff_ne, bne_eq_false_iff_eq, Bool.not_eq_true', Bool.not_eq_false', Bool.and_eq_true, Bool.or_eq_true, Bool.or_eq_false_iff, ne_eq, Decidable.not_not, Int.not_lt, Int.not_le] at c1
    refine zak ?_
    refine zaf ?_
    refine zat ?_
    refine zaf ?_
    refine zac ?_
    refine zab rfl rfl rfl (zad (.inl rfl) (ev1 rfl)) ?_
    refine zab rfl rfl rfl (zad (.inr rfl) (ev1 rfl)) ?_
    refine zae ?_
    refine zaf ?_
    refine zac ?_
    refine zab rfl rfl rfl (zad (.inl rfl) (ev1 rfl)) ?_
    refine zab rfl rfl rfl (zad (.inl rfl) (ev1 rfl)) ?_
    refine zab rfl rfl rfl (zad (.inl rfl) (ev1 rfl)) ?_
    refine zab rfl rfl rfl (op_ixsr (j := k) rfl sl31 (ev1 rfl) (ev1 rfl) (fun _ => rfl) (by decide) (by omega) (by omega)) ?_
    refine zab rfl rfl rfl (op_ldod rfl tb3 (ev1 rfl) rfl) ?_
    refine zab rfl rfl rfl (zb rfl (ev1 rfl) (ev1 rfl)) ?_
    refine zae ?_
    refine zaw rfl (fun c2 => ?_) (fun c2 => ?_)
    · try simp only [decide_eq_true_eq, decide_eq_false_iff_not, beq_iff_eq, bne_iff_ne, beq_eq_false_iff_ne, bne_eq_false_iff_eq, Bool.not_eq_true', Bool.not_eq_false', Bool.and_eq_true, Bool.or_eq_true, Bool.or_eq_false_iff, ne_eq, Decidable.not_not, Int.not_lt, Int.not_le] at c2
      refine zaf ?_
      refine zac ?_
      refine zab rfl rfl rfl (zad (.inl rfl) (ev1 rfl)) ?_
      refine zab rfl rfl rfl (zad (.inr rfl) (ev1 rfl)) ?_
      refine zae ?_
      refine zau ?_
      refine kend0 (rs1 rfl (rv_t rfl)) rfl ?_
      rw [he, ixI_drop (by omega), if_pos c2]
    · try simp only [decide_eq_true_eq, decide_eq_false_iff_not, beq_iff_eq, bne_iff_ne, beq_eq_false_iff_ne, bne_eq_false_iff_eq, Bool.not_eq_true', Bool.not_eq_false', Bool.and_eq_true, Bool.or_eq_true, Bool.or_eq_false_iff, ne_eq, Decidable.not_not, Int.not_lt, Int.not_le] at c2
      refine zak ?_
      refine zac ?_
      refine zab rfl rfl rfl (op_add' rfl (ev1 rfl) (ev1 rfl) (fun _ => IntWalk.i64_in _ (by omega))) ?_
      refine zab rfl rfl rfl (zad (.inl rfl) (ev1 rfl)) ?_
      refine zae ?_
      refine ⟨k + 1, [], ⟨by omega, by rw [he, ixI_drop (by omega), if_neg c2]⟩, by simp only []; omega, rfl, ⟨rfl, rfl, rfl, rfl, trivial⟩, trivial⟩
  · try simp only [decide_eq_true_eq, decide_eq_false_iff_not, beq_iff_eq, bne_iff_ne, beq_eq_false_iff_ne, bne_eq_false_iff_eq, Bool.not_eq_true', Bool.not_eq_false', Bool.and_eq_true, Bool.or_eq_true, Bool.or_eq_false_iff, ne_eq, Decidable.not_not, Int.not_lt, Int.not_le] at c1
    refine dwp_exit ?_
    refine zaf ?_
    refine zac ?_
    refine zab rfl rfl rfl (zad (.inr rfl) (ev1 rfl)) ?_
    refine zae ?_
    refine zau ?_
    refine kend0 (rs1 rfl (rv_t rfl)) rfl ?_
    rw [he, List.drop_of_length_le (by omega)]; rfl
set_option maxRecDepth 4000 in
set_option maxHeartbeats 1000000 in
theorem contI (l : List Int) (s : Int) : DFun Tryz.prog 23 [.slf 1 (l).length ((l).flatMap inI), .val (.int .i64 s)] [] (.val (.bool (decide (s ∈ l)))) [] := by
  refine zba (N := 9) 0 (by kernel_rfl) Tryz.func23 rfl rfl rfl (by simp only [fr0, Nat.zero_add, Nat.reduceAdd]; exact rfl) rfl fun s0 hs0 => ?_
  refine dwp_len (t := 0) rfl fun hl0 hL0 => ?_
  refine zaf ?_
  refine zac ?_
  refine zab rfl rfl rfl (zad (.inr rfl) (ev1 rfl)) ?_
  refine zae ?_
  refine zaf ?_
  refine zac ?_
  refine zab rfl rfl rfl (zad (.inl rfl) (ev1 rfl)) ?_
  refine zab rfl rfl rfl (zad (.inl rfl) (ev1 rfl)) ?_
  refine zab rfl rfl rfl (zah [] [] [] rfl (ev1 rfl) (ec (ev1 rfl) (ec (ev1 rfl) en)) rfl rfl (indexI _ _) rfl rfl rfl rfl rfl rfl) ?_
  refine zab rfl rfl rfl (op_geq rfl (ev1 rfl) (ev1 rfl)) ?_
  refine zab rfl rfl rfl (zad (.inr rfl) (ev1 rfl)) ?_
  refine zae ?_
  refine zau ?_
  refine kend0 (rs1 rfl (rv_t rfl)) rfl ?_
  rw [D.val.injEq, Value.bool.injEq, Bool.eq_iff_iff]
  simp [ixI_in s l 0 (by omega)]
set_option maxRecDepth 4000 in
set_option maxHeartbeats 1000000 in
theorem cloneI (l : List Int) (h : l.length ≤ 5000) : DFun Tryz.prog 22 [.slf 1 (l).length ((l).flatMap inI)] [] (.arr 0) [.arr 3 1 l.length (l.flatMap inI)] := by
  refine zba (N := 8) 0 (by kernel_rfl) Tryz.func22 rfl rfl rfl (by simp only [fr0, Nat.zero_add, Nat.reduceAdd]; exact rfl) rfl fun s0 hs0 => ?_
  refine dwp_len (t := 0) rfl fun hl0 hL0 => ?_
  refine zaf ?_
  refine zac ?_
  refine zab rfl rfl rfl (zad (.inr rfl) (ev1 rfl)) ?_
  refine zae ?_
  refine zaf ?_
  refine zaf ?_
  refine zac ?_
  refine zab rfl rfl rfl (zad (.inl rfl) (ev1 rfl)) ?_
  refine walk_nil? rfl rfl rfl rfl sl31 (ev1 rfl) fun nb4 hnb4 => ?_
  refine zae ?_
  refine zaw rfl (fun c1 => ?_) (fun c1 => ?_)
  · try simp only [decide_eq_true_eq, decide_eq_false_iff_not, beq_iff_eq, bne_iff_ne, beq_eq_false_iff_ne, bne_eq_false_iff_eq, Bool.not_eq_true', Bool.not_eq_false', Bool.and_eq_true, Bool.or_eq_true, Bool.or_eq_false_iff, ne_eq, Decidable.not_not, Int.not_lt, Int.not_le] at c1
    refine zaf ?_
    refine zac ?_
    refine zab rfl rfl rfl (zad (.inr rfl) (ev1 rfl)) ?_
    refine zae ?_
    refine dwp_adopt 2 3 1 rfl rfl rfl ?_
    refine zau ?_
    refine kend [0] (rs1 rfl (rv_t rfl)) rfl rfl ?_ ⟨?_, trivial⟩
    rfl
    exact (by obtain ⟨h1, h2⟩ := hnb4 c1; simp_all [MFits, vwB])
  · try simp only [decide_eq_true_eq, decide_eq_false_iff_not, beq_iff_eq, bne_iff_ne, beq_eq_false_iff_ne, bne_eq_false_iff_eq, Bool.not_eq_true', Bool.not_eq_false', Bool.and_eq_true, Bool.or_eq_true, Bool.or_eq_false_iff, ne_eq, Decidable.not_not, Int.not_lt, Int.not_le] at c1
    refine zak ?_
    refine zaf ?_
    refine zaj 2 (by simp only [holes, List.cons_append, List.nil_append]; exact rfl) ?_
    refine zac ?_
    refine zam rfl rfl rfl (op_bsa (ps := []) 0 rfl sl31 zr3 rfl vn rfl (by decide) (by decide) rfl) (by simp only [upd, za, zaa]; exact rfl) ?_
    refine zab rfl rfl rfl (zad (.inl rfl) (ev1 rfl)) ?_
    refine zam rfl rfl rfl (op_app (j := 1) rfl sl31 zr3 rfl (ev1 rfl) (ev1 rfl) src_slf rfl rfl (fun _ => flat_oc (fun _ => rfl) l) (fun _ => ⟨by omega, by omega⟩)) (by simp only [upd, za, zaa]; exact rfl) ?_
    refine zab rfl rfl rfl (zad (.inr rfl) (ev1 rfl)) ?_
    refine zae ?_
    refine zau ?_
    refine kend [1] (rs1 rfl (rv_t rfl)) rfl rfl ?_ ⟨?_, trivial⟩
    rfl
    simp [vwB]
end Go.Proofs.YtnjnhghafjlmbaaGreat
namespace Go.Proofs.YtnjnhghafjlmbaaGreat
set_option linter.unusedVariables false
set_option linter.unusedSimpArgs false
open Go.RowKit
theorem waiF_set {f : FrM} {v : Vec} (hf : frB f = true) (hv : vB v = true) (hp : 0 < f.pr) : waiF f v = waitL f v := by
  unfold waiF; rw [hf, hv, decide_eq_true hp]; rfl
theorem waiF_pr {f : FrM} {v : Vec} (hp : ¬ 0 < f.pr) : waiF f v = [] := by
  unfold waiF; rw [decide_eq_false hp, Bool.and_false, if_neg (by decide)]
theorem waiF_v {f : FrM} {v : Vec} (hv : vB v = false) : waiF f v = [] := by
  unfold waiF; rw [hv, Bool.and_false, Bool.false_and, if_neg (by decide)]
theorem waiF_f {f : FrM} {v : Vec} (hf : frB f = false) : waiF f v = [] := by
  unfold waiF; rw [hf, Bool.false_and, Bool.false_and, if_neg (by decide)]
theorem rdyF_v {f : FrM} {v : Vec} (hv : vB v = false) : rdyF f v = (z9, false) := by
  unfold rdyF; rw [hv, Bool.and_false, Bool.false_and, if_neg (by decide)]
theorem rdyF_f {f : FrM} {v : Vec} (hf : frB f = false) : rdyF f v = (z9, false) := by
  unfold rdyF; rw [hf, Bool.false_and, Bool.false_and, if_neg (by decide)]
theorem folF_f {f : FrM} {v : Vec} (hf : frB f = false) : folF f v = (zF, 280) := by unfold folF; rw [hf]; rfl
theorem folF_v {f : FrM} {v : Vec} (hf : frB f = true) (hv : vB v = false) : folF f v = (zF, 2) := by unfold folF; rw [hf, hv]; rfl
theorem folF_n {f : FrM} {v : Vec} (hf : frB f = true) (hv : vB v = true) (hr : readyB f v = false) : folF f v = (zF, 4) := by unfold folF; rw [hf, hv, hr]; rfl
theorem folF_y {f : FrM} {v : Vec} (hf : frB f = true) (hv : vB v = true) (hr : readyB f v = true) : folF f v = (⟨f.pr, askV f, 0, f.st⟩, 0) := by unfold folF; rw [hf, hv, hr]; rfl
theorem readyB_pr {f : FrM} {v : Vec} (h : readyB f v = true) : 0 < f.pr := by
  unfold readyB at h
  rw [Bool.and_eq_true] at h
  exact of_decide_eq_true h.1
theorem take_filt {l : List Int} {p : Int → Bool} {k : Nat} (h : k < l.length) : (l.take (k + 1)).filter p = (l.take k).filter p ++ (if p l[k] = true then [l[k]] else []) := by
  rw [List.take_succ_eq_append_getElem h, List.filter_append]
  cases hp : p l[k]
  · rw [List.filter_cons_of_neg (by rw [hp]; decide)]; simp
  · rw [List.filter_cons_of_pos hp]; simp
set_option maxRecDepth 4000 in
set_option maxHeartbeats 1000000 in
theorem may_no (f : FrM) (vs : List Vec) (s : List Int) (hf : frB f = false) : DFun Tryz.prog 3 [.val (.agg (frC f).toArray), .slf 9 (vs).length ((vs).flatMap c9), .slf 1 (s).length ((s).flatMap inI)] [] (.val (.bool true)) [] := by
  refine zba (N := 197) 0 (by kernel_rfl) Tryz.func3 rfl rfl rfl (by simp only [fr0, Nat.zero_add, Nat.reduceAdd]; exact rfl) rfl fun s0 hs0 => ?_
  refine dwp_len (t := 1) rfl fun hl1 hL1 => ?_
  refine dwp_len (t := 2) rfl fun hl2 hL2 => ?_
  refine zaf ?_
  refine zaj 1 (by simp only [holes, List.cons_append, List.nil_append]; exact rfl) ?_
  refine zac ?_
  refine zam rfl rfl rfl (op_boxa 0 rfl (ev1 rfl) rfl) (by simp only [upd, za, zaa]; exact rfl) ?_
  refine zab rfl rfl rfl (zad (.inr rfl) (ev1 rfl)) ?_
  refine zae ?_
  refine zaf ?_
  refine zaf ?_
  refine zac ?_
  refine zab rfl rfl rfl (zah [] [] [] rfl (ev1 rfl) en rfl rfl (wakes_d) rfl rfl rfl rfl rfl rfl) ?_
  refine zab rfl rfl rfl ((op_not rfl (ev1 rfl)).cast (d' := .val (.bool false)) (by kernel_rfl)) ?_
  refine zae ?_
  refine dwp_if_f rfl (rfl) ?_
  refine zak ?_
  refine zaf ?_
  refine zac ?_
  refine zab rfl rfl rfl (zas rfl tb29 (ev1 rfl) rfl (zao _)) ?_
  refine zab rfl rfl rfl ((zah [] [] [] rfl (ev1 rfl) (ec (ev1 rfl) en) rfl rfl (refFr_d f) rfl rfl rfl rfl rfl rfl).cast (d' := .val (.bool false)) (by rw [hf])) ?_
  refine zab rfl rfl rfl (zad (.inr rfl) (ev1 rfl)) ?_
  refine zae ?_
  refine zaf ?_
  refine zaf ?_
  refine zac ?_
  refine zab rfl rfl rfl (zas rfl tb29 (ev1 rfl) rfl (zao _)) ?_
  refine zab rfl rfl rfl (zah [] [] [] rfl (ev1 rfl) (ec (ev1 rfl) en) rfl rfl (fCheck_d _) rfl rfl rfl rfl rfl rfl) ?_
  refine zab rfl rfl rfl (zad (.inr rfl) (ev1 rfl)) ?_
  refine zae ?_
  refine zaf ?_
  refine zac ?_
  refine zab rfl rfl rfl (zad (.inl rfl) (ev1 rfl)) ?_
  refine zab rfl rfl rfl (zb rfl (ev1 rfl) (ev1 rfl)) ?_
  refine zab rfl rfl rfl (zad (.inl rfl) (ev1 rfl)) ?_
  refine zab rfl rfl rfl (op_neb rfl un4 (ev1 rfl) (ev1 rfl)) ?_
  refine zab rfl rfl rfl (zad (.inl rfl) (ev1 rfl)) ?_
  refine zag (zan rfl rfl rfl) rfl rfl rfl (zad (.inl rfl) (ev1 rfl)) ?_
  refine zag (zan rfl rfl rfl) rfl rfl rfl (op_neq rfl (ev2 rfl) (ev1 rfl)) ?_
  refine zag (zan rfl rfl rfl) rfl rfl rfl (zad (.inl rfl) (ev2 rfl)) ?_
  refine zag (zay rfl rfl rfl) rfl rfl rfl (zad (.inl rfl) (ev1 rfl)) ?_
  refine zag (zay rfl rfl rfl) rfl rfl rfl (op_neq rfl (ev2 rfl) (ev1 rfl)) ?_
  refine zag (zan rfl rfl rfl) rfl rfl rfl (zaz rfl (ev2 rfl) (ev2 rfl)) ?_
  refine zab rfl rfl rfl (op_or rfl (ev1 rfl) (ev3 rfl id)) ?_
  refine zab rfl rfl rfl (zad (.inl rfl) (ev1 rfl)) ?_
  refine zag (zan rfl rfl rfl) rfl rfl rfl (zah [] [] [] rfl (ev1 rfl) en rfl rfl (fnew_d) rfl rfl rfl rfl rfl rfl) ?_
  refine zag (zan rfl rfl rfl) rfl rfl rfl (op_build0 rfl fl29 zr29) ?_
  refine zag (zan rfl rfl rfl) rfl rfl rfl (op_ner eq29 rfl gd29 tb29 (ev2 rfl) (ev2 rfl)) ?_
  refine zab rfl rfl rfl (op_or rfl (ev1 rfl) (ev3 rfl id)) ?_
  refine zae ?_
  refine dwp_if_f rfl ((by rw [hf, eqF_refl]; rfl)) ?_
  refine zak ?_
  refine zaf ?_
  refine zaf ?_
  refine zac ?_
  refine zab rfl rfl rfl (zad (.inl rfl) (ev1 rfl)) ?_
  refine zab rfl rfl rfl (op_len rfl sl30 (ev1 rfl)) ?_
  refine zab rfl rfl rfl (zad (.inl rfl) (ev1 rfl)) ?_
  refine zae ?_
  refine zat ?_
  refine dwp_loopS ⟨hs0, rfl⟩ (α := Nat) (fun k => [(55, .val (.int .i64 (k : Int)))]) [(2, _), (3, _), (7, _), (53, _), (54, _)] (fun k => []) [_] (fun k => k ≤ vs.length ∧ k ≤ 5) (fun k => vs.length - k) 0 [0] (by simp) rfl ⟨rfl, rfl, rfl, rfl, rfl, trivial⟩ ⟨rfl, trivial⟩ ⟨rfl, trivial⟩ ?_
  intro k hx
  simp only [upd, za, zaa, List.cons_append, List.nil_append]
  obtain ⟨hk, hk5⟩ := hx
  refine zaf ?_
  refine zac ?_
  refine zab rfl rfl rfl (op_lss rfl (ev1 rfl) (ev1 rfl)) ?_
  refine zae ?_
  refine zaf ?_
  refine zaw rfl (fun c3 => ?_) (fun c3 => ?_)
  · try simp only [decide_eq_true_eq, decide_eq_false_iff_not, beq_iff_eq, bne_iff_ne, beq_eq_false_iff_ne, bne_eq_false_iff_eq, Bool.not_eq_true', Bool.not_eq_false', Bool.and_eq_true, Bool.or_eq_true, Bool.or_eq_false_iff, ne_eq, Decidable.not_not, Int.not_lt, Int.not_le] at c3
    refine zak ?_
    refine zaf ?_
    refine zat ?_
    refine zaf ?_
    refine zaj 1 (by simp only [holes, List.cons_append, List.nil_append]; exact rfl) ?_
    refine zac ?_
    refine zab rfl rfl rfl (zad (.inl rfl) (ev1 rfl)) ?_
    refine zab rfl rfl rfl (op_ixsr (j := k) rfl sl30 (ev1 rfl) (ev1 rfl) (fun _ => rfl) (by decide) (by omega) (by omega)) ?_
    refine zab rfl rfl rfl (op_ldwd rfl tb24 (ev1 rfl) rfl) ?_
    refine zam rfl rfl rfl (zaq 1 rfl zr24 rfl) (by simp only [upd, za, zaa]; exact rfl) ?_
    refine zab rfl rfl rfl (zad (.inr rfl) (ev1 rfl)) ?_
    refine zax rfl rfl (op_stwa rfl tb24 (ev1 rfl) (ev1 rfl) rfl rfl rfl rfl) (by simp only [upd, za, zaa]; exact rfl) ?_
    refine zae ?_
    refine zaf ?_
    refine zaf ?_
    refine zac ?_
    refine zab rfl rfl rfl (zad (.inl rfl) (ev1 rfl)) ?_
    refine zab rfl rfl rfl (zb rfl (ev1 rfl) (ev1 rfl)) ?_
    refine zae ?_
    refine zaw rfl (fun c4 => ?_) (fun c4 => ?_)
    · try simp only [decide_eq_true_eq, decide_eq_false_iff_not, beq_iff_eq, bne_iff_ne, beq_eq_false_iff_ne, bne_eq_false_iff_eq, Bool.not_eq_true', Bool.not_eq_false', Bool.and_eq_true, Bool.or_eq_true, Bool.or_eq_false_iff, ne_eq, Decidable.not_not, Int.not_lt, Int.not_le] at c4
      refine dwp_exit ?_
      refine zaf ?_
      refine zac ?_
      refine zab rfl rfl rfl (zad (.inr rfl) (ev1 rfl)) ?_
      refine zab rfl rfl rfl (zad (.inr rfl) (ev1 rfl)) ?_
      refine zae ?_
      refine zaf ?_
      refine zaf ?_
      refine zac ?_
      refine zab rfl rfl rfl (zad (.inr rfl) (ev1 rfl)) ?_
      refine zae ?_
      refine zat ?_
      refine dwp_loopS ⟨hs0, rfl⟩ (α := Nat) (fun k => [(23, .val (.int .i64 (k : Int)))]) [(2, _), (3, _), (7, _), (21, _), (22, _)] (fun k => []) [_, _] (fun k => 1 ≤ k ∧ k ≤ 9) (fun k => 9 - k) 1 [0, 1] (by simp) rfl ⟨rfl, rfl, rfl, rfl, rfl, trivial⟩ ⟨rfl, trivial⟩ ⟨rfl, rfl, trivial⟩ ?_
      intro k hx
      simp only [upd, za, zaa, List.cons_append, List.nil_append]
      obtain ⟨hk1, hk⟩ := hx
      refine zaf ?_
      refine zaf ?_
      refine zac ?_
      refine zab rfl rfl rfl (zad (.inl rfl) (ev1 rfl)) ?_
      refine zab rfl rfl rfl (op_leq rfl (ev1 rfl) (ev1 rfl)) ?_
      refine zae ?_
      refine zaw rfl (fun c5 => ?_) (fun c5 => ?_)
      · try simp only [decide_eq_true_eq, decide_eq_false_iff_not, beq_iff_eq, bne_iff_ne, beq_eq_false_iff_ne, bne_eq_false_iff_eq, Bool.not_eq_true', Bool.not_eq_false', Bool.and_eq_true, Bool.or_eq_true, Bool.or_eq_false_iff, ne_eq, Decidable.not_not, Int.not_lt, Int.not_le] at c5
        refine zak ?_
        refine zaf ?_
        refine zat ?_
        refine zaf ?_
        refine zac ?_
        refine zab rfl rfl rfl (zad (.inl rfl) (ev1 rfl)) ?_
        refine zab rfl rfl rfl (zad (.inl rfl) (ev1 rfl)) ?_
        refine zag (zar (b := false) rfl rfl rfl) rfl rfl rfl (zal (d := .junk)) ?_
        refine zag (zar (b := false) rfl rfl rfl) rfl rfl rfl (zal (d := .junk)) ?_
        refine zag (zar (b := false) rfl rfl rfl) rfl rfl rfl (zal (d := .junk)) ?_
        refine zag (zar (b := false) rfl rfl rfl) rfl rfl rfl (zal (d := .junk)) ?_
        refine zag (zar (b := false) rfl rfl rfl) rfl rfl rfl (zal (d := .val (.bool false))) ?_
        refine zab rfl rfl rfl ((zaz rfl (ev1 rfl) (ev3 rfl id)).cast (d' := .val (.bool false)) (by rfl)) ?_
        refine zae ?_
        refine dwp_if_f rfl (rfl) ?_
        refine zak ?_
        refine zac ?_
        refine zab rfl rfl rfl (zad (.inl rfl) (ev1 rfl)) ?_
        refine zab rfl rfl rfl (op_add' rfl (ev1 rfl) (ev1 rfl) (fun _ => IntWalk.i64_in _ (by omega))) ?_
        refine zab rfl rfl rfl (zad (.inr rfl) (ev1 rfl)) ?_
        refine zae ?_
        refine ⟨k + 1, [0, 1], ⟨by omega, by omega⟩, by simp only []; omega, rfl, ⟨rfl, rfl, rfl, rfl, rfl, rfl, trivial⟩, ⟨rfl, rfl, trivial⟩⟩
      · try simp only [decide_eq_true_eq, decide_eq_false_iff_not, beq_iff_eq, bne_iff_ne, beq_eq_false_iff_ne, bne_eq_false_iff_eq, Bool.not_eq_true', Bool.not_eq_false', Bool.and_eq_true, Bool.or_eq_true, Bool.or_eq_false_iff, ne_eq, Decidable.not_not, Int.not_lt, Int.not_le] at c5
        refine dwp_exit ?_
        refine zaf ?_
        refine zaj 1 (by simp only [holes, List.cons_append, List.nil_append]; exact rfl) ?_
        refine zac ?_
        refine zab rfl rfl rfl (zad (.inl rfl) (ev1 rfl)) ?_
        refine zab rfl rfl rfl (zad (.inl rfl) (ev1 rfl)) ?_
        refine zab rfl rfl rfl (op_len rfl sl31 (ev1 rfl)) ?_
        refine zab rfl rfl rfl (op_min rfl (ev1 rfl) (ev1 rfl)) ?_
        refine zab rfl rfl rfl (op_sltk (j := min s.length 10) rfl sl31 (ev1 rfl) (bd_some (ev1 rfl)) (fun _ => by omega) (fun _ => by omega) (fun _ => rfl)) ?_
        refine zam rfl rfl rfl (zah [] [] [2] rfl (ev1 rfl) (ec (ev1 rfl) en) rfl rfl (cloneI _ (by rw [List.length_take]; omega)) rfl rfl rfl rfl rfl rfl) (by simp only [upd, za, zaa]; exact rfl) ?_
        refine zab rfl rfl rfl (zad (.inr rfl) (ev1 rfl)) ?_
        refine zae ?_
        refine zaf ?_
        refine zaf ?_
        obtain ⟨r, hr⟩ : ∃ r, r = s.take (min s.length 10) := ⟨_, rfl⟩
        have hrl : r.length ≤ 10 := by rw [hr, List.length_take]; omega
        rw [← hr]
        refine zac ?_
        refine zab rfl rfl rfl (zad (.inl rfl) (ev1 rfl)) ?_
        refine zab rfl rfl rfl (op_lena rfl sl31 (ev1 rfl) rfl) ?_
        refine zab rfl rfl rfl (zad (.inl rfl) (ev1 rfl)) ?_
        refine zae ?_
        refine zat ?_
        refine dwp_loopS ⟨hs0, rfl⟩ (α := Nat) (fun k => [(152, .val (.int .i64 (k : Int)))]) [(2, _), (3, _), (7, _), (21, _), (22, _), (150, _), (151, _)] (fun k => []) [_, _, _] (fun k => k ≤ r.length) (fun k => r.length - k) 0 [0, 1, 2] (by omega) rfl ⟨rfl, rfl, rfl, rfl, rfl, rfl, rfl, trivial⟩ ⟨rfl, trivial⟩ ⟨rfl, rfl, rfl, trivial⟩ ?_
        intro k hx
        simp only [upd, za, zaa, List.cons_append, List.nil_append]
        have hk := hx
        refine zaf ?_
        refine zac ?_
        refine zab rfl rfl rfl (op_lss rfl (ev1 rfl) (ev1 rfl)) ?_
        refine zae ?_
        refine zaf ?_
        refine zaw rfl (fun c7 => ?_) (fun c7 => ?_)
        · try simp only [decide_eq_true_eq, decide_eq_false_iff_not, beq_iff_eq, bne_iff_ne, beq_eq_false_iff_ne, bne_eq_false_iff_eq, Bool.not_eq_true', Bool.not_eq_false', Bool.and_eq_true, Bool.or_eq_true, Bool.or_eq_false_iff, ne_eq, Decidable.not_not, Int.not_lt, Int.not_le] at c7
          refine zak ?_
          refine zaf ?_
          refine zat ?_
          refine zaf ?_
          refine zac ?_
          refine zab rfl rfl rfl (op_ixar (j := k) rfl sl31 (ev1 rfl) (ev1 rfl) rfl (fun _ => by first | rfl | omega) (fun _ => by omega)) ?_
          refine zab rfl rfl rfl (op_lda1 rfl tb3 (ev1 rfl) rfl (fun _ => rfl) (by omega) rfl) ?_
          refine zab rfl rfl rfl (zad (.inr rfl) (ev1 rfl)) ?_
          refine zae ?_
          refine zaf ?_
          refine zac ?_
          refine zab rfl rfl rfl (zad (.inl rfl) (ev1 rfl)) ?_
          refine zab rfl rfl rfl (zad (.inl rfl) (ev1 rfl)) ?_
          refine zab rfl rfl rfl (zah [] [] [] rfl (ev1 rfl) (ec (evnil 1 (ev1 rfl)) (ec (ev1 rfl) en)) rfl rfl (contI [] _) rfl rfl rfl rfl rfl rfl) ?_
          refine zae ?_
          refine dwp_if_f rfl (by simp) ?_
          refine zak ?_
          refine zac ?_
          refine zab rfl rfl rfl (op_add' rfl (ev1 rfl) (ev1 rfl) (fun _ => IntWalk.i64_in _ (by omega))) ?_
          refine zab rfl rfl rfl (zad (.inl rfl) (ev1 rfl)) ?_
          refine zae ?_
          refine ⟨k + 1, [0, 1, 2], by omega, by simp only []; omega, rfl, ⟨rfl, rfl, rfl, rfl, rfl, rfl, rfl, rfl, trivial⟩, ⟨rfl, rfl, rfl, trivial⟩⟩
        · try simp only [decide_eq_true_eq, decide_eq_false_iff_not, beq_iff_eq, bne_iff_ne, beq_eq_false_iff_ne, bne_eq_false_iff_eq, Bool.not_eq_true', Bool.not_eq_false', Bool.and_eq_true, Bool.or_eq_true, Bool.or_eq_false_iff, ne_eq, Decidable.not_not, Int.not_lt, Int.not_le] at c7
          refine dwp_exit ?_
          refine zaf ?_
          refine zaf ?_
          refine zac ?_
          refine zab rfl rfl rfl (zad (.inl rfl) (ev1 rfl)) ?_
          refine zab rfl rfl rfl (op_lena rfl sl31 (ev1 rfl) rfl) ?_
          refine zab rfl rfl rfl (zb rfl (ev1 rfl) (ev1 rfl)) ?_
          refine zae ?_
          refine zaw rfl (fun c9 => ?_) (fun c9 => ?_)
          · try simp only [decide_eq_true_eq, decide_eq_false_iff_not, beq_iff_eq, bne_iff_ne, beq_eq_false_iff_ne, bne_eq_false_iff_eq, Bool.not_eq_true', Bool.not_eq_false', Bool.and_eq_true, Bool.or_eq_true, Bool.or_eq_false_iff, ne_eq, Decidable.not_not, Int.not_lt, Int.not_le] at c9
            refine zac ?_
            refine zab rfl rfl rfl (zad (.inl rfl) (ev1 rfl)) ?_
            refine zab rfl rfl rfl (zad (.inr rfl) (ev1 rfl)) ?_
            refine zae ?_
            refine zaf ?_
            refine zaj 1 (by simp only [holes, List.cons_append, List.nil_append]; exact rfl) ?_
            refine zac ?_
            refine zab rfl rfl rfl (zas rfl tb29 (ev1 rfl) rfl (zao _)) ?_
            refine zab rfl rfl rfl (zah [] [] [] rfl (ev1 rfl) (ec (ev1 rfl) en) rfl rfl (ris_no f hf) rfl rfl rfl rfl rfl rfl) ?_
            refine zab rfl rfl rfl (zad (.inl rfl) (ev1 rfl)) ?_
            refine zab rfl rfl rfl (op_ext rfl (ev1 rfl) rfl) ?_
            refine zab rfl rfl rfl (op_ext rfl (ev1 rfl) rfl) ?_
            refine zam rfl rfl rfl (zaq 3 rfl zr29 rfl) (by simp only [upd, za, zaa]; exact rfl) ?_
            refine zax rfl rfl (op_stwa rfl tb29 (ev1 rfl) (ev1 rfl) rfl (zao _) (frC_oc _) rfl) (by simp only [upd, za, zaa]; exact rfl) ?_
            refine zab rfl rfl rfl (zad (.inr rfl) (ev1 rfl)) ?_
            refine zae ?_
            refine zaf ?_
            refine zaj 1 (by simp only [holes, List.cons_append, List.nil_append]; exact rfl) ?_
            refine zac ?_
            refine zam rfl rfl rfl (zaq 4 rfl zr29 rfl) (by simp only [upd, za, zaa]; exact rfl) ?_
            refine zae ?_
            refine zaf ?_
            refine zac ?_
            refine zab rfl rfl rfl (zad (.inr rfl) (ev1 rfl)) ?_
            refine zae ?_
            refine zaf ?_
            refine zaf ?_
            refine zac ?_
            refine zab rfl rfl rfl (zad (.inl rfl) (ev1 rfl)) ?_
            refine zae ?_
            refine dwp_if_f rfl (rfl) ?_
            refine zak ?_
            refine zaf ?_
            refine dwp_giveA 2 rfl rfl (by simp only [za, zaa]; exact rfl) ?_
            refine zac ?_
            refine zab rfl rfl rfl (zas rfl tb29 (ev1 rfl) rfl (zao _)) ?_
            refine zab rfl rfl rfl (zas rfl tb29 (ev1 rfl) rfl (zao _)) ?_
            refine zab rfl rfl rfl (op_eqr eq29 rfl gd29 tb29 (ev1 rfl) (ev1 rfl)) ?_
            refine zab rfl rfl rfl (zad (.inl rfl) (ev1 rfl)) ?_
            refine zag (zar rfl rfl rfl) rfl rfl rfl (zad (.inl rfl) (ev1 rfl)) ?_
            refine zag (zar rfl rfl rfl) rfl rfl rfl (zad (.inl rfl) (ev1 rfl)) ?_
            refine zag (zar rfl rfl rfl) rfl rfl rfl (zb rfl (ev2 rfl) (ev2 rfl)) ?_
            refine zab rfl rfl rfl (zaz rfl (ev1 rfl) (ev3 rfl id)) ?_
            refine zab rfl rfl rfl (zad (.inl rfl) (ev1 rfl)) ?_
            refine zag (zar rfl rfl rfl) rfl rfl rfl (zas rfl tb29 (ev1 rfl) rfl (zao _)) ?_
            refine zag (zar rfl rfl rfl) rfl rfl rfl (zah [] [] [] rfl (ev1 rfl) (ec (ev2 rfl) (ec (evnil 1 (ev1 rfl)) en)) rfl rfl (sit_d f [] (by simp)) rfl rfl rfl rfl rfl rfl) ?_
            refine zag (zar rfl rfl rfl) rfl rfl rfl (zad (.inl rfl) (ev1 rfl)) ?_
            refine zag (zar rfl rfl rfl) rfl rfl rfl (zah [] [] [] rfl (ev1 rfl) (ec (ev2 rfl) (ec (evnil 1 (ev2 rfl)) en)) rfl rfl (equalI _ []) rfl rfl rfl rfl rfl rfl) ?_
            refine zab rfl rfl rfl (zaz rfl (ev1 rfl) (ev3 rfl id)) ?_
            refine zab rfl rfl rfl (zad (.inl rfl) (ev1 rfl)) ?_
            refine zag (zar rfl rfl rfl) rfl rfl rfl (zas rfl tb29 (ev1 rfl) rfl (zao _)) ?_
            refine zag (zar rfl rfl rfl) rfl rfl rfl (zad (.inl rfl) (ev1 rfl)) ?_
            refine zag (zar rfl rfl rfl) rfl rfl rfl (zah [] [] [] rfl (ev1 rfl) (ec (ev2 rfl) (ec (ev2 rfl) en)) rfl rfl (sit_d f _ (by omega)) rfl rfl rfl rfl rfl rfl) ?_
            refine zag (zar rfl rfl rfl) rfl rfl rfl (zad (.inl rfl) (ev1 rfl)) ?_
            refine zag (zar rfl rfl rfl) rfl rfl rfl (zah [] [] [] rfl (ev1 rfl) (ec (ev2 rfl) (ec (evnil 1 (ev2 rfl)) en)) rfl rfl (equalI _ []) rfl rfl rfl rfl rfl rfl) ?_
            refine zab rfl rfl rfl (zaz rfl (ev1 rfl) (ev3 rfl id)) ?_
            refine zab rfl rfl rfl (zad (.inr rfl) (ev1 rfl)) ?_
            refine zae ?_
            refine zau ?_
            refine kend0 (rs1 rfl (rv_t rfl)) rfl ?_
            unfold sitF
            rw [hf]
            simp [eqF_refl]
          · try simp only [decide_eq_true_eq, decide_eq_false_iff_not, beq_iff_eq, bne_iff_ne, beq_eq_false_iff_ne, bne_eq_false_iff_eq, Bool.not_eq_true', Bool.not_eq_false', Bool.and_eq_true, Bool.or_eq_true, Bool.or_eq_false_iff, ne_eq, Decidable.not_not, Int.not_lt, Int.not_le] at c9
            refine zak ?_
            refine zaf ?_
            refine zaj 1 (by simp only [holes, List.cons_append, List.nil_append]; exact rfl) ?_
            refine zac ?_
            refine zab rfl rfl rfl (zas rfl tb29 (ev1 rfl) rfl (zao _)) ?_
            refine zab rfl rfl rfl (zah [] [] [] rfl (ev1 rfl) (ec (ev1 rfl) en) rfl rfl (ris_no f hf) rfl rfl rfl rfl rfl rfl) ?_
            refine zab rfl rfl rfl (zad (.inl rfl) (ev1 rfl)) ?_
            refine zab rfl rfl rfl (op_ext rfl (ev1 rfl) rfl) ?_
            refine zab rfl rfl rfl (op_ext rfl (ev1 rfl) rfl) ?_
            refine zam rfl rfl rfl (zaq 3 rfl zr29 rfl) (by simp only [upd, za, zaa]; exact rfl) ?_
            refine zax rfl rfl (op_stwa rfl tb29 (ev1 rfl) (ev1 rfl) rfl (zao _) (frC_oc _) rfl) (by simp only [upd, za, zaa]; exact rfl) ?_
            refine zab rfl rfl rfl (zad (.inr rfl) (ev1 rfl)) ?_
            refine zae ?_
            refine zaf ?_
            refine zaj 1 (by simp only [holes, List.cons_append, List.nil_append]; exact rfl) ?_
            refine zac ?_
            refine zam rfl rfl rfl (zaq 4 rfl zr29 rfl) (by simp only [upd, za, zaa]; exact rfl) ?_
            refine zae ?_
            refine zaf ?_
            refine zac ?_
            refine zab rfl rfl rfl (zad (.inr rfl) (ev1 rfl)) ?_
            refine zae ?_
            refine zaf ?_
            refine zaf ?_
            refine zac ?_
            refine zab rfl rfl rfl (zad (.inl rfl) (ev1 rfl)) ?_
            refine zae ?_
            refine dwp_if_f rfl (rfl) ?_
            refine zak ?_
            refine zaf ?_
            refine dwp_giveA 2 rfl rfl (by simp only [za, zaa]; exact rfl) ?_
            refine zac ?_
            refine zab rfl rfl rfl (zas rfl tb29 (ev1 rfl) rfl (zao _)) ?_
            refine zab rfl rfl rfl (zas rfl tb29 (ev1 rfl) rfl (zao _)) ?_
            refine zab rfl rfl rfl (op_eqr eq29 rfl gd29 tb29 (ev1 rfl) (ev1 rfl)) ?_
            refine zab rfl rfl rfl (zad (.inl rfl) (ev1 rfl)) ?_
            refine zag (zar rfl rfl rfl) rfl rfl rfl (zad (.inl rfl) (ev1 rfl)) ?_
            refine zag (zar rfl rfl rfl) rfl rfl rfl (zad (.inl rfl) (ev1 rfl)) ?_
            refine zag (zar rfl rfl rfl) rfl rfl rfl (zb rfl (ev2 rfl) (ev2 rfl)) ?_
            refine zab rfl rfl rfl (zaz rfl (ev1 rfl) (ev3 rfl id)) ?_
            refine zab rfl rfl rfl (zad (.inl rfl) (ev1 rfl)) ?_
            refine zag (zar rfl rfl rfl) rfl rfl rfl (zas rfl tb29 (ev1 rfl) rfl (zao _)) ?_
            refine zag (zar rfl rfl rfl) rfl rfl rfl (zah [] [] [] rfl (ev1 rfl) (ec (ev2 rfl) (ec (evnil 1 (ev1 rfl)) en)) rfl rfl (sit_d f [] (by simp)) rfl rfl rfl rfl rfl rfl) ?_
            refine zag (zar rfl rfl rfl) rfl rfl rfl (zad (.inl rfl) (ev1 rfl)) ?_
            refine zag (zar rfl rfl rfl) rfl rfl rfl (zah [] [] [] rfl (ev1 rfl) (ec (ev2 rfl) (ec (evnil 1 (ev2 rfl)) en)) rfl rfl (equalI _ []) rfl rfl rfl rfl rfl rfl) ?_
            refine zab rfl rfl rfl (zaz rfl (ev1 rfl) (ev3 rfl id)) ?_
            refine zab rfl rfl rfl (zad (.inl rfl) (ev1 rfl)) ?_
            refine zag (zar rfl rfl rfl) rfl rfl rfl (zas rfl tb29 (ev1 rfl) rfl (zao _)) ?_
            refine zag (zar rfl rfl rfl) rfl rfl rfl (zad (.inl rfl) (ev1 rfl)) ?_
            refine zag (zar rfl rfl rfl) rfl rfl rfl (zah [] [] [] rfl (ev1 rfl) (ec (ev2 rfl) (ec (ev2 rfl) en)) rfl rfl (sit_d f _ (by omega)) rfl rfl rfl rfl rfl rfl) ?_
            refine zag (zar rfl rfl rfl) rfl rfl rfl (zad (.inl rfl) (ev1 rfl)) ?_
            refine zag (zar rfl rfl rfl) rfl rfl rfl (zah [] [] [] rfl (ev1 rfl) (ec (ev2 rfl) (ec (evnil 1 (ev2 rfl)) en)) rfl rfl (equalI _ []) rfl rfl rfl rfl rfl rfl) ?_
            refine zab rfl rfl rfl (zaz rfl (ev1 rfl) (ev3 rfl id)) ?_
            refine zab rfl rfl rfl (zad (.inr rfl) (ev1 rfl)) ?_
            refine zae ?_
            refine zau ?_
            refine kend0 (rs1 rfl (rv_t rfl)) rfl ?_
            unfold sitF
            rw [hf]
            simp [eqF_refl]
    · try simp only [decide_eq_true_eq, decide_eq_false_iff_not, beq_iff_eq, bne_iff_ne, beq_eq_false_iff_ne, bne_eq_false_iff_eq, Bool.not_eq_true', Bool.not_eq_false', Bool.and_eq_true, Bool.or_eq_true, Bool.or_eq_false_iff, ne_eq, Decidable.not_not, Int.not_lt, Int.not_le] at c4
      refine zak ?_
      refine zaf ?_
      refine zac ?_
      refine zab rfl rfl rfl (zad (.inl rfl) (ev1 rfl)) ?_
      refine zab rfl rfl rfl (zad (.inl rfl) (ev1 rfl)) ?_
      refine zag (zar (b := false) rfl rfl rfl) rfl rfl rfl (zal (d := .junk)) ?_
      refine zag (zar (b := false) rfl rfl rfl) rfl rfl rfl (zal (d := .val (.bool false))) ?_
      refine zab rfl rfl rfl ((zaz rfl (ev1 rfl) (ev3 rfl id)).cast (d' := .val (.bool false)) (by rfl)) ?_
      refine zab rfl rfl rfl (zad (.inr rfl) (ev1 rfl)) ?_
      refine zae ?_
      refine zaf ?_
      refine zaj 1 (by simp only [holes, List.cons_append, List.nil_append]; exact rfl) ?_
      refine zac ?_
      refine zab rfl rfl rfl (zas rfl tb29 (ev1 rfl) rfl (zao _)) ?_
      refine zab rfl rfl rfl (zas rfl tb24 (ev1 rfl) rfl rfl) ?_
      refine zab rfl rfl rfl (zah [] [] [] rfl (ev1 rfl) (ec (ev1 rfl) (ec (ev1 rfl) en)) rfl rfl (rdy_d _ _) rfl rfl rfl rfl rfl rfl) ?_
      refine zab rfl rfl rfl (zad (.inl rfl) (ev1 rfl)) ?_
      refine zab rfl rfl rfl (op_ext rfl (ev1 rfl) rfl) ?_
      refine zab rfl rfl rfl (op_ext rfl (ev1 rfl) rfl) ?_
      refine zam rfl rfl rfl (zaq 2 rfl zr24 rfl) (by simp only [upd, za, zaa]; exact rfl) ?_
      refine zax rfl rfl (op_stwa rfl tb24 (ev1 rfl) (ev1 rfl) rfl rfl rfl rfl) (by simp only [upd, za, zaa]; exact rfl) ?_
      refine zab rfl rfl rfl (zad (.inr rfl) (ev1 rfl)) ?_
      refine zae ?_
      refine zaf ?_
      refine zaj 1 (by simp only [holes, List.cons_append, List.nil_append]; exact rfl) ?_
      refine zac ?_
      refine zab rfl rfl rfl (zas rfl tb29 (ev1 rfl) rfl (zao _)) ?_
      refine zab rfl rfl rfl (zas rfl tb24 (ev1 rfl) rfl rfl) ?_
      refine zab rfl rfl rfl (zah [] [] [] rfl (ev1 rfl) (ec (ev1 rfl) (ec (ev1 rfl) en)) rfl rfl (fol_d _ _) rfl rfl rfl rfl rfl rfl) ?_
      refine zab rfl rfl rfl (zad (.inl rfl) (ev1 rfl)) ?_
      refine zab rfl rfl rfl (op_ext rfl (ev1 rfl) rfl) ?_
      refine zab rfl rfl rfl (op_ext rfl (ev1 rfl) rfl) ?_
      refine zam rfl rfl rfl (zaq 3 rfl zr29 rfl) (by simp only [upd, za, zaa]; exact rfl) ?_
      refine zax rfl rfl (op_stwa rfl tb29 (ev1 rfl) (ev1 rfl) rfl (zao _) (frC_oc _) rfl) (by simp only [upd, za, zaa]; exact rfl) ?_
      refine zab rfl rfl rfl (zad (.inr rfl) (ev1 rfl)) ?_
      refine zae ?_
      refine zaf ?_
      refine zaj 1 (by simp only [holes, List.cons_append, List.nil_append]; exact rfl) ?_
      refine zac ?_
      refine zam rfl rfl rfl (zaq 4 rfl zr24 rfl) (by simp only [upd, za, zaa]; exact rfl) ?_
      refine zae ?_
      refine zaf ?_
      refine zaj 1 (by simp only [holes, List.cons_append, List.nil_append]; exact rfl) ?_
      refine zac ?_
      refine zam rfl rfl rfl (zaq 5 rfl zr29 rfl) (by simp only [upd, za, zaa]; exact rfl) ?_
      refine zae ?_
      refine zaf ?_
      refine zac ?_
      refine zab rfl rfl rfl (zad (.inr rfl) (ev1 rfl)) ?_
      refine zae ?_
      refine zaf ?_
      refine zac ?_
      refine zab rfl rfl rfl (zad (.inr rfl) (ev1 rfl)) ?_
      refine zae ?_
      refine zaf ?_
      refine zaf ?_
      refine zac ?_
      refine zab rfl rfl rfl (zad (.inl rfl) (ev1 rfl)) ?_
      refine zae ?_
      refine dwp_if_f rfl (rfl) ?_
      refine zak ?_
      refine zaf ?_
      refine zaf ?_
      refine zac ?_
      refine zab rfl rfl rfl (zad (.inl rfl) (ev1 rfl)) ?_
      refine zab rfl rfl rfl (zad (.inl rfl) (ev1 rfl)) ?_
      refine zag (zar (b := false) rfl rfl rfl) rfl rfl rfl (zal (d := .junk)) ?_
      refine zag (zar (b := false) rfl rfl rfl) rfl rfl rfl (zal (d := .junk)) ?_
      refine zag (zar (b := false) rfl rfl rfl) rfl rfl rfl (zal (d := .val (.bool false))) ?_
      refine zab rfl rfl rfl ((zaz rfl (ev1 rfl) (ev3 rfl id)).cast (d' := .val (.bool false)) (by rfl)) ?_
      refine zae ?_
      refine dwp_if_f rfl (rfl) ?_
      refine zak ?_
      refine zaf ?_
      refine zac ?_
      refine zab rfl rfl rfl (zad (.inl rfl) (ev1 rfl)) ?_
      refine zab rfl rfl rfl (zad (.inl rfl) (ev1 rfl)) ?_
      refine zag (zar (b := false) rfl rfl rfl) rfl rfl rfl (zal (d := .junk)) ?_
      refine zag (zar (b := false) rfl rfl rfl) rfl rfl rfl (zal (d := .junk)) ?_
      refine zag (zar (b := false) rfl rfl rfl) rfl rfl rfl (zal (d := .val (.bool false))) ?_
      refine zab rfl rfl rfl ((zaz rfl (ev1 rfl) (ev3 rfl id)).cast (d' := .val (.bool false)) (by rfl)) ?_
      refine zab rfl rfl rfl (zad (.inr rfl) (ev1 rfl)) ?_
      refine zae ?_
      refine zaf ?_
      refine zaf ?_
      refine zac ?_
      refine zab rfl rfl rfl (zad (.inl rfl) (ev1 rfl)) ?_
      refine zae ?_
      refine dwp_if_f rfl (rfl) ?_
      refine zak ?_
      refine zaf ?_
      refine zac ?_
      refine zab rfl rfl rfl (zas rfl tb24 (ev1 rfl) rfl rfl) ?_
      refine zab rfl rfl rfl (zas rfl tb24 (ev1 rfl) rfl rfl) ?_
      refine zab rfl rfl rfl (op_ner eq24 rfl gd24 tb24 (ev1 rfl) (ev1 rfl)) ?_
      refine zab rfl rfl rfl (zad (.inl rfl) (ev1 rfl)) ?_
      refine zag (zan rfl rfl rfl) rfl rfl rfl (zad (.inl rfl) (ev1 rfl)) ?_
      refine zag (zan rfl rfl rfl) rfl rfl rfl (zad (.inl rfl) (ev1 rfl)) ?_
      refine zag (zan rfl rfl rfl) rfl rfl rfl (op_neb rfl un4 (ev2 rfl) (ev2 rfl)) ?_
      refine zab rfl rfl rfl (op_or rfl (ev1 rfl) (ev3 rfl id)) ?_
      refine zab rfl rfl rfl (zad (.inl rfl) (ev1 rfl)) ?_
      refine zag (zan rfl rfl rfl) rfl rfl rfl (zas rfl tb29 (ev1 rfl) rfl (zao _)) ?_
      refine zag (zan rfl rfl rfl) rfl rfl rfl (zas rfl tb29 (ev1 rfl) rfl (zao _)) ?_
      refine zag (zan rfl rfl rfl) rfl rfl rfl (op_ner eq29 rfl gd29 tb29 (ev2 rfl) (ev2 rfl)) ?_
      refine zab rfl rfl rfl (op_or rfl (ev1 rfl) (ev3 rfl id)) ?_
      refine zab rfl rfl rfl (zad (.inl rfl) (ev1 rfl)) ?_
      refine zag (zan rfl rfl rfl) rfl rfl rfl (zad (.inl rfl) (ev1 rfl)) ?_
      refine zag (zan rfl rfl rfl) rfl rfl rfl (zad (.inl rfl) (ev1 rfl)) ?_
      refine zag (zan rfl rfl rfl) rfl rfl rfl (op_neq rfl (ev2 rfl) (ev2 rfl)) ?_
      refine zab rfl rfl rfl (op_or rfl (ev1 rfl) (ev3 rfl id)) ?_
      refine zab rfl rfl rfl (zad (.inl rfl) (ev1 rfl)) ?_
      refine zag (zan rfl rfl rfl) rfl rfl rfl (zas rfl tb29 (ev1 rfl) rfl (zao _)) ?_
      refine zag (zan rfl rfl rfl) rfl rfl rfl (zas rfl tb24 (ev1 rfl) rfl rfl) ?_
      refine zag (zan rfl rfl rfl) rfl rfl rfl (zah [] [] [] rfl (ev1 rfl) (ec (ev2 rfl) (ec (ev2 rfl) en)) rfl rfl (wai_d _ _) rfl rfl rfl rfl rfl rfl) ?_
      refine zag (zan rfl rfl rfl) rfl rfl rfl (zad (.inl rfl) (ev1 rfl)) ?_
      refine zag (zan rfl rfl rfl) rfl rfl rfl (zah [] [] [] rfl (ev1 rfl) (ec (ev2 rfl) (ec (evnil 1 (ev2 rfl)) en)) rfl rfl (equalI _ []) rfl rfl rfl rfl rfl rfl) ?_
      refine zag (zan rfl rfl rfl) rfl rfl rfl (op_not rfl (ev2 rfl)) ?_
      refine zab rfl rfl rfl (op_or rfl (ev1 rfl) (ev3 rfl id)) ?_
      refine zae ?_
      refine dwp_if_f rfl (by rw [rdyF_f hf, folF_f hf, waiF_f hf, eqV_refl, eqF_refl]; rfl) ?_
      refine zak ?_
      refine zac ?_
      refine zab rfl rfl rfl (op_add' rfl (ev1 rfl) (ev1 rfl) (fun _ => IntWalk.i64_in _ (by omega))) ?_
      refine zab rfl rfl rfl (zad (.inl rfl) (ev1 rfl)) ?_
      refine zae ?_
      refine ⟨k + 1, [0], ⟨by omega, by omega⟩, by simp only []; omega, rfl, ⟨rfl, rfl, rfl, rfl, rfl, rfl, trivial⟩, ⟨rfl, trivial⟩⟩
  · try simp only [decide_eq_true_eq, decide_eq_false_iff_not, beq_iff_eq, bne_iff_ne, beq_eq_false_iff_ne, bne_eq_false_iff_eq, Bool.not_eq_true', Bool.not_eq_false', Bool.and_eq_true, Bool.or_eq_true, Bool.or_eq_false_iff, ne_eq, Decidable.not_not, Int.not_lt, Int.not_le] at c3
    refine dwp_exit ?_
    refine zaf ?_
    refine zac ?_
    refine zab rfl rfl rfl (zad (.inr rfl) (ev1 rfl)) ?_
    refine zab rfl rfl rfl (zad (.inr rfl) (ev1 rfl)) ?_
    refine zae ?_
    refine zaf ?_
    refine zaf ?_
    refine zac ?_
    refine zab rfl rfl rfl (zad (.inr rfl) (ev1 rfl)) ?_
    refine zae ?_
    refine zat ?_
    refine dwp_loopS ⟨hs0, rfl⟩ (α := Nat) (fun k => [(23, .val (.int .i64 (k : Int)))]) [(2, _), (3, _), (7, _), (21, _), (22, _)] (fun k => []) [_] (fun k => 1 ≤ k ∧ k ≤ 9) (fun k => 9 - k) 1 [0] (by simp) rfl ⟨rfl, rfl, rfl, rfl, rfl, trivial⟩ ⟨rfl, trivial⟩ ⟨rfl, trivial⟩ ?_
    intro k hx
    simp only [upd, za, zaa, List.cons_append, List.nil_append]
    obtain ⟨hk1, hk⟩ := hx
    refine zaf ?_
    refine zaf ?_
    refine zac ?_
    refine zab rfl rfl rfl (zad (.inl rfl) (ev1 rfl)) ?_
    refine zab rfl rfl rfl (op_leq rfl (ev1 rfl) (ev1 rfl)) ?_
    refine zae ?_
    refine zaw rfl (fun c16 => ?_) (fun c16 => ?_)
    · try simp only [decide_eq_true_eq, decide_eq_false_iff_not, beq_iff_eq, bne_iff_ne, beq_eq_false_iff_ne, bne_eq_false_iff_eq, Bool.not_eq_true', Bool.not_eq_false', Bool.and_eq_true, Bool.or_eq_true, Bool.or_eq_false_iff, ne_eq, Decidable.not_not, Int.not_lt, Int.not_le] at c16
      refine zak ?_
      refine zaf ?_
      refine zat ?_
      refine zaf ?_
      refine zac ?_
      refine zab rfl rfl rfl (zad (.inl rfl) (ev1 rfl)) ?_
      refine zab rfl rfl rfl (zad (.inl rfl) (ev1 rfl)) ?_
      refine zag (zar (b := false) rfl rfl rfl) rfl rfl rfl (zal (d := .junk)) ?_
      refine zag (zar (b := false) rfl rfl rfl) rfl rfl rfl (zal (d := .junk)) ?_
      refine zag (zar (b := false) rfl rfl rfl) rfl rfl rfl (zal (d := .junk)) ?_
      refine zag (zar (b := false) rfl rfl rfl) rfl rfl rfl (zal (d := .junk)) ?_
      refine zag (zar (b := false) rfl rfl rfl) rfl rfl rfl (zal (d := .val (.bool false))) ?_
      refine zab rfl rfl rfl ((zaz rfl (ev1 rfl) (ev3 rfl id)).cast (d' := .val (.bool false)) (by rfl)) ?_
      refine zae ?_
      refine dwp_if_f rfl (rfl) ?_
      refine zak ?_
      refine zac ?_
      refine zab rfl rfl rfl (zad (.inl rfl) (ev1 rfl)) ?_
      refine zab rfl rfl rfl (op_add' rfl (ev1 rfl) (ev1 rfl) (fun _ => IntWalk.i64_in _ (by omega))) ?_
      refine zab rfl rfl rfl (zad (.inr rfl) (ev1 rfl)) ?_
      refine zae ?_
      refine ⟨k + 1, [0], ⟨by omega, by omega⟩, by simp only []; omega, rfl, ⟨rfl, rfl, rfl, rfl, rfl, rfl, trivial⟩, ⟨rfl, trivial⟩⟩
    · try simp only [decide_eq_true_eq, decide_eq_false_iff_not, beq_iff_eq, bne_iff_ne, beq_eq_false_iff_ne, bne_eq_false_iff_eq, Bool.not_eq_true', Bool.not_eq_false', Bool.and_eq_true, Bool.or_eq_true, Bool.or_eq_false_iff, ne_eq, Decidable.not_not, Int.not_lt, Int.not_le] at c16
      refine dwp_exit ?_
      refine zaf ?_
      refine zaj 1 (by simp only [holes, List.cons_append, List.nil_append]; exact rfl) ?_
      refine zac ?_
      refine zab rfl rfl rfl (zad (.inl rfl) (ev1 rfl)) ?_
      refine zab rfl rfl rfl (zad (.inl rfl) (ev1 rfl)) ?_
      refine zab rfl rfl rfl (op_len rfl sl31 (ev1 rfl)) ?_
      refine zab rfl rfl rfl (op_min rfl (ev1 rfl) (ev1 rfl)) ?_
      refine zab rfl rfl rfl (op_sltk (j := min s.length 10) rfl sl31 (ev1 rfl) (bd_some (ev1 rfl)) (fun _ => by omega) (fun _ => by omega) (fun _ => rfl)) ?_
      refine zam rfl rfl rfl (zah [] [] [1] rfl (ev1 rfl) (ec (ev1 rfl) en) rfl rfl (cloneI _ (by rw [List.length_take]; omega)) rfl rfl rfl rfl rfl rfl) (by simp only [upd, za, zaa]; exact rfl) ?_
      refine zab rfl rfl rfl (zad (.inr rfl) (ev1 rfl)) ?_
      refine zae ?_
      refine zaf ?_
      refine zaf ?_
      obtain ⟨r, hr⟩ : ∃ r, r = s.take (min s.length 10) := ⟨_, rfl⟩
      have hrl : r.length ≤ 10 := by rw [hr, List.length_take]; omega
      rw [← hr]
      refine zac ?_
      refine zab rfl rfl rfl (zad (.inl rfl) (ev1 rfl)) ?_
      refine zab rfl rfl rfl (op_lena rfl sl31 (ev1 rfl) rfl) ?_
      refine zab rfl rfl rfl (zad (.inl rfl) (ev1 rfl)) ?_
      refine zae ?_
      refine zat ?_
      refine dwp_loopS ⟨hs0, rfl⟩ (α := Nat) (fun k => [(152, .val (.int .i64 (k : Int)))]) [(2, _), (3, _), (7, _), (21, _), (22, _), (150, _), (151, _)] (fun k => []) [_, _] (fun k => k ≤ r.length) (fun k => r.length - k) 0 [0, 1] (by omega) rfl ⟨rfl, rfl, rfl, rfl, rfl, rfl, rfl, trivial⟩ ⟨rfl, trivial⟩ ⟨rfl, rfl, trivial⟩ ?_
      intro k hx
      simp only [upd, za, zaa, List.cons_append, List.nil_append]
      have hk := hx
      refine zaf ?_
      refine zac ?_
      refine zab rfl rfl rfl (op_lss rfl (ev1 rfl) (ev1 rfl)) ?_
      refine zae ?_
      refine zaf ?_
      refine zaw rfl (fun c18 => ?_) (fun c18 => ?_)
      · try simp only [decide_eq_true_eq, decide_eq_false_iff_not, beq_iff_eq, bne_iff_ne, beq_eq_false_iff_ne, bne_eq_false_iff_eq, Bool.not_eq_true', Bool.not_eq_false', Bool.and_eq_true, Bool.or_eq_true, Bool.or_eq_false_iff, ne_eq, Decidable.not_not, Int.not_lt, Int.not_le] at c18
        refine zak ?_
        refine zaf ?_
        refine zat ?_
        refine zaf ?_
        refine zac ?_
        refine zab rfl rfl rfl (op_ixar (j := k) rfl sl31 (ev1 rfl) (ev1 rfl) rfl (fun _ => by first | rfl | omega) (fun _ => by omega)) ?_
        refine zab rfl rfl rfl (op_lda1 rfl tb3 (ev1 rfl) rfl (fun _ => rfl) (by omega) rfl) ?_
        refine zab rfl rfl rfl (zad (.inr rfl) (ev1 rfl)) ?_
        refine zae ?_
        refine zaf ?_
        refine zac ?_
        refine zab rfl rfl rfl (zad (.inl rfl) (ev1 rfl)) ?_
        refine zab rfl rfl rfl (zad (.inl rfl) (ev1 rfl)) ?_
        refine zab rfl rfl rfl (zah [] [] [] rfl (ev1 rfl) (ec (evnil 1 (ev1 rfl)) (ec (ev1 rfl) en)) rfl rfl (contI [] _) rfl rfl rfl rfl rfl rfl) ?_
        refine zae ?_
        refine dwp_if_f rfl (by simp) ?_
        refine zak ?_
        refine zac ?_
        refine zab rfl rfl rfl (op_add' rfl (ev1 rfl) (ev1 rfl) (fun _ => IntWalk.i64_in _ (by omega))) ?_
        refine zab rfl rfl rfl (zad (.inl rfl) (ev1 rfl)) ?_
        refine zae ?_
        refine ⟨k + 1, [0, 1], by omega, by simp only []; omega, rfl, ⟨rfl, rfl, rfl, rfl, rfl, rfl, rfl, rfl, trivial⟩, ⟨rfl, rfl, trivial⟩⟩
      · try simp only [decide_eq_true_eq, decide_eq_false_iff_not, beq_iff_eq, bne_iff_ne, beq_eq_false_iff_ne, bne_eq_false_iff_eq, Bool.not_eq_true', Bool.not_eq_false', Bool.and_eq_true, Bool.or_eq_true, Bool.or_eq_false_iff, ne_eq, Decidable.not_not, Int.not_lt, Int.not_le] at c18
        refine dwp_exit ?_
        refine zaf ?_
        refine zaf ?_
        refine zac ?_
        refine zab rfl rfl rfl (zad (.inl rfl) (ev1 rfl)) ?_
        refine zab rfl rfl rfl (op_lena rfl sl31 (ev1 rfl) rfl) ?_
        refine zab rfl rfl rfl (zb rfl (ev1 rfl) (ev1 rfl)) ?_
        refine zae ?_
        refine zaw rfl (fun c20 => ?_) (fun c20 => ?_)
        · try simp only [decide_eq_true_eq, decide_eq_false_iff_not, beq_iff_eq, bne_iff_ne, beq_eq_false_iff_ne, bne_eq_false_iff_eq, Bool.not_eq_true', Bool.not_eq_false', Bool.and_eq_true, Bool.or_eq_true, Bool.or_eq_false_iff, ne_eq, Decidable.not_not, Int.not_lt, Int.not_le] at c20
          refine zac ?_
          refine zab rfl rfl rfl (zad (.inl rfl) (ev1 rfl)) ?_
          refine zab rfl rfl rfl (zad (.inr rfl) (ev1 rfl)) ?_
          refine zae ?_
          refine zaf ?_
          refine zaj 1 (by simp only [holes, List.cons_append, List.nil_append]; exact rfl) ?_
          refine zac ?_
          refine zab rfl rfl rfl (zas rfl tb29 (ev1 rfl) rfl (zao _)) ?_
          refine zab rfl rfl rfl (zah [] [] [] rfl (ev1 rfl) (ec (ev1 rfl) en) rfl rfl (ris_no f hf) rfl rfl rfl rfl rfl rfl) ?_
          refine zab rfl rfl rfl (zad (.inl rfl) (ev1 rfl)) ?_
          refine zab rfl rfl rfl (op_ext rfl (ev1 rfl) rfl) ?_
          refine zab rfl rfl rfl (op_ext rfl (ev1 rfl) rfl) ?_
          refine zam rfl rfl rfl (zaq 2 rfl zr29 rfl) (by simp only [upd, za, zaa]; exact rfl) ?_
          refine zax rfl rfl (op_stwa rfl tb29 (ev1 rfl) (ev1 rfl) rfl (zao _) (frC_oc _) rfl) (by simp only [upd, za, zaa]; exact rfl) ?_
          refine zab rfl rfl rfl (zad (.inr rfl) (ev1 rfl)) ?_
          refine zae ?_
          refine zaf ?_
          refine zaj 1 (by simp only [holes, List.cons_append, List.nil_append]; exact rfl) ?_
          refine zac ?_
          refine zam rfl rfl rfl (zaq 3 rfl zr29 rfl) (by simp only [upd, za, zaa]; exact rfl) ?_
          refine zae ?_
          refine zaf ?_
          refine zac ?_
          refine zab rfl rfl rfl (zad (.inr rfl) (ev1 rfl)) ?_
          refine zae ?_
          refine zaf ?_
          refine zaf ?_
          refine zac ?_
          refine zab rfl rfl rfl (zad (.inl rfl) (ev1 rfl)) ?_
          refine zae ?_
          refine dwp_if_f rfl (rfl) ?_
          refine zak ?_
          refine zaf ?_
          refine dwp_giveA 2 rfl rfl (by simp only [za, zaa]; exact rfl) ?_
          refine zac ?_
          refine zab rfl rfl rfl (zas rfl tb29 (ev1 rfl) rfl (zao _)) ?_
          refine zab rfl rfl rfl (zas rfl tb29 (ev1 rfl) rfl (zao _)) ?_
          refine zab rfl rfl rfl (op_eqr eq29 rfl gd29 tb29 (ev1 rfl) (ev1 rfl)) ?_
          refine zab rfl rfl rfl (zad (.inl rfl) (ev1 rfl)) ?_
          refine zag (zar rfl rfl rfl) rfl rfl rfl (zad (.inl rfl) (ev1 rfl)) ?_
          refine zag (zar rfl rfl rfl) rfl rfl rfl (zad (.inl rfl) (ev1 rfl)) ?_
          refine zag (zar rfl rfl rfl) rfl rfl rfl (zb rfl (ev2 rfl) (ev2 rfl)) ?_
          refine zab rfl rfl rfl (zaz rfl (ev1 rfl) (ev3 rfl id)) ?_
          refine zab rfl rfl rfl (zad (.inl rfl) (ev1 rfl)) ?_
          refine zag (zar rfl rfl rfl) rfl rfl rfl (zas rfl tb29 (ev1 rfl) rfl (zao _)) ?_
          refine zag (zar rfl rfl rfl) rfl rfl rfl (zah [] [] [] rfl (ev1 rfl) (ec (ev2 rfl) (ec (evnil 1 (ev1 rfl)) en)) rfl rfl (sit_d f [] (by simp)) rfl rfl rfl rfl rfl rfl) ?_
          refine zag (zar rfl rfl rfl) rfl rfl rfl (zad (.inl rfl) (ev1 rfl)) ?_
          refine zag (zar rfl rfl rfl) rfl rfl rfl (zah [] [] [] rfl (ev1 rfl) (ec (ev2 rfl) (ec (evnil 1 (ev2 rfl)) en)) rfl rfl (equalI _ []) rfl rfl rfl rfl rfl rfl) ?_
          refine zab rfl rfl rfl (zaz rfl (ev1 rfl) (ev3 rfl id)) ?_
          refine zab rfl rfl rfl (zad (.inl rfl) (ev1 rfl)) ?_
          refine zag (zar rfl rfl rfl) rfl rfl rfl (zas rfl tb29 (ev1 rfl) rfl (zao _)) ?_
          refine zag (zar rfl rfl rfl) rfl rfl rfl (zad (.inl rfl) (ev1 rfl)) ?_
          refine zag (zar rfl rfl rfl) rfl rfl rfl (zah [] [] [] rfl (ev1 rfl) (ec (ev2 rfl) (ec (ev2 rfl) en)) rfl rfl (sit_d f _ (by omega)) rfl rfl rfl rfl rfl rfl) ?_
          refine zag (zar rfl rfl rfl) rfl rfl rfl (zad (.inl rfl) (ev1 rfl)) ?_
          refine zag (zar rfl rfl rfl) rfl rfl rfl (zah [] [] [] rfl (ev1 rfl) (ec (ev2 rfl) (ec (evnil 1 (ev2 rfl)) en)) rfl rfl (equalI _ []) rfl rfl rfl rfl rfl rfl) ?_
          refine zab rfl rfl rfl (zaz rfl (ev1 rfl) (ev3 rfl id)) ?_
          refine zab rfl rfl rfl (zad (.inr rfl) (ev1 rfl)) ?_
          refine zae ?_
          refine zau ?_
          refine kend0 (rs1 rfl (rv_t rfl)) rfl ?_
          unfold sitF
          rw [hf]
          simp [eqF_refl]
        · try simp only [decide_eq_true_eq, decide_eq_false_iff_not, beq_iff_eq, bne_iff_ne, beq_eq_false_iff_ne, bne_eq_false_iff_eq, Bool.not_eq_true', Bool.not_eq_false', Bool.and_eq_true, Bool.or_eq_true, Bool.or_eq_false_iff, ne_eq, Decidable.not_not, Int.not_lt, Int.not_le] at c20
          refine zak ?_
          refine zaf ?_
          refine zaj 1 (by simp only [holes, List.cons_append, List.nil_append]; exact rfl) ?_
          refine zac ?_
          refine zab rfl rfl rfl (zas rfl tb29 (ev1 rfl) rfl (zao _)) ?_
          refine zab rfl rfl rfl (zah [] [] [] rfl (ev1 rfl) (ec (ev1 rfl) en) rfl rfl (ris_no f hf) rfl rfl rfl rfl rfl rfl) ?_
          refine zab rfl rfl rfl (zad (.inl rfl) (ev1 rfl)) ?_
          refine zab rfl rfl rfl (op_ext rfl (ev1 rfl) rfl) ?_
          refine zab rfl rfl rfl (op_ext rfl (ev1 rfl) rfl) ?_
          refine zam rfl rfl rfl (zaq 2 rfl zr29 rfl) (by simp only [upd, za, zaa]; exact rfl) ?_
          refine zax rfl rfl (op_stwa rfl tb29 (ev1 rfl) (ev1 rfl) rfl (zao _) (frC_oc _) rfl) (by simp only [upd, za, zaa]; exact rfl) ?_
          refine zab rfl rfl rfl (zad (.inr rfl) (ev1 rfl)) ?_
          refine zae ?_
          refine zaf ?_
          refine zaj 1 (by simp only [holes, List.cons_append, List.nil_append]; exact rfl) ?_
          refine zac ?_
          refine zam rfl rfl rfl (zaq 3 rfl zr29 rfl) (by simp only [upd, za, zaa]; exact rfl) ?_
          refine zae ?_
          refine zaf ?_
          refine zac ?_
          refine zab rfl rfl rfl (zad (.inr rfl) (ev1 rfl)) ?_
          refine zae ?_
          refine zaf ?_
          refine zaf ?_
          refine zac ?_
          refine zab rfl rfl rfl (zad (.inl rfl) (ev1 rfl)) ?_
          refine zae ?_
          refine dwp_if_f rfl (rfl) ?_
          refine zak ?_
          refine zaf ?_
          refine dwp_giveA 2 rfl rfl (by simp only [za, zaa]; exact rfl) ?_
          refine zac ?_
          refine zab rfl rfl rfl (zas rfl tb29 (ev1 rfl) rfl (zao _)) ?_
          refine zab rfl rfl rfl (zas rfl tb29 (ev1 rfl) rfl (zao _)) ?_
          refine zab rfl rfl rfl (op_eqr eq29 rfl gd29 tb29 (ev1 rfl) (ev1 rfl)) ?_
          refine zab rfl rfl rfl (zad (.inl rfl) (ev1 rfl)) ?_
          refine zag (zar rfl rfl rfl) rfl rfl rfl (zad (.inl rfl) (ev1 rfl)) ?_
          refine zag (zar rfl rfl rfl) rfl rfl rfl (zad (.inl rfl) (ev1 rfl)) ?_
          refine zag (zar rfl rfl rfl) rfl rfl rfl (zb rfl (ev2 rfl) (ev2 rfl)) ?_
          refine zab rfl rfl rfl (zaz rfl (ev1 rfl) (ev3 rfl id)) ?_
          refine zab rfl rfl rfl (zad (.inl rfl) (ev1 rfl)) ?_
          refine zag (zar rfl rfl rfl) rfl rfl rfl (zas rfl tb29 (ev1 rfl) rfl (zao _)) ?_
          refine zag (zar rfl rfl rfl) rfl rfl rfl (zah [] [] [] rfl (ev1 rfl) (ec (ev2 rfl) (ec (evnil 1 (ev1 rfl)) en)) rfl rfl (sit_d f [] (by simp)) rfl rfl rfl rfl rfl rfl) ?_
          refine zag (zar rfl rfl rfl) rfl rfl rfl (zad (.inl rfl) (ev1 rfl)) ?_
          refine zag (zar rfl rfl rfl) rfl rfl rfl (zah [] [] [] rfl (ev1 rfl) (ec (ev2 rfl) (ec (evnil 1 (ev2 rfl)) en)) rfl rfl (equalI _ []) rfl rfl rfl rfl rfl rfl) ?_
          refine zab rfl rfl rfl (zaz rfl (ev1 rfl) (ev3 rfl id)) ?_
          refine zab rfl rfl rfl (zad (.inl rfl) (ev1 rfl)) ?_
          refine zag (zar rfl rfl rfl) rfl rfl rfl (zas rfl tb29 (ev1 rfl) rfl (zao _)) ?_
          refine zag (zar rfl rfl rfl) rfl rfl rfl (zad (.inl rfl) (ev1 rfl)) ?_
          refine zag (zar rfl rfl rfl) rfl rfl rfl (zah [] [] [] rfl (ev1 rfl) (ec (ev2 rfl) (ec (ev2 rfl) en)) rfl rfl (sit_d f _ (by omega)) rfl rfl rfl rfl rfl rfl) ?_
          refine zag (zar rfl rfl rfl) rfl rfl rfl (zad (.inl rfl) (ev1 rfl)) ?_
          refine zag (zar rfl rfl rfl) rfl rfl rfl (zah [] [] [] rfl (ev1 rfl) (ec (ev2 rfl) (ec (evnil 1 (ev2 rfl)) en)) rfl rfl (equalI _ []) rfl rfl rfl rfl rfl rfl) ?_
          refine zab rfl rfl rfl (zaz rfl (ev1 rfl) (ev3 rfl id)) ?_
          refine zab rfl rfl rfl (zad (.inr rfl) (ev1 rfl)) ?_
          refine zae ?_
          refine zau ?_
          refine kend0 (rs1 rfl (rv_t rfl)) rfl ?_
          unfold sitF
          rw [hf]
          simp [eqF_refl]
theorem glTo_1 {f : FrM} (hf : frB f = true) : glTo (fun i => (f.st i).inn) (fun i : Nat => (i : Int)) 1 = [] := by
  rw [glTo_no (p := fun i => (f.st i).inn) (k := 0) (by
    cases h : (f.st 0).inn
    · rfl
    · exact absurd rfl (siB_in (frB_at hf (by omega)) h).1)]
  rfl
theorem sitF_nil {f : FrM} (hf : frB f = true) : sitF f [] = sitL f := by unfold sitF; rw [hf]; rfl
theorem sitF_some {f : FrM} {l : List Int} (hf : frB f = true) (h : ¬ l.length = 0) : sitF f l = l.filter (inS f) := by
  unfold sitF
  rw [hf]
  cases l with
  | nil => exact absurd rfl h
  | cons a l => rfl
set_option maxRecDepth 4000 in
set_option maxHeartbeats 1000000 in
theorem may_yes (f : FrM) (vs : List Vec) (s : List Int) (hf : frB f = true) : DFun Tryz.prog 3 [.val (.agg (frC f).toArray), .slf 9 (vs).length ((vs).flatMap c9), .slf 1 (s).length ((s).flatMap inI)] [] (.val (.bool true)) [] := by
  refine zba (N := 197) 0 (by kernel_rfl) Tryz.func3 rfl rfl rfl (by simp only [fr0, Nat.zero_add, Nat.reduceAdd]; exact rfl) rfl fun s0 hs0 => ?_
  refine dwp_len (t := 1) rfl fun hl1 hL1 => ?_
  refine dwp_len (t := 2) rfl fun hl2 hL2 => ?_
  refine zaf ?_
  refine zaj 1 (by simp only [holes, List.cons_append, List.nil_append]; exact rfl) ?_
  refine zac ?_
  refine zam rfl rfl rfl (op_boxa 0 rfl (ev1 rfl) rfl) (by simp only [upd, za, zaa]; exact rfl) ?_
  refine zab rfl rfl rfl (zad (.inr rfl) (ev1 rfl)) ?_
  refine zae ?_
  refine zaf ?_
  refine zaf ?_
  refine zac ?_
  refine zab rfl rfl rfl (zah [] [] [] rfl (ev1 rfl) en rfl rfl (wakes_d) rfl rfl rfl rfl rfl rfl) ?_
  refine zab rfl rfl rfl ((op_not rfl (ev1 rfl)).cast (d' := .val (.bool false)) (by kernel_rfl)) ?_
  refine zae ?_
  refine dwp_if_f rfl (rfl) ?_
  refine zak ?_
  refine zaf ?_
  refine zac ?_
  refine zab rfl rfl rfl (zas rfl tb29 (ev1 rfl) rfl (zao _)) ?_
  refine zab rfl rfl rfl ((zah [] [] [] rfl (ev1 rfl) (ec (ev1 rfl) en) rfl rfl (refFr_d f) rfl rfl rfl rfl rfl rfl).cast (d' := .val (.bool true)) (by rw [hf])) ?_
  refine zab rfl rfl rfl (zad (.inr rfl) (ev1 rfl)) ?_
  refine zae ?_
  refine zaf ?_
  refine zaf ?_
  refine zac ?_
  refine zab rfl rfl rfl (zas rfl tb29 (ev1 rfl) rfl (zao _)) ?_
  refine zab rfl rfl rfl (zah [] [] [] rfl (ev1 rfl) (ec (ev1 rfl) en) rfl rfl (fCheck_d _) rfl rfl rfl rfl rfl rfl) ?_
  refine zab rfl rfl rfl (zad (.inr rfl) (ev1 rfl)) ?_
  refine zae ?_
  refine zaf ?_
  refine zac ?_
  refine zab rfl rfl rfl (zad (.inl rfl) (ev1 rfl)) ?_
  refine zab rfl rfl rfl (zb rfl (ev1 rfl) (ev1 rfl)) ?_
  refine zab rfl rfl rfl (zad (.inl rfl) (ev1 rfl)) ?_
  refine zab rfl rfl rfl (op_neb rfl un4 (ev1 rfl) (ev1 rfl)) ?_
  refine zab rfl rfl rfl (zad (.inl rfl) (ev1 rfl)) ?_
  refine zag (zan rfl rfl rfl) rfl rfl rfl (zad (.inl rfl) (ev1 rfl)) ?_
  refine zag (zan rfl rfl rfl) rfl rfl rfl (op_neq rfl (ev2 rfl) (ev1 rfl)) ?_
  refine zag (zan rfl rfl rfl) rfl rfl rfl (zad (.inl rfl) (ev2 rfl)) ?_
  refine zag (zay rfl rfl rfl) rfl rfl rfl (zad (.inl rfl) (ev1 rfl)) ?_
  refine zag (zay rfl rfl rfl) rfl rfl rfl (op_neq rfl (ev2 rfl) (ev1 rfl)) ?_
  refine zag (zan rfl rfl rfl) rfl rfl rfl (zaz rfl (ev2 rfl) (ev2 rfl)) ?_
  refine zab rfl rfl rfl (op_or rfl (ev1 rfl) (ev3 rfl id)) ?_
  refine zab rfl rfl rfl (zad (.inl rfl) (ev1 rfl)) ?_
  refine zag (zan rfl rfl rfl) rfl rfl rfl (zah [] [] [] rfl (ev1 rfl) en rfl rfl (fnew_d) rfl rfl rfl rfl rfl rfl) ?_
  refine zag (zan rfl rfl rfl) rfl rfl rfl (op_build0 rfl fl29 zr29) ?_
  refine zag (zan rfl rfl rfl) rfl rfl rfl (op_ner eq29 rfl gd29 tb29 (ev2 rfl) (ev2 rfl)) ?_
  refine zab rfl rfl rfl (op_or rfl (ev1 rfl) (ev3 rfl id)) ?_
  refine zae ?_
  refine dwp_if_f rfl ((by rw [hf, eqF_refl]; rfl)) ?_
  refine zak ?_
  refine zaf ?_
  refine zaf ?_
  refine zac ?_
  refine zab rfl rfl rfl (zad (.inl rfl) (ev1 rfl)) ?_
  refine zab rfl rfl rfl (op_len rfl sl30 (ev1 rfl)) ?_
  refine zab rfl rfl rfl (zad (.inl rfl) (ev1 rfl)) ?_
  refine zae ?_
  refine zat ?_
  refine dwp_loopS ⟨hs0, rfl⟩ (α := Nat) (fun k => [(55, .val (.int .i64 (k : Int)))]) [(2, _), (3, _), (7, _), (53, _), (54, _)] (fun k => []) [_] (fun k => k ≤ vs.length ∧ k ≤ 5) (fun k => vs.length - k) 0 [0] (by simp) rfl ⟨rfl, rfl, rfl, rfl, rfl, trivial⟩ ⟨rfl, trivial⟩ ⟨rfl, trivial⟩ ?_
  intro k hx
  simp only [upd, za, zaa, List.cons_append, List.nil_append]
  obtain ⟨hk, hk5⟩ := hx
  refine zaf ?_
  refine zac ?_
  refine zab rfl rfl rfl (op_lss rfl (ev1 rfl) (ev1 rfl)) ?_
  refine zae ?_
  refine zaf ?_
  refine zaw rfl (fun c3 => ?_) (fun c3 => ?_)
  · try simp only [decide_eq_true_eq, decide_eq_false_iff_not, beq_iff_eq, bne_iff_ne, beq_eq_false_iff_ne, bne_eq_false_iff_eq, Bool.not_eq_true', Bool.not_eq_false', Bool.and_eq_true, Bool.or_eq_true, Bool.or_eq_false_iff, ne_eq, Decidable.not_not, Int.not_lt, Int.not_le] at c3
    refine zak ?_
    refine zaf ?_
    refine zat ?_
    refine zaf ?_
    refine zaj 1 (by simp only [holes, List.cons_append, List.nil_append]; exact rfl) ?_
    refine zac ?_
    refine zab rfl rfl rfl (zad (.inl rfl) (ev1 rfl)) ?_
    refine zab rfl rfl rfl (op_ixsr (j := k) rfl sl30 (ev1 rfl) (ev1 rfl) (fun _ => rfl) (by decide) (by omega) (by omega)) ?_
    refine zab rfl rfl rfl (op_ldwd rfl tb24 (ev1 rfl) rfl) ?_
    refine zam rfl rfl rfl (zaq 1 rfl zr24 rfl) (by simp only [upd, za, zaa]; exact rfl) ?_
    refine zab rfl rfl rfl (zad (.inr rfl) (ev1 rfl)) ?_
    refine zax rfl rfl (op_stwa rfl tb24 (ev1 rfl) (ev1 rfl) rfl rfl rfl rfl) (by simp only [upd, za, zaa]; exact rfl) ?_
    refine zae ?_
    refine zaf ?_
    refine zaf ?_
    refine zac ?_
    refine zab rfl rfl rfl (zad (.inl rfl) (ev1 rfl)) ?_
    refine zab rfl rfl rfl (zb rfl (ev1 rfl) (ev1 rfl)) ?_
    refine zae ?_
    refine zaw rfl (fun c4 => ?_) (fun c4 => ?_)
    · try simp only [decide_eq_true_eq, decide_eq_false_iff_not, beq_iff_eq, bne_iff_ne, beq_eq_false_iff_ne, bne_eq_false_iff_eq, Bool.not_eq_true', Bool.not_eq_false', Bool.and_eq_true, Bool.or_eq_true, Bool.or_eq_false_iff, ne_eq, Decidable.not_not, Int.not_lt, Int.not_le] at c4
      refine dwp_exit ?_
      refine zaf ?_
      refine zac ?_
      refine zab rfl rfl rfl (zad (.inr rfl) (ev1 rfl)) ?_
      refine zab rfl rfl rfl (zad (.inr rfl) (ev1 rfl)) ?_
      refine zae ?_
      refine zaf ?_
      refine zaf ?_
      refine zac ?_
      refine zab rfl rfl rfl (zad (.inr rfl) (ev1 rfl)) ?_
      refine zae ?_
      refine zat ?_
      refine dwp_adopt 21 3 1 rfl rfl rfl ?_
      refine dwp_loopS ⟨hs0, rfl⟩ (α := Nat) (fun k => [(23, .val (.int .i64 (k : Int)))]) [(2, _), (3, _), (7, _), (21, _), (22, _)] (fun k => [(1, .arr 3 1 (glTo (fun i => (f.st i).inn) (fun i : Nat => (i : Int)) k).length ((glTo (fun i => (f.st i).inn) (fun i : Nat => (i : Int)) k).flatMap inI))]) [_, .hole] (fun k => 1 ≤ k ∧ k ≤ 9) (fun k => 9 - k) 1 [0, 2] (by simp) rfl ⟨rfl, rfl, rfl, rfl, rfl, trivial⟩ ⟨rfl, trivial⟩ ⟨rfl, by rw [glTo_1 hf]; rfl, trivial⟩ ?_
      intro k hx
      simp only [upd, za, zaa, List.cons_append, List.nil_append]
      obtain ⟨hk1, hk⟩ := hx
      have hgl := glTo_len (fun i => (f.st i).inn) (fun i : Nat => (i : Int)) k
      refine zaf ?_
      refine zaf ?_
      refine zac ?_
      refine zab rfl rfl rfl (zad (.inl rfl) (ev1 rfl)) ?_
      refine zab rfl rfl rfl (op_leq rfl (ev1 rfl) (ev1 rfl)) ?_
      refine zae ?_
      refine zaw rfl (fun c5 => ?_) (fun c5 => ?_)
      · try simp only [decide_eq_true_eq, decide_eq_false_iff_not, beq_iff_eq, bne_iff_ne, beq_eq_false_iff_ne, bne_eq_false_iff_eq, Bool.not_eq_true', Bool.not_eq_false', Bool.and_eq_true, Bool.or_eq_true, Bool.or_eq_false_iff, ne_eq, Decidable.not_not, Int.not_lt, Int.not_le] at c5
        refine zak ?_
        refine zaf ?_
        refine zat ?_
        refine zaf ?_
        refine zac ?_
        refine zab rfl rfl rfl (zad (.inl rfl) (ev1 rfl)) ?_
        refine zab rfl rfl rfl (zad (.inl rfl) (ev1 rfl)) ?_
        refine zai (zar (b := true) rfl rfl rfl) rfl rfl rfl (zad (.inl rfl) (ev1 rfl)) (by simp only [upd, za, zaa]; exact rfl) ?_
        refine zai (zar (b := true) rfl rfl rfl) rfl rfl rfl (zap rfl fo29_3 (ev1 rfl)) (by simp only [upd, za, zaa]; exact rfl) ?_
        refine zai (zar (b := true) rfl rfl rfl) rfl rfl rfl (op_ixl rfl ar27 (ev2 rfl) (ev2 rfl) (fun _ => by omega)) (by simp only [upd, za, zaa]; exact rfl) ?_
        refine zai (zar (b := true) rfl rfl rfl) rfl rfl rfl (zap rfl fo26_0 (ev2 rfl)) (by simp only [upd, za, zaa]; exact rfl) ?_
        refine zai (zar (b := true) rfl rfl rfl) rfl rfl rfl (op_ldo rfl tb4 (ev2 rfl) rfl (frC_inp (j := k) (by omega) (by omega))) (by simp only [upd, za, zaa]; exact rfl) ?_
        refine zab rfl rfl rfl (zaz rfl (ev1 rfl) (ev3 rfl (fun _ => rfl))) ?_
        refine zae ?_
        refine zaw rfl (fun hin => ?_) (fun hin => ?_)
        · have hin : (f.st k).inn = true := hin
          refine zaj 1 (by simp only [holes, List.cons_append, List.nil_append]; exact rfl) ?_
          refine zac ?_
          refine zab rfl rfl rfl (zad (.inl rfl) (ev1 rfl)) ?_
          refine zab rfl rfl rfl (zad (.inl rfl) (ev1 rfl)) ?_
          refine zab rfl rfl rfl (op_bs (ps := [(0, .tmp 141)]) rfl sl31 zr3 rfl (vc (ev1 rfl) vn) rfl (by decide) (by decide)) ?_
          refine zam rfl rfl rfl (op_app (j := 2) rfl sl31 zr3 rfl (ev1 rfl) (ev1 rfl) src_slf rfl rfl (fun _ => rfl) (fun _ => ⟨by omega, by omega⟩)) (by simp only [upd, za, zaa]; exact rfl) ?_
          refine zab rfl rfl rfl (zad (.inr rfl) (ev1 rfl)) ?_
          refine zae ?_
          refine zac ?_
          refine zab rfl rfl rfl (zad (.inl rfl) (ev1 rfl)) ?_
          refine zab rfl rfl rfl (op_add' rfl (ev1 rfl) (ev1 rfl) (fun _ => IntWalk.i64_in _ (by omega))) ?_
          refine zab rfl rfl rfl (zad (.inr rfl) (ev1 rfl)) ?_
          refine zae ?_
          refine ⟨k + 1, [0, 2], ⟨by omega, by omega⟩, by simp only []; omega, rfl, ⟨rfl, rfl, rfl, rfl, rfl, rfl, trivial⟩, ⟨rfl, by rw [glTo_yes (p := fun i => (f.st i).inn) (k := k) hin, ← arrI_add]; rfl, trivial⟩⟩
        · have hin : (f.st k).inn = false := hin
          refine zak ?_
          refine zac ?_
          refine zab rfl rfl rfl (zad (.inl rfl) (ev1 rfl)) ?_
          refine zab rfl rfl rfl (op_add' rfl (ev1 rfl) (ev1 rfl) (fun _ => IntWalk.i64_in _ (by omega))) ?_
          refine zab rfl rfl rfl (zad (.inr rfl) (ev1 rfl)) ?_
          refine zae ?_
          refine ⟨k + 1, [0, 1], ⟨by omega, by omega⟩, by simp only []; omega, rfl, ⟨rfl, rfl, rfl, rfl, rfl, rfl, trivial⟩, ⟨rfl, by rw [glTo_no (p := fun i => (f.st i).inn) (k := k) hin]; rfl, trivial⟩⟩
      · try simp only [decide_eq_true_eq, decide_eq_false_iff_not, beq_iff_eq, bne_iff_ne, beq_eq_false_iff_ne, bne_eq_false_iff_eq, Bool.not_eq_true', Bool.not_eq_false', Bool.and_eq_true, Bool.or_eq_true, Bool.or_eq_false_iff, ne_eq, Decidable.not_not, Int.not_lt, Int.not_le] at c5
        refine dwp_exit ?_
        refine zaf ?_
        have hk9 : k = 9 := by omega
        subst hk9
        rw [glTo_all]
        refine zaj 1 (by simp only [holes, List.cons_append, List.nil_append]; exact rfl) ?_
        refine zac ?_
        refine zab rfl rfl rfl (zad (.inl rfl) (ev1 rfl)) ?_
        refine zab rfl rfl rfl (zad (.inl rfl) (ev1 rfl)) ?_
        refine zab rfl rfl rfl (op_len rfl sl31 (ev1 rfl)) ?_
        refine zab rfl rfl rfl (op_min rfl (ev1 rfl) (ev1 rfl)) ?_
        refine zab rfl rfl rfl (op_sltk (j := min s.length 10) rfl sl31 (ev1 rfl) (bd_some (ev1 rfl)) (fun _ => by omega) (fun _ => by omega) (fun _ => rfl)) ?_
        refine zam rfl rfl rfl (zah [] [] [2] rfl (ev1 rfl) (ec (ev1 rfl) en) rfl rfl (cloneI _ (by rw [List.length_take]; omega)) rfl rfl rfl rfl rfl rfl) (by simp only [upd, za, zaa]; exact rfl) ?_
        refine zab rfl rfl rfl (zad (.inr rfl) (ev1 rfl)) ?_
        refine zae ?_
        refine zaf ?_
        refine zaf ?_
        obtain ⟨r, hr⟩ : ∃ r, r = s.take (min s.length 10) := ⟨_, rfl⟩
        have hrl : r.length ≤ 10 := by rw [hr, List.length_take]; omega
        rw [← hr]
        refine zac ?_
        refine zab rfl rfl rfl (zad (.inl rfl) (ev1 rfl)) ?_
        refine zab rfl rfl rfl (op_lena rfl sl31 (ev1 rfl) rfl) ?_
        refine zab rfl rfl rfl (zad (.inl rfl) (ev1 rfl)) ?_
        refine zae ?_
        refine zat ?_
        refine dwp_adopt 22 3 1 rfl rfl rfl ?_
        refine dwp_loopS ⟨hs0, rfl⟩ (α := Nat) (fun k => [(152, .val (.int .i64 (k : Int)))]) [(2, _), (3, _), (7, _), (21, _), (22, _), (150, _), (151, _)] (fun k => [(3, .arr 3 1 ((r.take k).filter (inS f)).length (((r.take k).filter (inS f)).flatMap inI))]) [_, _, _, .hole] (fun k => k ≤ r.length) (fun k => r.length - k) 0 [0, 1, 2, 3] (by omega) rfl ⟨rfl, rfl, rfl, rfl, rfl, rfl, rfl, trivial⟩ ⟨rfl, trivial⟩ ⟨rfl, rfl, rfl, rfl, trivial⟩ ?_
        intro k hx
        simp only [upd, za, zaa, List.cons_append, List.nil_append]
        have hk := hx
        have hfl : ((r.take k).filter (inS f)).length ≤ 10 := Nat.le_trans (List.length_filter_le _ _) (by rw [List.length_take]; omega)
        refine zaf ?_
        refine zac ?_
        refine zab rfl rfl rfl (op_lss rfl (ev1 rfl) (ev1 rfl)) ?_
        refine zae ?_
        refine zaf ?_
        refine zaw rfl (fun c7 => ?_) (fun c7 => ?_)
        · try simp only [decide_eq_true_eq, decide_eq_false_iff_not, beq_iff_eq, bne_iff_ne, beq_eq_false_iff_ne, bne_eq_false_iff_eq, Bool.not_eq_true', Bool.not_eq_false', Bool.and_eq_true, Bool.or_eq_true, Bool.or_eq_false_iff, ne_eq, Decidable.not_not, Int.not_lt, Int.not_le] at c7
          refine zak ?_
          refine zaf ?_
          refine zat ?_
          refine zaf ?_
          refine zac ?_
          refine zab rfl rfl rfl (op_ixar (j := k) rfl sl31 (ev1 rfl) (ev1 rfl) rfl (fun _ => by first | rfl | omega) (fun _ => by omega)) ?_
          refine zab rfl rfl rfl (op_lda1 rfl tb3 (ev1 rfl) rfl (fun _ => rfl) (by omega) rfl) ?_
          refine zab rfl rfl rfl (zad (.inr rfl) (ev1 rfl)) ?_
          refine zae ?_
          refine zaf ?_
          refine zac ?_
          refine zab rfl rfl rfl (zad (.inl rfl) (ev1 rfl)) ?_
          refine zab rfl rfl rfl (zad (.inl rfl) (ev1 rfl)) ?_
          refine zab rfl rfl rfl (zah [] [1] [] rfl (ev1 rfl) (ec (ev1 rfl) (ec (ev1 rfl) en)) rfl rfl (contI (sitL f) _) rfl rfl rfl rfl rfl rfl) ?_
          refine zae ?_
          refine zaw rfl (fun hc => ?_) (fun hc => ?_)
          · have hc2 : inS f r[k] = true := by rw [← in_sitL hf]; exact hc
            refine zaj 1 (by simp only [holes, List.cons_append, List.nil_append]; exact rfl) ?_
            refine zac ?_
            refine zab rfl rfl rfl (zad (.inl rfl) (ev1 rfl)) ?_
            refine zab rfl rfl rfl (zad (.inl rfl) (ev1 rfl)) ?_
            refine zab rfl rfl rfl (op_bs (ps := [(0, .tmp 160)]) rfl sl31 zr3 rfl (vc (ev1 rfl) vn) rfl (by decide) (by decide)) ?_
            refine zam rfl rfl rfl (op_app (j := 4) rfl sl31 zr3 rfl (ev1 rfl) (ev1 rfl) src_slf rfl rfl (fun _ => rfl) (fun _ => ⟨by omega, by omega⟩)) (by simp only [upd, za, zaa]; exact rfl) ?_
            refine zab rfl rfl rfl (zad (.inr rfl) (ev1 rfl)) ?_
            refine zae ?_
            refine zac ?_
            refine zab rfl rfl rfl (op_add' rfl (ev1 rfl) (ev1 rfl) (fun _ => IntWalk.i64_in _ (by omega))) ?_
            refine zab rfl rfl rfl (zad (.inl rfl) (ev1 rfl)) ?_
            refine zae ?_
            refine ⟨k + 1, [0, 1, 2, 4], by omega, by simp only []; omega, rfl, ⟨rfl, rfl, rfl, rfl, rfl, rfl, rfl, rfl, trivial⟩, ⟨rfl, rfl, rfl, by rw [take_filt (by omega), if_pos hc2, ← arrI_add]; rfl, trivial⟩⟩
          · have hc2 : inS f r[k] = false := by rw [← in_sitL hf]; exact hc
            refine zak ?_
            refine zac ?_
            refine zab rfl rfl rfl (op_add' rfl (ev1 rfl) (ev1 rfl) (fun _ => IntWalk.i64_in _ (by omega))) ?_
            refine zab rfl rfl rfl (zad (.inl rfl) (ev1 rfl)) ?_
            refine zae ?_
            refine ⟨k + 1, [0, 1, 2, 3], by omega, by simp only []; omega, rfl, ⟨rfl, rfl, rfl, rfl, rfl, rfl, rfl, rfl, trivial⟩, ⟨rfl, rfl, rfl, by rw [take_filt (by omega), if_neg (by rw [hc2]; decide), List.append_nil]; rfl, trivial⟩⟩
        · try simp only [decide_eq_true_eq, decide_eq_false_iff_not, beq_iff_eq, bne_iff_ne, beq_eq_false_iff_ne, bne_eq_false_iff_eq, Bool.not_eq_true', Bool.not_eq_false', Bool.and_eq_true, Bool.or_eq_true, Bool.or_eq_false_iff, ne_eq, Decidable.not_not, Int.not_lt, Int.not_le] at c7
          refine dwp_exit ?_
          refine zaf ?_
          refine zaf ?_
          have hkr : k = r.length := by omega
          subst hkr
          rw [List.take_length]
          refine zac ?_
          refine zab rfl rfl rfl (zad (.inl rfl) (ev1 rfl)) ?_
          refine zab rfl rfl rfl (op_lena rfl sl31 (ev1 rfl) rfl) ?_
          refine zab rfl rfl rfl (zb rfl (ev1 rfl) (ev1 rfl)) ?_
          refine zae ?_
          refine zaw rfl (fun hr0 => ?_) (fun hr0 => ?_)
          · try simp only [decide_eq_true_eq, decide_eq_false_iff_not, beq_iff_eq, bne_iff_ne, beq_eq_false_iff_ne, bne_eq_false_iff_eq, Bool.not_eq_true', Bool.not_eq_false', Bool.and_eq_true, Bool.or_eq_true, Bool.or_eq_false_iff, ne_eq, Decidable.not_not, Int.not_lt, Int.not_le] at hr0
            refine zac ?_
            refine zab rfl rfl rfl (zad (.inl rfl) (ev1 rfl)) ?_
            refine zab rfl rfl rfl (zad (.inr rfl) (ev1 rfl)) ?_
            refine zae ?_
            refine zaf ?_
            refine zaj 1 (by simp only [holes, List.cons_append, List.nil_append]; exact rfl) ?_
            refine zac ?_
            refine zab rfl rfl rfl (zas rfl tb29 (ev1 rfl) rfl (zao _)) ?_
            refine zab rfl rfl rfl (zah [] [] [] rfl (ev1 rfl) (ec (ev1 rfl) en) rfl rfl (ris_ok f hf) rfl rfl rfl rfl rfl rfl) ?_
            refine zab rfl rfl rfl (zad (.inl rfl) (ev1 rfl)) ?_
            refine zab rfl rfl rfl (op_ext rfl (ev1 rfl) rfl) ?_
            refine zab rfl rfl rfl (op_ext rfl (ev1 rfl) rfl) ?_
            refine zam rfl rfl rfl (zaq 4 rfl zr29 rfl) (by simp only [upd, za, zaa]; exact rfl) ?_
            refine zax rfl rfl (op_stwa rfl tb29 (ev1 rfl) (ev1 rfl) rfl (zao _) (frC_oc _) rfl) (by simp only [upd, za, zaa]; exact rfl) ?_
            refine zab rfl rfl rfl (zad (.inr rfl) (ev1 rfl)) ?_
            refine zae ?_
            refine zaf ?_
            refine zaj 1 (by simp only [holes, List.cons_append, List.nil_append]; exact rfl) ?_
            refine zac ?_
            refine zam rfl rfl rfl (zaq 5 rfl zr29 rfl) (by simp only [upd, za, zaa]; exact rfl) ?_
            refine zae ?_
            refine zaf ?_
            refine zac ?_
            refine zab rfl rfl rfl (zad (.inr rfl) (ev1 rfl)) ?_
            refine zae ?_
            refine zaf ?_
            refine zaf ?_
            refine zac ?_
            refine zab rfl rfl rfl (zad (.inl rfl) (ev1 rfl)) ?_
            refine zae ?_
            refine dwp_if_t rfl (rfl) ?_
            refine zac ?_
            refine zab rfl rfl rfl (zas rfl tb29 (ev1 rfl) rfl (zao _)) ?_
            refine zab rfl rfl rfl (zah [] [] [] rfl (ev1 rfl) (ec (ev1 rfl) en) rfl rfl (refRis_d _) rfl rfl rfl rfl rfl rfl) ?_
            refine zax rfl rfl (op_stwa rfl tb29 (ev1 rfl) (ev1 rfl) rfl (zao _) (frC_oc _) rfl) (by simp only [upd, za, zaa]; exact rfl) ?_
            refine zab rfl rfl rfl (zad (.inr rfl) (ev1 rfl)) ?_
            refine zae ?_
            refine zaf ?_
            refine dwp_giveA 2 rfl rfl (by simp only [za, zaa]; exact rfl) ?_
            refine zac ?_
            refine zab rfl rfl rfl (zas rfl tb29 (ev1 rfl) rfl (zao _)) ?_
            refine zab rfl rfl rfl (zas rfl tb29 (ev1 rfl) rfl (zao _)) ?_
            refine zab rfl rfl rfl (op_eqr eq29 rfl gd29 tb29 (ev1 rfl) (ev1 rfl)) ?_
            refine zab rfl rfl rfl (zad (.inl rfl) (ev1 rfl)) ?_
            refine zag (zar rfl rfl rfl) rfl rfl rfl (zad (.inl rfl) (ev1 rfl)) ?_
            refine zag (zar rfl rfl rfl) rfl rfl rfl (zad (.inl rfl) (ev1 rfl)) ?_
            refine zag (zar rfl rfl rfl) rfl rfl rfl (zb rfl (ev2 rfl) (ev2 rfl)) ?_
            refine zab rfl rfl rfl (zaz rfl (ev1 rfl) (ev3 rfl id)) ?_
            refine zab rfl rfl rfl (zad (.inl rfl) (ev1 rfl)) ?_
            refine zag (zar rfl rfl rfl) rfl rfl rfl (zas rfl tb29 (ev1 rfl) rfl (zao _)) ?_
            refine zag (zar rfl rfl rfl) rfl rfl rfl (zah [] [] [] rfl (ev1 rfl) (ec (ev2 rfl) (ec (evnil 1 (ev1 rfl)) en)) rfl rfl (sit_d f [] (by simp)) rfl rfl rfl rfl rfl rfl) ?_
            refine zag (zar rfl rfl rfl) rfl rfl rfl (zad (.inl rfl) (ev1 rfl)) ?_
            refine zag (zar rfl rfl rfl) rfl rfl rfl (zah [] [1] [] rfl (ev1 rfl) (ec (ev2 rfl) (ec (ev2 rfl) en)) rfl rfl (equalI _ _) rfl rfl rfl rfl rfl rfl) ?_
            refine zab rfl rfl rfl (zaz rfl (ev1 rfl) (ev3 rfl id)) ?_
            refine zab rfl rfl rfl (zad (.inl rfl) (ev1 rfl)) ?_
            refine zag (zar rfl rfl rfl) rfl rfl rfl (zas rfl tb29 (ev1 rfl) rfl (zao _)) ?_
            refine zag (zar rfl rfl rfl) rfl rfl rfl (zad (.inl rfl) (ev1 rfl)) ?_
            refine zag (zar rfl rfl rfl) rfl rfl rfl (zah [] [] [] rfl (ev1 rfl) (ec (ev2 rfl) (ec (ev2 rfl) en)) rfl rfl (sit_d f r (by omega)) rfl rfl rfl rfl rfl rfl) ?_
            refine zag (zar rfl rfl rfl) rfl rfl rfl (zad (.inl rfl) (ev1 rfl)) ?_
            refine zag (zar rfl rfl rfl) rfl rfl rfl (zah [] [1] [] rfl (ev1 rfl) (ec (ev2 rfl) (ec (ev2 rfl) en)) rfl rfl (equalI _ _) rfl rfl rfl rfl rfl rfl) ?_
            refine zab rfl rfl rfl (zaz rfl (ev1 rfl) (ev3 rfl id)) ?_
            refine zab rfl rfl rfl (zad (.inr rfl) (ev1 rfl)) ?_
            refine zae ?_
            refine zau ?_
            refine kend0 (rs1 rfl (rv_t rfl)) rfl ?_
            have hr1 : r = [] := List.eq_nil_of_length_eq_zero (by omega)
            rw [hr1, sitF_nil hf, eqF_refl]
            simp
          · try simp only [decide_eq_true_eq, decide_eq_false_iff_not, beq_iff_eq, bne_iff_ne, beq_eq_false_iff_ne, bne_eq_false_iff_eq, Bool.not_eq_true', Bool.not_eq_false', Bool.and_eq_true, Bool.or_eq_true, Bool.or_eq_false_iff, ne_eq, Decidable.not_not, Int.not_lt, Int.not_le] at hr0
            refine zak ?_
            refine zaf ?_
            refine zaj 1 (by simp only [holes, List.cons_append, List.nil_append]; exact rfl) ?_
            refine zac ?_
            refine zab rfl rfl rfl (zas rfl tb29 (ev1 rfl) rfl (zao _)) ?_
            refine zab rfl rfl rfl (zah [] [] [] rfl (ev1 rfl) (ec (ev1 rfl) en) rfl rfl (ris_ok f hf) rfl rfl rfl rfl rfl rfl) ?_
            refine zab rfl rfl rfl (zad (.inl rfl) (ev1 rfl)) ?_
            refine zab rfl rfl rfl (op_ext rfl (ev1 rfl) rfl) ?_
            refine zab rfl rfl rfl (op_ext rfl (ev1 rfl) rfl) ?_
            refine zam rfl rfl rfl (zaq 4 rfl zr29 rfl) (by simp only [upd, za, zaa]; exact rfl) ?_
            refine zax rfl rfl (op_stwa rfl tb29 (ev1 rfl) (ev1 rfl) rfl (zao _) (frC_oc _) rfl) (by simp only [upd, za, zaa]; exact rfl) ?_
            refine zab rfl rfl rfl (zad (.inr rfl) (ev1 rfl)) ?_
            refine zae ?_
            refine zaf ?_
            refine zaj 1 (by simp only [holes, List.cons_append, List.nil_append]; exact rfl) ?_
            refine zac ?_
            refine zam rfl rfl rfl (zaq 5 rfl zr29 rfl) (by simp only [upd, za, zaa]; exact rfl) ?_
            refine zae ?_
            refine zaf ?_
            refine zac ?_
            refine zab rfl rfl rfl (zad (.inr rfl) (ev1 rfl)) ?_
            refine zae ?_
            refine zaf ?_
            refine zaf ?_
            refine zac ?_
            refine zab rfl rfl rfl (zad (.inl rfl) (ev1 rfl)) ?_
            refine zae ?_
            refine dwp_if_t rfl (rfl) ?_
            refine zac ?_
            refine zab rfl rfl rfl (zas rfl tb29 (ev1 rfl) rfl (zao _)) ?_
            refine zab rfl rfl rfl (zah [] [] [] rfl (ev1 rfl) (ec (ev1 rfl) en) rfl rfl (refRis_d _) rfl rfl rfl rfl rfl rfl) ?_
            refine zax rfl rfl (op_stwa rfl tb29 (ev1 rfl) (ev1 rfl) rfl (zao _) (frC_oc _) rfl) (by simp only [upd, za, zaa]; exact rfl) ?_
            refine zab rfl rfl rfl (zad (.inr rfl) (ev1 rfl)) ?_
            refine zae ?_
            refine zaf ?_
            refine dwp_giveA 2 rfl rfl (by simp only [za, zaa]; exact rfl) ?_
            refine zac ?_
            refine zab rfl rfl rfl (zas rfl tb29 (ev1 rfl) rfl (zao _)) ?_
            refine zab rfl rfl rfl (zas rfl tb29 (ev1 rfl) rfl (zao _)) ?_
            refine zab rfl rfl rfl (op_eqr eq29 rfl gd29 tb29 (ev1 rfl) (ev1 rfl)) ?_
            refine zab rfl rfl rfl (zad (.inl rfl) (ev1 rfl)) ?_
            refine zag (zar rfl rfl rfl) rfl rfl rfl (zad (.inl rfl) (ev1 rfl)) ?_
            refine zag (zar rfl rfl rfl) rfl rfl rfl (zad (.inl rfl) (ev1 rfl)) ?_
            refine zag (zar rfl rfl rfl) rfl rfl rfl (zb rfl (ev2 rfl) (ev2 rfl)) ?_
            refine zab rfl rfl rfl (zaz rfl (ev1 rfl) (ev3 rfl id)) ?_
            refine zab rfl rfl rfl (zad (.inl rfl) (ev1 rfl)) ?_
            refine zag (zar rfl rfl rfl) rfl rfl rfl (zas rfl tb29 (ev1 rfl) rfl (zao _)) ?_
            refine zag (zar rfl rfl rfl) rfl rfl rfl (zah [] [] [] rfl (ev1 rfl) (ec (ev2 rfl) (ec (evnil 1 (ev1 rfl)) en)) rfl rfl (sit_d f [] (by simp)) rfl rfl rfl rfl rfl rfl) ?_
            refine zag (zar rfl rfl rfl) rfl rfl rfl (zad (.inl rfl) (ev1 rfl)) ?_
            refine zag (zar rfl rfl rfl) rfl rfl rfl (zah [] [1] [] rfl (ev1 rfl) (ec (ev2 rfl) (ec (ev2 rfl) en)) rfl rfl (equalI _ _) rfl rfl rfl rfl rfl rfl) ?_
            refine zab rfl rfl rfl (zaz rfl (ev1 rfl) (ev3 rfl id)) ?_
            refine zab rfl rfl rfl (zad (.inl rfl) (ev1 rfl)) ?_
            refine zag (zar rfl rfl rfl) rfl rfl rfl (zas rfl tb29 (ev1 rfl) rfl (zao _)) ?_
            refine zag (zar rfl rfl rfl) rfl rfl rfl (zad (.inl rfl) (ev1 rfl)) ?_
            refine zag (zar rfl rfl rfl) rfl rfl rfl (zah [] [] [] rfl (ev1 rfl) (ec (ev2 rfl) (ec (ev2 rfl) en)) rfl rfl (sit_d f r (by omega)) rfl rfl rfl rfl rfl rfl) ?_
            refine zag (zar rfl rfl rfl) rfl rfl rfl (zad (.inl rfl) (ev1 rfl)) ?_
            refine zag (zar rfl rfl rfl) rfl rfl rfl (zah [] [3] [] rfl (ev1 rfl) (ec (ev2 rfl) (ec (ev2 rfl) en)) rfl rfl (equalI _ _) rfl rfl rfl rfl rfl rfl) ?_
            refine zab rfl rfl rfl (zaz rfl (ev1 rfl) (ev3 rfl id)) ?_
            refine zab rfl rfl rfl (zad (.inr rfl) (ev1 rfl)) ?_
            refine zae ?_
            refine zau ?_
            refine kend0 (rs1 rfl (rv_t rfl)) rfl ?_
            rw [sitF_nil hf, sitF_some hf (by omega), eqF_refl]
            simp
    · try simp only [decide_eq_true_eq, decide_eq_false_iff_not, beq_iff_eq, bne_iff_ne, beq_eq_false_iff_ne, bne_eq_false_iff_eq, Bool.not_eq_true', Bool.not_eq_false', Bool.and_eq_true, Bool.or_eq_true, Bool.or_eq_false_iff, ne_eq, Decidable.not_not, Int.not_lt, Int.not_le] at c4
      refine zak ?_
      refine zaf ?_
      by_cases hv : vB vs[k] = true
      · refine zac ?_
        refine zab rfl rfl rfl (zad (.inl rfl) (ev1 rfl)) ?_
        refine zab rfl rfl rfl (zad (.inl rfl) (ev1 rfl)) ?_
        refine zai (zar (b := true) rfl rfl rfl) rfl rfl rfl (zas rfl tb24 (ev1 rfl) rfl rfl) (by simp only [upd, za, zaa]; exact rfl) ?_
        refine zai (zar (b := true) rfl rfl rfl) rfl rfl rfl ((zah [] [] [] rfl (ev1 rfl) (ec (ev2 rfl) en) rfl rfl (refVR_d _) rfl rfl rfl rfl rfl rfl).cast (d' := .val (.bool true)) (by rw [hv])) (by simp only [upd, za, zaa]; exact rfl) ?_
        refine zab rfl rfl rfl ((zaz rfl (ev1 rfl) (ev3 rfl (fun _ => rfl))).cast (d' := .val (.bool true)) (by rfl)) ?_
        refine zab rfl rfl rfl (zad (.inr rfl) (ev1 rfl)) ?_
        refine zae ?_
        refine zaf ?_
        refine zaj 1 (by simp only [holes, List.cons_append, List.nil_append]; exact rfl) ?_
        refine zac ?_
        refine zab rfl rfl rfl (zas rfl tb29 (ev1 rfl) rfl (zao _)) ?_
        refine zab rfl rfl rfl (zas rfl tb24 (ev1 rfl) rfl rfl) ?_
        refine zab rfl rfl rfl (zah [] [] [] rfl (ev1 rfl) (ec (ev1 rfl) (ec (ev1 rfl) en)) rfl rfl (rdy_d _ _) rfl rfl rfl rfl rfl rfl) ?_
        refine zab rfl rfl rfl (zad (.inl rfl) (ev1 rfl)) ?_
        refine zab rfl rfl rfl (op_ext rfl (ev1 rfl) rfl) ?_
        refine zab rfl rfl rfl (op_ext rfl (ev1 rfl) rfl) ?_
        refine zam rfl rfl rfl (zaq 2 rfl zr24 rfl) (by simp only [upd, za, zaa]; exact rfl) ?_
        refine zax rfl rfl (op_stwa rfl tb24 (ev1 rfl) (ev1 rfl) rfl rfl rfl rfl) (by simp only [upd, za, zaa]; exact rfl) ?_
        refine zab rfl rfl rfl (zad (.inr rfl) (ev1 rfl)) ?_
        refine zae ?_
        refine zaf ?_
        refine zaj 1 (by simp only [holes, List.cons_append, List.nil_append]; exact rfl) ?_
        refine zac ?_
        refine zab rfl rfl rfl (zas rfl tb29 (ev1 rfl) rfl (zao _)) ?_
        refine zab rfl rfl rfl (zas rfl tb24 (ev1 rfl) rfl rfl) ?_
        refine zab rfl rfl rfl (zah [] [] [] rfl (ev1 rfl) (ec (ev1 rfl) (ec (ev1 rfl) en)) rfl rfl (fol_d _ _) rfl rfl rfl rfl rfl rfl) ?_
        refine zab rfl rfl rfl (zad (.inl rfl) (ev1 rfl)) ?_
        refine zab rfl rfl rfl (op_ext rfl (ev1 rfl) rfl) ?_
        refine zab rfl rfl rfl (op_ext rfl (ev1 rfl) rfl) ?_
        refine zam rfl rfl rfl (zaq 3 rfl zr29 rfl) (by simp only [upd, za, zaa]; exact rfl) ?_
        refine zax rfl rfl (op_stwa rfl tb29 (ev1 rfl) (ev1 rfl) rfl (zao _) (frC_oc _) rfl) (by simp only [upd, za, zaa]; exact rfl) ?_
        refine zab rfl rfl rfl (zad (.inr rfl) (ev1 rfl)) ?_
        refine zae ?_
        refine zaf ?_
        refine zaj 1 (by simp only [holes, List.cons_append, List.nil_append]; exact rfl) ?_
        refine zac ?_
        refine zam rfl rfl rfl (zaq 4 rfl zr24 rfl) (by simp only [upd, za, zaa]; exact rfl) ?_
        refine zae ?_
        refine zaf ?_
        refine zaj 1 (by simp only [holes, List.cons_append, List.nil_append]; exact rfl) ?_
        refine zac ?_
        refine zam rfl rfl rfl (zaq 5 rfl zr29 rfl) (by simp only [upd, za, zaa]; exact rfl) ?_
        refine zae ?_
        refine zaf ?_
        refine zac ?_
        refine zab rfl rfl rfl (zad (.inr rfl) (ev1 rfl)) ?_
        refine zae ?_
        refine zaf ?_
        refine zac ?_
        refine zab rfl rfl rfl (zad (.inr rfl) (ev1 rfl)) ?_
        refine zae ?_
        refine zaf ?_
        refine zaf ?_
        refine zac ?_
        refine zab rfl rfl rfl (zad (.inl rfl) (ev1 rfl)) ?_
        refine zae ?_
        refine dwp_if_t rfl (rfl) ?_
        refine zaf ?_
        refine zac ?_
        refine zab rfl rfl rfl (zad (.inr rfl) (ev1 rfl)) ?_
        refine zae ?_
        refine zaf ?_
        refine zac ?_
        refine zab rfl rfl rfl (zad (.inl rfl) (ev1 rfl)) ?_
        refine zae ?_
        refine dwp_if_t rfl (rfl) ?_
        refine zac ?_
        refine zab rfl rfl rfl (zad (.inr rfl) (ev1 rfl)) ?_
        refine zae ?_
        refine zaf ?_
        refine zaf ?_
        by_cases hp : 0 < f.pr
        · refine zac ?_
          refine zab rfl rfl rfl (zad (.inl rfl) (ev1 rfl)) ?_
          refine zab rfl rfl rfl (zad (.inl rfl) (ev1 rfl)) ?_
          refine zai (zar (b := true) rfl rfl rfl) rfl rfl rfl (zap rfl fo29_2 (ev1 rfl)) (by simp only [upd, za, zaa]; exact rfl) ?_
          refine zai (zar (b := true) rfl rfl rfl) rfl rfl rfl (op_ldo rfl tb22 (ev2 rfl) rfl (frC_pr _)) (by simp only [upd, za, zaa]; exact rfl) ?_
          refine zai (zar (b := true) rfl rfl rfl) rfl rfl rfl ((op_gtr rfl (ev2 rfl) (ev1 rfl)).cast (d' := .val (.bool true)) (by rw [decide_eq_true (show (0 : Int) < (f.pr : Int) by omega)])) (by simp only [upd, za, zaa]; exact rfl) ?_
          refine zab rfl rfl rfl ((zaz rfl (ev1 rfl) (ev3 rfl (fun _ => rfl))).cast (d' := .val (.bool true)) (by rfl)) ?_
          refine zae ?_
          refine dwp_if_t rfl (rfl) ?_
          refine zac ?_
          refine zab rfl rfl rfl (zas rfl tb29 (ev1 rfl) rfl (zao _)) ?_
          refine zab rfl rfl rfl (zas rfl tb24 (ev1 rfl) rfl rfl) ?_
          refine zab rfl rfl rfl (zah [] [] [] rfl (ev1 rfl) (ec (ev1 rfl) (ec (ev1 rfl) en)) rfl rfl (refWai_d _ _) rfl rfl rfl rfl rfl rfl) ?_
          refine zab rfl rfl rfl (zad (.inr rfl) (ev1 rfl)) ?_
          refine zae ?_
          refine zaf ?_
          by_cases hr : readyB f vs[k] = true
          · refine zac ?_
            refine zab rfl rfl rfl (zad (.inl rfl) (ev1 rfl)) ?_
            refine zab rfl rfl rfl (zad (.inl rfl) (ev1 rfl)) ?_
            refine zai (zar (b := true) rfl rfl rfl) rfl rfl rfl (zas rfl tb29 (ev1 rfl) rfl (zao _)) (by simp only [upd, za, zaa]; exact rfl) ?_
            refine zai (zar (b := true) rfl rfl rfl) rfl rfl rfl (zas rfl tb24 (ev1 rfl) rfl rfl) (by simp only [upd, za, zaa]; exact rfl) ?_
            refine zai (zar (b := true) rfl rfl rfl) rfl rfl rfl ((zah [] [] [] rfl (ev1 rfl) (ec (ev2 rfl) (ec (ev2 rfl) en)) rfl rfl (refRdy_d _ _) rfl rfl rfl rfl rfl rfl).cast (d' := .val (.bool true)) (by rw [hr])) (by simp only [upd, za, zaa]; exact rfl) ?_
            refine zab rfl rfl rfl ((zaz rfl (ev1 rfl) (ev3 rfl (fun _ => rfl))).cast (d' := .val (.bool true)) (by rfl)) ?_
            refine zab rfl rfl rfl (zad (.inr rfl) (ev1 rfl)) ?_
            refine zae ?_
            refine zaf ?_
            refine zaf ?_
            refine zac ?_
            refine zab rfl rfl rfl (zad (.inl rfl) (ev1 rfl)) ?_
            refine zae ?_
            refine dwp_if_t rfl (rfl) ?_
            refine dwp_draw [([0], []), ([], []), ([0], []), ([], []), ([4], [4]), ([5], [5]), ([], [])] mixed (by kernel_rfl) ?_
            refine lex_r rfl rfl (zas rfl tb29 (ev1 rfl) rfl (zao _)) ?_
            refine lex_r rfl rfl (zah [] [] [] rfl (ev1 rfl) (ec (ev1 rfl) en) rfl rfl (refAsk_d _) rfl rfl rfl rfl rfl rfl) ?_
            refine lex_r rfl rfl (zas rfl tb29 (ev1 rfl) rfl (zao _)) ?_
            refine lex_r rfl rfl (zah [] [] [] rfl (ev1 rfl) (ec (ev1 rfl) en) rfl rfl (refFol_d _) rfl rfl rfl rfl rfl rfl) ?_
            refine lex_s rfl rfl (op_stwa rfl tb24 (ev1 rfl) (ev1 rfl) rfl rfl rfl rfl) rfl (by simp only [upd, za, zaa]; exact rfl) ?_
            refine lex_s rfl rfl (op_stwa rfl tb29 (ev1 rfl) (ev1 rfl) rfl (zao _) (frC_oc _) rfl) rfl (by simp only [upd, za, zaa]; exact rfl) ?_
            refine lex_r rfl rfl (zad (.inr rfl) (ev1 rfl)) ?_
            refine lex_nil ?_
            refine zaf ?_
            refine zac ?_
            refine zab rfl rfl rfl (zas rfl tb24 (ev1 rfl) rfl rfl) ?_
            refine zab rfl rfl rfl (zas rfl tb24 (ev1 rfl) rfl rfl) ?_
            refine zab rfl rfl rfl (op_ner eq24 rfl gd24 tb24 (ev1 rfl) (ev1 rfl)) ?_
            refine zab rfl rfl rfl (zad (.inl rfl) (ev1 rfl)) ?_
            refine zag (zan rfl rfl rfl) rfl rfl rfl (zad (.inl rfl) (ev1 rfl)) ?_
            refine zag (zan rfl rfl rfl) rfl rfl rfl (zad (.inl rfl) (ev1 rfl)) ?_
            refine zag (zan rfl rfl rfl) rfl rfl rfl (op_neb rfl un4 (ev2 rfl) (ev2 rfl)) ?_
            refine zab rfl rfl rfl (op_or rfl (ev1 rfl) (ev3 rfl id)) ?_
            refine zab rfl rfl rfl (zad (.inl rfl) (ev1 rfl)) ?_
            refine zag (zan rfl rfl rfl) rfl rfl rfl (zas rfl tb29 (ev1 rfl) rfl (zao _)) ?_
            refine zag (zan rfl rfl rfl) rfl rfl rfl (zas rfl tb29 (ev1 rfl) rfl (zao _)) ?_
            refine zag (zan rfl rfl rfl) rfl rfl rfl (op_ner eq29 rfl gd29 tb29 (ev2 rfl) (ev2 rfl)) ?_
            refine zab rfl rfl rfl (op_or rfl (ev1 rfl) (ev3 rfl id)) ?_
            refine zab rfl rfl rfl (zad (.inl rfl) (ev1 rfl)) ?_
            refine zag (zan rfl rfl rfl) rfl rfl rfl (zad (.inl rfl) (ev1 rfl)) ?_
            refine zag (zan rfl rfl rfl) rfl rfl rfl (zad (.inl rfl) (ev1 rfl)) ?_
            refine zag (zan rfl rfl rfl) rfl rfl rfl (op_neq rfl (ev2 rfl) (ev2 rfl)) ?_
            refine zab rfl rfl rfl (op_or rfl (ev1 rfl) (ev3 rfl id)) ?_
            refine zab rfl rfl rfl (zad (.inl rfl) (ev1 rfl)) ?_
            refine zag (zan rfl rfl rfl) rfl rfl rfl (zas rfl tb29 (ev1 rfl) rfl (zao _)) ?_
            refine zag (zan rfl rfl rfl) rfl rfl rfl (zas rfl tb24 (ev1 rfl) rfl rfl) ?_
            refine zag (zan rfl rfl rfl) rfl rfl rfl (zah [] [] [] rfl (ev1 rfl) (ec (ev2 rfl) (ec (ev2 rfl) en)) rfl rfl (wai_d _ _) rfl rfl rfl rfl rfl rfl) ?_
            refine zag (zan rfl rfl rfl) rfl rfl rfl (zad (.inl rfl) (ev1 rfl)) ?_
            refine zag (zan rfl rfl rfl) rfl rfl rfl (zah [] [] [] rfl (ev1 rfl) (ec (ev2 rfl) (ec (ev2 rfl) en)) rfl rfl (equalI _ _) rfl rfl rfl rfl rfl rfl) ?_
            refine zag (zan rfl rfl rfl) rfl rfl rfl (op_not rfl (ev2 rfl)) ?_
            refine zab rfl rfl rfl (op_or rfl (ev1 rfl) (ev3 rfl id)) ?_
            refine zae ?_
            refine dwp_if_f rfl (by rw [rdyF_yes hf hv hr, folF_y hf hv hr, waiF_set hf hv hp, eqV_refl, eqF_refl]; simp) ?_
            refine zak ?_
            refine zac ?_
            refine zab rfl rfl rfl (op_add' rfl (ev1 rfl) (ev1 rfl) (fun _ => IntWalk.i64_in _ (by omega))) ?_
            refine zab rfl rfl rfl (zad (.inl rfl) (ev1 rfl)) ?_
            refine zae ?_
            refine ⟨k + 1, [0], ⟨by omega, by omega⟩, by simp only []; omega, rfl, ⟨rfl, rfl, rfl, rfl, rfl, rfl, trivial⟩, ⟨rfl, trivial⟩⟩
          · refine zac ?_
            refine zab rfl rfl rfl (zad (.inl rfl) (ev1 rfl)) ?_
            refine zab rfl rfl rfl (zad (.inl rfl) (ev1 rfl)) ?_
            refine zai (zar (b := true) rfl rfl rfl) rfl rfl rfl (zas rfl tb29 (ev1 rfl) rfl (zao _)) (by simp only [upd, za, zaa]; exact rfl) ?_
            refine zai (zar (b := true) rfl rfl rfl) rfl rfl rfl (zas rfl tb24 (ev1 rfl) rfl rfl) (by simp only [upd, za, zaa]; exact rfl) ?_
            refine zai (zar (b := true) rfl rfl rfl) rfl rfl rfl ((zah [] [] [] rfl (ev1 rfl) (ec (ev2 rfl) (ec (ev2 rfl) en)) rfl rfl (refRdy_d _ _) rfl rfl rfl rfl rfl rfl).cast (d' := .val (.bool false)) (by rw [show readyB f vs[k] = false by simpa using hr])) (by simp only [upd, za, zaa]; exact rfl) ?_
            refine zab rfl rfl rfl ((zaz rfl (ev1 rfl) (ev3 rfl (fun _ => rfl))).cast (d' := .val (.bool false)) (by rfl)) ?_
            refine zab rfl rfl rfl (zad (.inr rfl) (ev1 rfl)) ?_
            refine zae ?_
            refine zaf ?_
            refine zaf ?_
            refine zac ?_
            refine zab rfl rfl rfl (zad (.inl rfl) (ev1 rfl)) ?_
            refine zae ?_
            refine dwp_if_f rfl (rfl) ?_
            refine zak ?_
            refine zaf ?_
            have hr2 : readyB f vs[k] = false := by simpa using hr
            refine zac ?_
            refine zab rfl rfl rfl (zas rfl tb24 (ev1 rfl) rfl rfl) ?_
            refine zab rfl rfl rfl (zas rfl tb24 (ev1 rfl) rfl rfl) ?_
            refine zab rfl rfl rfl (op_ner eq24 rfl gd24 tb24 (ev1 rfl) (ev1 rfl)) ?_
            refine zab rfl rfl rfl (zad (.inl rfl) (ev1 rfl)) ?_
            refine zag (zan rfl rfl rfl) rfl rfl rfl (zad (.inl rfl) (ev1 rfl)) ?_
            refine zag (zan rfl rfl rfl) rfl rfl rfl (zad (.inl rfl) (ev1 rfl)) ?_
            refine zag (zan rfl rfl rfl) rfl rfl rfl (op_neb rfl un4 (ev2 rfl) (ev2 rfl)) ?_
            refine zab rfl rfl rfl (op_or rfl (ev1 rfl) (ev3 rfl id)) ?_
            refine zab rfl rfl rfl (zad (.inl rfl) (ev1 rfl)) ?_
            refine zag (zan rfl rfl rfl) rfl rfl rfl (zas rfl tb29 (ev1 rfl) rfl (zao _)) ?_
            refine zag (zan rfl rfl rfl) rfl rfl rfl (zas rfl tb29 (ev1 rfl) rfl (zao _)) ?_
            refine zag (zan rfl rfl rfl) rfl rfl rfl (op_ner eq29 rfl gd29 tb29 (ev2 rfl) (ev2 rfl)) ?_
            refine zab rfl rfl rfl (op_or rfl (ev1 rfl) (ev3 rfl id)) ?_
            refine zab rfl rfl rfl (zad (.inl rfl) (ev1 rfl)) ?_
            refine zag (zan rfl rfl rfl) rfl rfl rfl (zad (.inl rfl) (ev1 rfl)) ?_
            refine zag (zan rfl rfl rfl) rfl rfl rfl (zad (.inl rfl) (ev1 rfl)) ?_
            refine zag (zan rfl rfl rfl) rfl rfl rfl (op_neq rfl (ev2 rfl) (ev2 rfl)) ?_
            refine zab rfl rfl rfl (op_or rfl (ev1 rfl) (ev3 rfl id)) ?_
            refine zab rfl rfl rfl (zad (.inl rfl) (ev1 rfl)) ?_
            refine zag (zan rfl rfl rfl) rfl rfl rfl (zas rfl tb29 (ev1 rfl) rfl (zao _)) ?_
            refine zag (zan rfl rfl rfl) rfl rfl rfl (zas rfl tb24 (ev1 rfl) rfl rfl) ?_
            refine zag (zan rfl rfl rfl) rfl rfl rfl (zah [] [] [] rfl (ev1 rfl) (ec (ev2 rfl) (ec (ev2 rfl) en)) rfl rfl (wai_d _ _) rfl rfl rfl rfl rfl rfl) ?_
            refine zag (zan rfl rfl rfl) rfl rfl rfl (zad (.inl rfl) (ev1 rfl)) ?_
            refine zag (zan rfl rfl rfl) rfl rfl rfl (zah [] [] [] rfl (ev1 rfl) (ec (ev2 rfl) (ec (ev2 rfl) en)) rfl rfl (equalI _ _) rfl rfl rfl rfl rfl rfl) ?_
            refine zag (zan rfl rfl rfl) rfl rfl rfl (op_not rfl (ev2 rfl)) ?_
            refine zab rfl rfl rfl (op_or rfl (ev1 rfl) (ev3 rfl id)) ?_
            refine zae ?_
            refine dwp_if_f rfl (by rw [rdyF_no hr2, folF_n hf hv hr2, waiF_set hf hv hp, eqV_refl, eqF_refl]; simp) ?_
            refine zak ?_
            refine zac ?_
            refine zab rfl rfl rfl (op_add' rfl (ev1 rfl) (ev1 rfl) (fun _ => IntWalk.i64_in _ (by omega))) ?_
            refine zab rfl rfl rfl (zad (.inl rfl) (ev1 rfl)) ?_
            refine zae ?_
            refine ⟨k + 1, [0], ⟨by omega, by omega⟩, by simp only []; omega, rfl, ⟨rfl, rfl, rfl, rfl, rfl, rfl, trivial⟩, ⟨rfl, trivial⟩⟩
        · refine zac ?_
          refine zab rfl rfl rfl (zad (.inl rfl) (ev1 rfl)) ?_
          refine zab rfl rfl rfl (zad (.inl rfl) (ev1 rfl)) ?_
          refine zai (zar (b := true) rfl rfl rfl) rfl rfl rfl (zap rfl fo29_2 (ev1 rfl)) (by simp only [upd, za, zaa]; exact rfl) ?_
          refine zai (zar (b := true) rfl rfl rfl) rfl rfl rfl (op_ldo rfl tb22 (ev2 rfl) rfl (frC_pr _)) (by simp only [upd, za, zaa]; exact rfl) ?_
          refine zai (zar (b := true) rfl rfl rfl) rfl rfl rfl ((op_gtr rfl (ev2 rfl) (ev1 rfl)).cast (d' := .val (.bool false)) (by rw [decide_eq_false (show ¬ (0 : Int) < (f.pr : Int) by omega)])) (by simp only [upd, za, zaa]; exact rfl) ?_
          refine zab rfl rfl rfl ((zaz rfl (ev1 rfl) (ev3 rfl (fun _ => rfl))).cast (d' := .val (.bool false)) (by rfl)) ?_
          refine zae ?_
          refine dwp_if_f rfl (rfl) ?_
          refine zak ?_
          refine zaf ?_
          by_cases hr : readyB f vs[k] = true
          · exact absurd (readyB_pr hr) hp
          · refine zac ?_
            refine zab rfl rfl rfl (zad (.inl rfl) (ev1 rfl)) ?_
            refine zab rfl rfl rfl (zad (.inl rfl) (ev1 rfl)) ?_
            refine zai (zar (b := true) rfl rfl rfl) rfl rfl rfl (zas rfl tb29 (ev1 rfl) rfl (zao _)) (by simp only [upd, za, zaa]; exact rfl) ?_
            refine zai (zar (b := true) rfl rfl rfl) rfl rfl rfl (zas rfl tb24 (ev1 rfl) rfl rfl) (by simp only [upd, za, zaa]; exact rfl) ?_
            refine zai (zar (b := true) rfl rfl rfl) rfl rfl rfl ((zah [] [] [] rfl (ev1 rfl) (ec (ev2 rfl) (ec (ev2 rfl) en)) rfl rfl (refRdy_d _ _) rfl rfl rfl rfl rfl rfl).cast (d' := .val (.bool false)) (by rw [show readyB f vs[k] = false by simpa using hr])) (by simp only [upd, za, zaa]; exact rfl) ?_
            refine zab rfl rfl rfl ((zaz rfl (ev1 rfl) (ev3 rfl (fun _ => rfl))).cast (d' := .val (.bool false)) (by rfl)) ?_
            refine zab rfl rfl rfl (zad (.inr rfl) (ev1 rfl)) ?_
            refine zae ?_
            refine zaf ?_
            refine zaf ?_
            refine zac ?_
            refine zab rfl rfl rfl (zad (.inl rfl) (ev1 rfl)) ?_
            refine zae ?_
            refine dwp_if_f rfl (rfl) ?_
            refine zak ?_
            refine zaf ?_
            have hr2 : readyB f vs[k] = false := by simpa using hr
            refine zac ?_
            refine zab rfl rfl rfl (zas rfl tb24 (ev1 rfl) rfl rfl) ?_
            refine zab rfl rfl rfl (zas rfl tb24 (ev1 rfl) rfl rfl) ?_
            refine zab rfl rfl rfl (op_ner eq24 rfl gd24 tb24 (ev1 rfl) (ev1 rfl)) ?_
            refine zab rfl rfl rfl (zad (.inl rfl) (ev1 rfl)) ?_
            refine zag (zan rfl rfl rfl) rfl rfl rfl (zad (.inl rfl) (ev1 rfl)) ?_
            refine zag (zan rfl rfl rfl) rfl rfl rfl (zad (.inl rfl) (ev1 rfl)) ?_
            refine zag (zan rfl rfl rfl) rfl rfl rfl (op_neb rfl un4 (ev2 rfl) (ev2 rfl)) ?_
            refine zab rfl rfl rfl (op_or rfl (ev1 rfl) (ev3 rfl id)) ?_
            refine zab rfl rfl rfl (zad (.inl rfl) (ev1 rfl)) ?_
            refine zag (zan rfl rfl rfl) rfl rfl rfl (zas rfl tb29 (ev1 rfl) rfl (zao _)) ?_
            refine zag (zan rfl rfl rfl) rfl rfl rfl (zas rfl tb29 (ev1 rfl) rfl (zao _)) ?_
            refine zag (zan rfl rfl rfl) rfl rfl rfl (op_ner eq29 rfl gd29 tb29 (ev2 rfl) (ev2 rfl)) ?_
            refine zab rfl rfl rfl (op_or rfl (ev1 rfl) (ev3 rfl id)) ?_
            refine zab rfl rfl rfl (zad (.inl rfl) (ev1 rfl)) ?_
            refine zag (zan rfl rfl rfl) rfl rfl rfl (zad (.inl rfl) (ev1 rfl)) ?_
            refine zag (zan rfl rfl rfl) rfl rfl rfl (zad (.inl rfl) (ev1 rfl)) ?_
            refine zag (zan rfl rfl rfl) rfl rfl rfl (op_neq rfl (ev2 rfl) (ev2 rfl)) ?_
            refine zab rfl rfl rfl (op_or rfl (ev1 rfl) (ev3 rfl id)) ?_
            refine zab rfl rfl rfl (zad (.inl rfl) (ev1 rfl)) ?_
            refine zag (zan rfl rfl rfl) rfl rfl rfl (zas rfl tb29 (ev1 rfl) rfl (zao _)) ?_
            refine zag (zan rfl rfl rfl) rfl rfl rfl (zas rfl tb24 (ev1 rfl) rfl rfl) ?_
            refine zag (zan rfl rfl rfl) rfl rfl rfl (zah [] [] [] rfl (ev1 rfl) (ec (ev2 rfl) (ec (ev2 rfl) en)) rfl rfl (wai_d _ _) rfl rfl rfl rfl rfl rfl) ?_
            refine zag (zan rfl rfl rfl) rfl rfl rfl (zad (.inl rfl) (ev1 rfl)) ?_
            refine zag (zan rfl rfl rfl) rfl rfl rfl (zah [] [] [] rfl (ev1 rfl) (ec (ev2 rfl) (ec (evnil 1 (ev2 rfl)) en)) rfl rfl (equalI _ []) rfl rfl rfl rfl rfl rfl) ?_
            refine zag (zan rfl rfl rfl) rfl rfl rfl (op_not rfl (ev2 rfl)) ?_
            refine zab rfl rfl rfl (op_or rfl (ev1 rfl) (ev3 rfl id)) ?_
            refine zae ?_
            refine dwp_if_f rfl (by rw [rdyF_no hr2, folF_n hf hv hr2, waiF_pr hp, eqV_refl, eqF_refl]; rfl) ?_
            refine zak ?_
            refine zac ?_
            refine zab rfl rfl rfl (op_add' rfl (ev1 rfl) (ev1 rfl) (fun _ => IntWalk.i64_in _ (by omega))) ?_
            refine zab rfl rfl rfl (zad (.inl rfl) (ev1 rfl)) ?_
            refine zae ?_
            refine ⟨k + 1, [0], ⟨by omega, by omega⟩, by simp only []; omega, rfl, ⟨rfl, rfl, rfl, rfl, rfl, rfl, trivial⟩, ⟨rfl, trivial⟩⟩
      · refine zac ?_
        refine zab rfl rfl rfl (zad (.inl rfl) (ev1 rfl)) ?_
        refine zab rfl rfl rfl (zad (.inl rfl) (ev1 rfl)) ?_
        refine zai (zar (b := true) rfl rfl rfl) rfl rfl rfl (zas rfl tb24 (ev1 rfl) rfl rfl) (by simp only [upd, za, zaa]; exact rfl) ?_
        refine zai (zar (b := true) rfl rfl rfl) rfl rfl rfl ((zah [] [] [] rfl (ev1 rfl) (ec (ev2 rfl) en) rfl rfl (refVR_d _) rfl rfl rfl rfl rfl rfl).cast (d' := .val (.bool false)) (by rw [show vB vs[k] = false by simpa using hv])) (by simp only [upd, za, zaa]; exact rfl) ?_
        refine zab rfl rfl rfl ((zaz rfl (ev1 rfl) (ev3 rfl (fun _ => rfl))).cast (d' := .val (.bool false)) (by rfl)) ?_
        refine zab rfl rfl rfl (zad (.inr rfl) (ev1 rfl)) ?_
        refine zae ?_
        refine zaf ?_
        refine zaj 1 (by simp only [holes, List.cons_append, List.nil_append]; exact rfl) ?_
        refine zac ?_
        refine zab rfl rfl rfl (zas rfl tb29 (ev1 rfl) rfl (zao _)) ?_
        refine zab rfl rfl rfl (zas rfl tb24 (ev1 rfl) rfl rfl) ?_
        refine zab rfl rfl rfl (zah [] [] [] rfl (ev1 rfl) (ec (ev1 rfl) (ec (ev1 rfl) en)) rfl rfl (rdy_d _ _) rfl rfl rfl rfl rfl rfl) ?_
        refine zab rfl rfl rfl (zad (.inl rfl) (ev1 rfl)) ?_
        refine zab rfl rfl rfl (op_ext rfl (ev1 rfl) rfl) ?_
        refine zab rfl rfl rfl (op_ext rfl (ev1 rfl) rfl) ?_
        refine zam rfl rfl rfl (zaq 2 rfl zr24 rfl) (by simp only [upd, za, zaa]; exact rfl) ?_
        refine zax rfl rfl (op_stwa rfl tb24 (ev1 rfl) (ev1 rfl) rfl rfl rfl rfl) (by simp only [upd, za, zaa]; exact rfl) ?_
        refine zab rfl rfl rfl (zad (.inr rfl) (ev1 rfl)) ?_
        refine zae ?_
        refine zaf ?_
        refine zaj 1 (by simp only [holes, List.cons_append, List.nil_append]; exact rfl) ?_
        refine zac ?_
        refine zab rfl rfl rfl (zas rfl tb29 (ev1 rfl) rfl (zao _)) ?_
        refine zab rfl rfl rfl (zas rfl tb24 (ev1 rfl) rfl rfl) ?_
        refine zab rfl rfl rfl (zah [] [] [] rfl (ev1 rfl) (ec (ev1 rfl) (ec (ev1 rfl) en)) rfl rfl (fol_d _ _) rfl rfl rfl rfl rfl rfl) ?_
        refine zab rfl rfl rfl (zad (.inl rfl) (ev1 rfl)) ?_
        refine zab rfl rfl rfl (op_ext rfl (ev1 rfl) rfl) ?_
        refine zab rfl rfl rfl (op_ext rfl (ev1 rfl) rfl) ?_
        refine zam rfl rfl rfl (zaq 3 rfl zr29 rfl) (by simp only [upd, za, zaa]; exact rfl) ?_
        refine zax rfl rfl (op_stwa rfl tb29 (ev1 rfl) (ev1 rfl) rfl (zao _) (frC_oc _) rfl) (by simp only [upd, za, zaa]; exact rfl) ?_
        refine zab rfl rfl rfl (zad (.inr rfl) (ev1 rfl)) ?_
        refine zae ?_
        refine zaf ?_
        refine zaj 1 (by simp only [holes, List.cons_append, List.nil_append]; exact rfl) ?_
        refine zac ?_
        refine zam rfl rfl rfl (zaq 4 rfl zr24 rfl) (by simp only [upd, za, zaa]; exact rfl) ?_
        refine zae ?_
        refine zaf ?_
        refine zaj 1 (by simp only [holes, List.cons_append, List.nil_append]; exact rfl) ?_
        refine zac ?_
        refine zam rfl rfl rfl (zaq 5 rfl zr29 rfl) (by simp only [upd, za, zaa]; exact rfl) ?_
        refine zae ?_
        refine zaf ?_
        refine zac ?_
        refine zab rfl rfl rfl (zad (.inr rfl) (ev1 rfl)) ?_
        refine zae ?_
        refine zaf ?_
        refine zac ?_
        refine zab rfl rfl rfl (zad (.inr rfl) (ev1 rfl)) ?_
        refine zae ?_
        refine zaf ?_
        refine zaf ?_
        refine zac ?_
        refine zab rfl rfl rfl (zad (.inl rfl) (ev1 rfl)) ?_
        refine zae ?_
        refine dwp_if_t rfl (rfl) ?_
        refine zaf ?_
        refine zac ?_
        refine zab rfl rfl rfl (zad (.inr rfl) (ev1 rfl)) ?_
        refine zae ?_
        refine zaf ?_
        refine zac ?_
        refine zab rfl rfl rfl (zad (.inl rfl) (ev1 rfl)) ?_
        refine zae ?_
        refine dwp_if_f rfl (rfl) ?_
        refine zak ?_
        refine zaf ?_
        refine zaf ?_
        refine zac ?_
        refine zab rfl rfl rfl (zad (.inl rfl) (ev1 rfl)) ?_
        refine zab rfl rfl rfl (zad (.inl rfl) (ev1 rfl)) ?_
        refine zag (zar (b := false) rfl rfl rfl) rfl rfl rfl (zal (d := .junk)) ?_
        refine zag (zar (b := false) rfl rfl rfl) rfl rfl rfl (zal (d := .junk)) ?_
        refine zag (zar (b := false) rfl rfl rfl) rfl rfl rfl (zal (d := .val (.bool false))) ?_
        refine zab rfl rfl rfl ((zaz rfl (ev1 rfl) (ev3 rfl id)).cast (d' := .val (.bool false)) (by rfl)) ?_
        refine zae ?_
        refine dwp_if_f rfl (rfl) ?_
        refine zak ?_
        refine zaf ?_
        refine zac ?_
        refine zab rfl rfl rfl (zad (.inl rfl) (ev1 rfl)) ?_
        refine zab rfl rfl rfl (zad (.inl rfl) (ev1 rfl)) ?_
        refine zag (zar (b := false) rfl rfl rfl) rfl rfl rfl (zal (d := .junk)) ?_
        refine zag (zar (b := false) rfl rfl rfl) rfl rfl rfl (zal (d := .junk)) ?_
        refine zag (zar (b := false) rfl rfl rfl) rfl rfl rfl (zal (d := .val (.bool false))) ?_
        refine zab rfl rfl rfl ((zaz rfl (ev1 rfl) (ev3 rfl id)).cast (d' := .val (.bool false)) (by rfl)) ?_
        refine zab rfl rfl rfl (zad (.inr rfl) (ev1 rfl)) ?_
        refine zae ?_
        refine zaf ?_
        refine zaf ?_
        refine zac ?_
        refine zab rfl rfl rfl (zad (.inl rfl) (ev1 rfl)) ?_
        refine zae ?_
        refine dwp_if_f rfl (rfl) ?_
        refine zak ?_
        refine zaf ?_
        have hv2 : vB vs[k] = false := by simpa using hv
        refine zac ?_
        refine zab rfl rfl rfl (zas rfl tb24 (ev1 rfl) rfl rfl) ?_
        refine zab rfl rfl rfl (zas rfl tb24 (ev1 rfl) rfl rfl) ?_
        refine zab rfl rfl rfl (op_ner eq24 rfl gd24 tb24 (ev1 rfl) (ev1 rfl)) ?_
        refine zab rfl rfl rfl (zad (.inl rfl) (ev1 rfl)) ?_
        refine zag (zan rfl rfl rfl) rfl rfl rfl (zad (.inl rfl) (ev1 rfl)) ?_
        refine zag (zan rfl rfl rfl) rfl rfl rfl (zad (.inl rfl) (ev1 rfl)) ?_
        refine zag (zan rfl rfl rfl) rfl rfl rfl (op_neb rfl un4 (ev2 rfl) (ev2 rfl)) ?_
        refine zab rfl rfl rfl (op_or rfl (ev1 rfl) (ev3 rfl id)) ?_
        refine zab rfl rfl rfl (zad (.inl rfl) (ev1 rfl)) ?_
        refine zag (zan rfl rfl rfl) rfl rfl rfl (zas rfl tb29 (ev1 rfl) rfl (zao _)) ?_
        refine zag (zan rfl rfl rfl) rfl rfl rfl (zas rfl tb29 (ev1 rfl) rfl (zao _)) ?_
        refine zag (zan rfl rfl rfl) rfl rfl rfl (op_ner eq29 rfl gd29 tb29 (ev2 rfl) (ev2 rfl)) ?_
        refine zab rfl rfl rfl (op_or rfl (ev1 rfl) (ev3 rfl id)) ?_
        refine zab rfl rfl rfl (zad (.inl rfl) (ev1 rfl)) ?_
        refine zag (zan rfl rfl rfl) rfl rfl rfl (zad (.inl rfl) (ev1 rfl)) ?_
        refine zag (zan rfl rfl rfl) rfl rfl rfl (zad (.inl rfl) (ev1 rfl)) ?_
        refine zag (zan rfl rfl rfl) rfl rfl rfl (op_neq rfl (ev2 rfl) (ev2 rfl)) ?_
        refine zab rfl rfl rfl (op_or rfl (ev1 rfl) (ev3 rfl id)) ?_
        refine zab rfl rfl rfl (zad (.inl rfl) (ev1 rfl)) ?_
        refine zag (zan rfl rfl rfl) rfl rfl rfl (zas rfl tb29 (ev1 rfl) rfl (zao _)) ?_
        refine zag (zan rfl rfl rfl) rfl rfl rfl (zas rfl tb24 (ev1 rfl) rfl rfl) ?_
        refine zag (zan rfl rfl rfl) rfl rfl rfl (zah [] [] [] rfl (ev1 rfl) (ec (ev2 rfl) (ec (ev2 rfl) en)) rfl rfl (wai_d _ _) rfl rfl rfl rfl rfl rfl) ?_
        refine zag (zan rfl rfl rfl) rfl rfl rfl (zad (.inl rfl) (ev1 rfl)) ?_
        refine zag (zan rfl rfl rfl) rfl rfl rfl (zah [] [] [] rfl (ev1 rfl) (ec (ev2 rfl) (ec (evnil 1 (ev2 rfl)) en)) rfl rfl (equalI _ []) rfl rfl rfl rfl rfl rfl) ?_
        refine zag (zan rfl rfl rfl) rfl rfl rfl (op_not rfl (ev2 rfl)) ?_
        refine zab rfl rfl rfl (op_or rfl (ev1 rfl) (ev3 rfl id)) ?_
        refine zae ?_
        refine dwp_if_f rfl (by rw [rdyF_v hv2, folF_v hf hv2, waiF_v hv2, eqV_refl, eqF_refl]; rfl) ?_
        refine zak ?_
        refine zac ?_
        refine zab rfl rfl rfl (op_add' rfl (ev1 rfl) (ev1 rfl) (fun _ => IntWalk.i64_in _ (by omega))) ?_
        refine zab rfl rfl rfl (zad (.inl rfl) (ev1 rfl)) ?_
        refine zae ?_
        refine ⟨k + 1, [0], ⟨by omega, by omega⟩, by simp only []; omega, rfl, ⟨rfl, rfl, rfl, rfl, rfl, rfl, trivial⟩, ⟨rfl, trivial⟩⟩
  · try simp only [decide_eq_true_eq, decide_eq_false_iff_not, beq_iff_eq, bne_iff_ne, beq_eq_false_iff_ne, bne_eq_false_iff_eq, Bool.not_eq_true', Bool.not_eq_false', Bool.and_eq_true, Bool.or_eq_true, Bool.or_eq_false_iff, ne_eq, Decidable.not_not, Int.not_lt, Int.not_le] at c3
    refine dwp_exit ?_
    refine zaf ?_
    refine zac ?_
    refine zab rfl rfl rfl (zad (.inr rfl) (ev1 rfl)) ?_
    refine zab rfl rfl rfl (zad (.inr rfl) (ev1 rfl)) ?_
    refine zae ?_
    refine zaf ?_
    refine zaf ?_
    refine zac ?_
    refine zab rfl rfl rfl (zad (.inr rfl) (ev1 rfl)) ?_
    refine zae ?_
    refine zat ?_
    refine dwp_adopt 21 3 1 rfl rfl rfl ?_
    refine dwp_loopS ⟨hs0, rfl⟩ (α := Nat) (fun k => [(23, .val (.int .i64 (k : Int)))]) [(2, _), (3, _), (7, _), (21, _), (22, _)] (fun k => [(1, .arr 3 1 (glTo (fun i => (f.st i).inn) (fun i : Nat => (i : Int)) k).length ((glTo (fun i => (f.st i).inn) (fun i : Nat => (i : Int)) k).flatMap inI))]) [_, .hole] (fun k => 1 ≤ k ∧ k ≤ 9) (fun k => 9 - k) 1 [0, 1] (by simp) rfl ⟨rfl, rfl, rfl, rfl, rfl, trivial⟩ ⟨rfl, trivial⟩ ⟨rfl, by rw [glTo_1 hf]; rfl, trivial⟩ ?_
    intro k hx
    simp only [upd, za, zaa, List.cons_append, List.nil_append]
    obtain ⟨hk1, hk⟩ := hx
    have hgl := glTo_len (fun i => (f.st i).inn) (fun i : Nat => (i : Int)) k
    refine zaf ?_
    refine zaf ?_
    refine zac ?_
    refine zab rfl rfl rfl (zad (.inl rfl) (ev1 rfl)) ?_
    refine zab rfl rfl rfl (op_leq rfl (ev1 rfl) (ev1 rfl)) ?_
    refine zae ?_
    refine zaw rfl (fun c27 => ?_) (fun c27 => ?_)
    · try simp only [decide_eq_true_eq, decide_eq_false_iff_not, beq_iff_eq, bne_iff_ne, beq_eq_false_iff_ne, bne_eq_false_iff_eq, Bool.not_eq_true', Bool.not_eq_false', Bool.and_eq_true, Bool.or_eq_true, Bool.or_eq_false_iff, ne_eq, Decidable.not_not, Int.not_lt, Int.not_le] at c27
      refine zak ?_
      refine zaf ?_
      refine zat ?_
      refine zaf ?_
      refine zac ?_
      refine zab rfl rfl rfl (zad (.inl rfl) (ev1 rfl)) ?_
      refine zab rfl rfl rfl (zad (.inl rfl) (ev1 rfl)) ?_
      refine zai (zar (b := true) rfl rfl rfl) rfl rfl rfl (zad (.inl rfl) (ev1 rfl)) (by simp only [upd, za, zaa]; exact rfl) ?_
      refine zai (zar (b := true) rfl rfl rfl) rfl rfl rfl (zap rfl fo29_3 (ev1 rfl)) (by simp only [upd, za, zaa]; exact rfl) ?_
      refine zai (zar (b := true) rfl rfl rfl) rfl rfl rfl (op_ixl rfl ar27 (ev2 rfl) (ev2 rfl) (fun _ => by omega)) (by simp only [upd, za, zaa]; exact rfl) ?_
      refine zai (zar (b := true) rfl rfl rfl) rfl rfl rfl (zap rfl fo26_0 (ev2 rfl)) (by simp only [upd, za, zaa]; exact rfl) ?_
      refine zai (zar (b := true) rfl rfl rfl) rfl rfl rfl (op_ldo rfl tb4 (ev2 rfl) rfl (frC_inp (j := k) (by omega) (by omega))) (by simp only [upd, za, zaa]; exact rfl) ?_
      refine zab rfl rfl rfl (zaz rfl (ev1 rfl) (ev3 rfl (fun _ => rfl))) ?_
      refine zae ?_
      refine zaw rfl (fun hin => ?_) (fun hin => ?_)
      · have hin : (f.st k).inn = true := hin
        refine zaj 1 (by simp only [holes, List.cons_append, List.nil_append]; exact rfl) ?_
        refine zac ?_
        refine zab rfl rfl rfl (zad (.inl rfl) (ev1 rfl)) ?_
        refine zab rfl rfl rfl (zad (.inl rfl) (ev1 rfl)) ?_
        refine zab rfl rfl rfl (op_bs (ps := [(0, .tmp 141)]) rfl sl31 zr3 rfl (vc (ev1 rfl) vn) rfl (by decide) (by decide)) ?_
        refine zam rfl rfl rfl (op_app (j := 2) rfl sl31 zr3 rfl (ev1 rfl) (ev1 rfl) src_slf rfl rfl (fun _ => rfl) (fun _ => ⟨by omega, by omega⟩)) (by simp only [upd, za, zaa]; exact rfl) ?_
        refine zab rfl rfl rfl (zad (.inr rfl) (ev1 rfl)) ?_
        refine zae ?_
        refine zac ?_
        refine zab rfl rfl rfl (zad (.inl rfl) (ev1 rfl)) ?_
        refine zab rfl rfl rfl (op_add' rfl (ev1 rfl) (ev1 rfl) (fun _ => IntWalk.i64_in _ (by omega))) ?_
        refine zab rfl rfl rfl (zad (.inr rfl) (ev1 rfl)) ?_
        refine zae ?_
        refine ⟨k + 1, [0, 2], ⟨by omega, by omega⟩, by simp only []; omega, rfl, ⟨rfl, rfl, rfl, rfl, rfl, rfl, trivial⟩, ⟨rfl, by rw [glTo_yes (p := fun i => (f.st i).inn) (k := k) hin, ← arrI_add]; rfl, trivial⟩⟩
      · have hin : (f.st k).inn = false := hin
        refine zak ?_
        refine zac ?_
        refine zab rfl rfl rfl (zad (.inl rfl) (ev1 rfl)) ?_
        refine zab rfl rfl rfl (op_add' rfl (ev1 rfl) (ev1 rfl) (fun _ => IntWalk.i64_in _ (by omega))) ?_
        refine zab rfl rfl rfl (zad (.inr rfl) (ev1 rfl)) ?_
        refine zae ?_
        refine ⟨k + 1, [0, 1], ⟨by omega, by omega⟩, by simp only []; omega, rfl, ⟨rfl, rfl, rfl, rfl, rfl, rfl, trivial⟩, ⟨rfl, by rw [glTo_no (p := fun i => (f.st i).inn) (k := k) hin]; rfl, trivial⟩⟩
    · try simp only [decide_eq_true_eq, decide_eq_false_iff_not, beq_iff_eq, bne_iff_ne, beq_eq_false_iff_ne, bne_eq_false_iff_eq, Bool.not_eq_true', Bool.not_eq_false', Bool.and_eq_true, Bool.or_eq_true, Bool.or_eq_false_iff, ne_eq, Decidable.not_not, Int.not_lt, Int.not_le] at c27
      refine dwp_exit ?_
      refine zaf ?_
      have hk9 : k = 9 := by omega
      subst hk9
      rw [glTo_all]
      refine zaj 1 (by simp only [holes, List.cons_append, List.nil_append]; exact rfl) ?_
      refine zac ?_
      refine zab rfl rfl rfl (zad (.inl rfl) (ev1 rfl)) ?_
      refine zab rfl rfl rfl (zad (.inl rfl) (ev1 rfl)) ?_
      refine zab rfl rfl rfl (op_len rfl sl31 (ev1 rfl)) ?_
      refine zab rfl rfl rfl (op_min rfl (ev1 rfl) (ev1 rfl)) ?_
      refine zab rfl rfl rfl (op_sltk (j := min s.length 10) rfl sl31 (ev1 rfl) (bd_some (ev1 rfl)) (fun _ => by omega) (fun _ => by omega) (fun _ => rfl)) ?_
      refine zam rfl rfl rfl (zah [] [] [2] rfl (ev1 rfl) (ec (ev1 rfl) en) rfl rfl (cloneI _ (by rw [List.length_take]; omega)) rfl rfl rfl rfl rfl rfl) (by simp only [upd, za, zaa]; exact rfl) ?_
      refine zab rfl rfl rfl (zad (.inr rfl) (ev1 rfl)) ?_
      refine zae ?_
      refine zaf ?_
      refine zaf ?_
      obtain ⟨r, hr⟩ : ∃ r, r = s.take (min s.length 10) := ⟨_, rfl⟩
      have hrl : r.length ≤ 10 := by rw [hr, List.length_take]; omega
      rw [← hr]
      refine zac ?_
      refine zab rfl rfl rfl (zad (.inl rfl) (ev1 rfl)) ?_
      refine zab rfl rfl rfl (op_lena rfl sl31 (ev1 rfl) rfl) ?_
      refine zab rfl rfl rfl (zad (.inl rfl) (ev1 rfl)) ?_
      refine zae ?_
      refine zat ?_
      refine dwp_adopt 22 3 1 rfl rfl rfl ?_
      refine dwp_loopS ⟨hs0, rfl⟩ (α := Nat) (fun k => [(152, .val (.int .i64 (k : Int)))]) [(2, _), (3, _), (7, _), (21, _), (22, _), (150, _), (151, _)] (fun k => [(3, .arr 3 1 ((r.take k).filter (inS f)).length (((r.take k).filter (inS f)).flatMap inI))]) [_, _, _, .hole] (fun k => k ≤ r.length) (fun k => r.length - k) 0 [0, 1, 2, 3] (by omega) rfl ⟨rfl, rfl, rfl, rfl, rfl, rfl, rfl, trivial⟩ ⟨rfl, trivial⟩ ⟨rfl, rfl, rfl, rfl, trivial⟩ ?_
      intro k hx
      simp only [upd, za, zaa, List.cons_append, List.nil_append]
      have hk := hx
      have hfl : ((r.take k).filter (inS f)).length ≤ 10 := Nat.le_trans (List.length_filter_le _ _) (by rw [List.length_take]; omega)
      refine zaf ?_
      refine zac ?_
      refine zab rfl rfl rfl (op_lss rfl (ev1 rfl) (ev1 rfl)) ?_
      refine zae ?_
      refine zaf ?_
      refine zaw rfl (fun c29 => ?_) (fun c29 => ?_)
      · try simp only [decide_eq_true_eq, decide_eq_false_iff_not, beq_iff_eq, bne_iff_ne, beq_eq_false_iff_ne, bne_eq_false_iff_eq, Bool.not_eq_true', Bool.not_eq_false', Bool.and_eq_true, Bool.or_eq_true, Bool.or_eq_false_iff, ne_eq, Decidable.not_not, Int.not_lt, Int.not_le] at c29
        refine zak ?_
        refine zaf ?_
        refine zat ?_
        refine zaf ?_
        refine zac ?_
        refine zab rfl rfl rfl (op_ixar (j := k) rfl sl31 (ev1 rfl) (ev1 rfl) rfl (fun _ => by first | rfl | omega) (fun _ => by omega)) ?_
        refine zab rfl rfl rfl (op_lda1 rfl tb3 (ev1 rfl) rfl (fun _ => rfl) (by omega) rfl) ?_
        refine zab rfl rfl rfl (zad (.inr rfl) (ev1 rfl)) ?_
        refine zae ?_
        refine zaf ?_
        refine zac ?_
        refine zab rfl rfl rfl (zad (.inl rfl) (ev1 rfl)) ?_
        refine zab rfl rfl rfl (zad (.inl rfl) (ev1 rfl)) ?_
        refine zab rfl rfl rfl (zah [] [1] [] rfl (ev1 rfl) (ec (ev1 rfl) (ec (ev1 rfl) en)) rfl rfl (contI (sitL f) _) rfl rfl rfl rfl rfl rfl) ?_
        refine zae ?_
        refine zaw rfl (fun hc => ?_) (fun hc => ?_)
        · have hc2 : inS f r[k] = true := by rw [← in_sitL hf]; exact hc
          refine zaj 1 (by simp only [holes, List.cons_append, List.nil_append]; exact rfl) ?_
          refine zac ?_
          refine zab rfl rfl rfl (zad (.inl rfl) (ev1 rfl)) ?_
          refine zab rfl rfl rfl (zad (.inl rfl) (ev1 rfl)) ?_
          refine zab rfl rfl rfl (op_bs (ps := [(0, .tmp 160)]) rfl sl31 zr3 rfl (vc (ev1 rfl) vn) rfl (by decide) (by decide)) ?_
          refine zam rfl rfl rfl (op_app (j := 4) rfl sl31 zr3 rfl (ev1 rfl) (ev1 rfl) src_slf rfl rfl (fun _ => rfl) (fun _ => ⟨by omega, by omega⟩)) (by simp only [upd, za, zaa]; exact rfl) ?_
          refine zab rfl rfl rfl (zad (.inr rfl) (ev1 rfl)) ?_
          refine zae ?_
          refine zac ?_
          refine zab rfl rfl rfl (op_add' rfl (ev1 rfl) (ev1 rfl) (fun _ => IntWalk.i64_in _ (by omega))) ?_
          refine zab rfl rfl rfl (zad (.inl rfl) (ev1 rfl)) ?_
          refine zae ?_
          refine ⟨k + 1, [0, 1, 2, 4], by omega, by simp only []; omega, rfl, ⟨rfl, rfl, rfl, rfl, rfl, rfl, rfl, rfl, trivial⟩, ⟨rfl, rfl, rfl, by rw [take_filt (by omega), if_pos hc2, ← arrI_add]; rfl, trivial⟩⟩
        · have hc2 : inS f r[k] = false := by rw [← in_sitL hf]; exact hc
          refine zak ?_
          refine zac ?_
          refine zab rfl rfl rfl (op_add' rfl (ev1 rfl) (ev1 rfl) (fun _ => IntWalk.i64_in _ (by omega))) ?_
          refine zab rfl rfl rfl (zad (.inl rfl) (ev1 rfl)) ?_
          refine zae ?_
          refine ⟨k + 1, [0, 1, 2, 3], by omega, by simp only []; omega, rfl, ⟨rfl, rfl, rfl, rfl, rfl, rfl, rfl, rfl, trivial⟩, ⟨rfl, rfl, rfl, by rw [take_filt (by omega), if_neg (by rw [hc2]; decide), List.append_nil]; rfl, trivial⟩⟩
      · try simp only [decide_eq_true_eq, decide_eq_false_iff_not, beq_iff_eq, bne_iff_ne, beq_eq_false_iff_ne, bne_eq_false_iff_eq, Bool.not_eq_true', Bool.not_eq_false', Bool.and_eq_true, Bool.or_eq_true, Bool.or_eq_false_iff, ne_eq, Decidable.not_not, Int.not_lt, Int.not_le] at c29
        refine dwp_exit ?_
        refine zaf ?_
        refine zaf ?_
        have hkr : k = r.length := by omega
        subst hkr
        rw [List.take_length]
        refine zac ?_
        refine zab rfl rfl rfl (zad (.inl rfl) (ev1 rfl)) ?_
        refine zab rfl rfl rfl (op_lena rfl sl31 (ev1 rfl) rfl) ?_
        refine zab rfl rfl rfl (zb rfl (ev1 rfl) (ev1 rfl)) ?_
        refine zae ?_
        refine zaw rfl (fun hr0 => ?_) (fun hr0 => ?_)
        · try simp only [decide_eq_true_eq, decide_eq_false_iff_not, beq_iff_eq, bne_iff_ne, beq_eq_false_iff_ne, bne_eq_false_iff_eq, Bool.not_eq_true', Bool.not_eq_false', Bool.and_eq_true, Bool.or_eq_true, Bool.or_eq_false_iff, ne_eq, Decidable.not_not, Int.not_lt, Int.not_le] at hr0
          refine zac ?_
          refine zab rfl rfl rfl (zad (.inl rfl) (ev1 rfl)) ?_
          refine zab rfl rfl rfl (zad (.inr rfl) (ev1 rfl)) ?_
          refine zae ?_
          refine zaf ?_
          refine zaj 1 (by simp only [holes, List.cons_append, List.nil_append]; exact rfl) ?_
          refine zac ?_
          refine zab rfl rfl rfl (zas rfl tb29 (ev1 rfl) rfl (zao _)) ?_
          refine zab rfl rfl rfl (zah [] [] [] rfl (ev1 rfl) (ec (ev1 rfl) en) rfl rfl (ris_ok f hf) rfl rfl rfl rfl rfl rfl) ?_
          refine zab rfl rfl rfl (zad (.inl rfl) (ev1 rfl)) ?_
          refine zab rfl rfl rfl (op_ext rfl (ev1 rfl) rfl) ?_
          refine zab rfl rfl rfl (op_ext rfl (ev1 rfl) rfl) ?_
          refine zam rfl rfl rfl (zaq 4 rfl zr29 rfl) (by simp only [upd, za, zaa]; exact rfl) ?_
          refine zax rfl rfl (op_stwa rfl tb29 (ev1 rfl) (ev1 rfl) rfl (zao _) (frC_oc _) rfl) (by simp only [upd, za, zaa]; exact rfl) ?_
          refine zab rfl rfl rfl (zad (.inr rfl) (ev1 rfl)) ?_
          refine zae ?_
          refine zaf ?_
          refine zaj 1 (by simp only [holes, List.cons_append, List.nil_append]; exact rfl) ?_
          refine zac ?_
          refine zam rfl rfl rfl (zaq 5 rfl zr29 rfl) (by simp only [upd, za, zaa]; exact rfl) ?_
          refine zae ?_
          refine zaf ?_
          refine zac ?_
          refine zab rfl rfl rfl (zad (.inr rfl) (ev1 rfl)) ?_
          refine zae ?_
          refine zaf ?_
          refine zaf ?_
          refine zac ?_
          refine zab rfl rfl rfl (zad (.inl rfl) (ev1 rfl)) ?_
          refine zae ?_
          refine dwp_if_t rfl (rfl) ?_
          refine zac ?_
          refine zab rfl rfl rfl (zas rfl tb29 (ev1 rfl) rfl (zao _)) ?_
          refine zab rfl rfl rfl (zah [] [] [] rfl (ev1 rfl) (ec (ev1 rfl) en) rfl rfl (refRis_d _) rfl rfl rfl rfl rfl rfl) ?_
          refine zax rfl rfl (op_stwa rfl tb29 (ev1 rfl) (ev1 rfl) rfl (zao _) (frC_oc _) rfl) (by simp only [upd, za, zaa]; exact rfl) ?_
          refine zab rfl rfl rfl (zad (.inr rfl) (ev1 rfl)) ?_
          refine zae ?_
          refine zaf ?_
          refine dwp_giveA 2 rfl rfl (by simp only [za, zaa]; exact rfl) ?_
          refine zac ?_
          refine zab rfl rfl rfl (zas rfl tb29 (ev1 rfl) rfl (zao _)) ?_
          refine zab rfl rfl rfl (zas rfl tb29 (ev1 rfl) rfl (zao _)) ?_
          refine zab rfl rfl rfl (op_eqr eq29 rfl gd29 tb29 (ev1 rfl) (ev1 rfl)) ?_
          refine zab rfl rfl rfl (zad (.inl rfl) (ev1 rfl)) ?_
          refine zag (zar rfl rfl rfl) rfl rfl rfl (zad (.inl rfl) (ev1 rfl)) ?_
          refine zag (zar rfl rfl rfl) rfl rfl rfl (zad (.inl rfl) (ev1 rfl)) ?_
          refine zag (zar rfl rfl rfl) rfl rfl rfl (zb rfl (ev2 rfl) (ev2 rfl)) ?_
          refine zab rfl rfl rfl (zaz rfl (ev1 rfl) (ev3 rfl id)) ?_
          refine zab rfl rfl rfl (zad (.inl rfl) (ev1 rfl)) ?_
          refine zag (zar rfl rfl rfl) rfl rfl rfl (zas rfl tb29 (ev1 rfl) rfl (zao _)) ?_
          refine zag (zar rfl rfl rfl) rfl rfl rfl (zah [] [] [] rfl (ev1 rfl) (ec (ev2 rfl) (ec (evnil 1 (ev1 rfl)) en)) rfl rfl (sit_d f [] (by simp)) rfl rfl rfl rfl rfl rfl) ?_
          refine zag (zar rfl rfl rfl) rfl rfl rfl (zad (.inl rfl) (ev1 rfl)) ?_
          refine zag (zar rfl rfl rfl) rfl rfl rfl (zah [] [1] [] rfl (ev1 rfl) (ec (ev2 rfl) (ec (ev2 rfl) en)) rfl rfl (equalI _ _) rfl rfl rfl rfl rfl rfl) ?_
          refine zab rfl rfl rfl (zaz rfl (ev1 rfl) (ev3 rfl id)) ?_
          refine zab rfl rfl rfl (zad (.inl rfl) (ev1 rfl)) ?_
          refine zag (zar rfl rfl rfl) rfl rfl rfl (zas rfl tb29 (ev1 rfl) rfl (zao _)) ?_
          refine zag (zar rfl rfl rfl) rfl rfl rfl (zad (.inl rfl) (ev1 rfl)) ?_
          refine zag (zar rfl rfl rfl) rfl rfl rfl (zah [] [] [] rfl (ev1 rfl) (ec (ev2 rfl) (ec (ev2 rfl) en)) rfl rfl (sit_d f r (by omega)) rfl rfl rfl rfl rfl rfl) ?_
          refine zag (zar rfl rfl rfl) rfl rfl rfl (zad (.inl rfl) (ev1 rfl)) ?_
          refine zag (zar rfl rfl rfl) rfl rfl rfl (zah [] [1] [] rfl (ev1 rfl) (ec (ev2 rfl) (ec (ev2 rfl) en)) rfl rfl (equalI _ _) rfl rfl rfl rfl rfl rfl) ?_
          refine zab rfl rfl rfl (zaz rfl (ev1 rfl) (ev3 rfl id)) ?_
          refine zab rfl rfl rfl (zad (.inr rfl) (ev1 rfl)) ?_
          refine zae ?_
          refine zau ?_
          refine kend0 (rs1 rfl (rv_t rfl)) rfl ?_
          have hr1 : r = [] := List.eq_nil_of_length_eq_zero (by omega)
          rw [hr1, sitF_nil hf, eqF_refl]
          simp
        · try simp only [decide_eq_true_eq, decide_eq_false_iff_not, beq_iff_eq, bne_iff_ne, beq_eq_false_iff_ne, bne_eq_false_iff_eq, Bool.not_eq_true', Bool.not_eq_false', Bool.and_eq_true, Bool.or_eq_true, Bool.or_eq_false_iff, ne_eq, Decidable.not_not, Int.not_lt, Int.not_le] at hr0
          refine zak ?_
          refine zaf ?_
          refine zaj 1 (by simp only [holes, List.cons_append, List.nil_append]; exact rfl) ?_
          refine zac ?_
          refine zab rfl rfl rfl (zas rfl tb29 (ev1 rfl) rfl (zao _)) ?_
          refine zab rfl rfl rfl (zah [] [] [] rfl (ev1 rfl) (ec (ev1 rfl) en) rfl rfl (ris_ok f hf) rfl rfl rfl rfl rfl rfl) ?_
          refine zab rfl rfl rfl (zad (.inl rfl) (ev1 rfl)) ?_
          refine zab rfl rfl rfl (op_ext rfl (ev1 rfl) rfl) ?_
          refine zab rfl rfl rfl (op_ext rfl (ev1 rfl) rfl) ?_
          refine zam rfl rfl rfl (zaq 4 rfl zr29 rfl) (by simp only [upd, za, zaa]; exact rfl) ?_
          refine zax rfl rfl (op_stwa rfl tb29 (ev1 rfl) (ev1 rfl) rfl (zao _) (frC_oc _) rfl) (by simp only [upd, za, zaa]; exact rfl) ?_
          refine zab rfl rfl rfl (zad (.inr rfl) (ev1 rfl)) ?_
          refine zae ?_
          refine zaf ?_
          refine zaj 1 (by simp only [holes, List.cons_append, List.nil_append]; exact rfl) ?_
          refine zac ?_
          refine zam rfl rfl rfl (zaq 5 rfl zr29 rfl) (by simp only [upd, za, zaa]; exact rfl) ?_
          refine zae ?_
          refine zaf ?_
          refine zac ?_
          refine zab rfl rfl rfl (zad (.inr rfl) (ev1 rfl)) ?_
          refine zae ?_
          refine zaf ?_
          refine zaf ?_
          refine zac ?_
          refine zab rfl rfl rfl (zad (.inl rfl) (ev1 rfl)) ?_
          refine zae ?_
          refine dwp_if_t rfl (rfl) ?_
          refine zac ?_
          refine zab rfl rfl rfl (zas rfl tb29 (ev1 rfl) rfl (zao _)) ?_
          refine zab rfl rfl rfl (zah [] [] [] rfl (ev1 rfl) (ec (ev1 rfl) en) rfl rfl (refRis_d _) rfl rfl rfl rfl rfl rfl) ?_
          refine zax rfl rfl (op_stwa rfl tb29 (ev1 rfl) (ev1 rfl) rfl (zao _) (frC_oc _) rfl) (by simp only [upd, za, zaa]; exact rfl) ?_
          refine zab rfl rfl rfl (zad (.inr rfl) (ev1 rfl)) ?_
          refine zae ?_
          refine zaf ?_
          refine dwp_giveA 2 rfl rfl (by simp only [za, zaa]; exact rfl) ?_
          refine zac ?_
          refine zab rfl rfl rfl (zas rfl tb29 (ev1 rfl) rfl (zao _)) ?_
          refine zab rfl rfl rfl (zas rfl tb29 (ev1 rfl) rfl (zao _)) ?_
          refine zab rfl rfl rfl (op_eqr eq29 rfl gd29 tb29 (ev1 rfl) (ev1 rfl)) ?_
          refine zab rfl rfl rfl (zad (.inl rfl) (ev1 rfl)) ?_
          refine zag (zar rfl rfl rfl) rfl rfl rfl (zad (.inl rfl) (ev1 rfl)) ?_
          refine zag (zar rfl rfl rfl) rfl rfl rfl (zad (.inl rfl) (ev1 rfl)) ?_
          refine zag (zar rfl rfl rfl) rfl rfl rfl (zb rfl (ev2 rfl) (ev2 rfl)) ?_
          refine zab rfl rfl rfl (zaz rfl (ev1 rfl) (ev3 rfl id)) ?_
          refine zab rfl rfl rfl (zad (.inl rfl) (ev1 rfl)) ?_
          refine zag (zar rfl rfl rfl) rfl rfl rfl (zas rfl tb29 (ev1 rfl) rfl (zao _)) ?_
          refine zag (zar rfl rfl rfl) rfl rfl rfl (zah [] [] [] rfl (ev1 rfl) (ec (ev2 rfl) (ec (evnil 1 (ev1 rfl)) en)) rfl rfl (sit_d f [] (by simp)) rfl rfl rfl rfl rfl rfl) ?_
          refine zag (zar rfl rfl rfl) rfl rfl rfl (zad (.inl rfl) (ev1 rfl)) ?_
          refine zag (zar rfl rfl rfl) rfl rfl rfl (zah [] [1] [] rfl (ev1 rfl) (ec (ev2 rfl) (ec (ev2 rfl) en)) rfl rfl (equalI _ _) rfl rfl rfl rfl rfl rfl) ?_
          refine zab rfl rfl rfl (zaz rfl (ev1 rfl) (ev3 rfl id)) ?_
          refine zab rfl rfl rfl (zad (.inl rfl) (ev1 rfl)) ?_
          refine zag (zar rfl rfl rfl) rfl rfl rfl (zas rfl tb29 (ev1 rfl) rfl (zao _)) ?_
          refine zag (zar rfl rfl rfl) rfl rfl rfl (zad (.inl rfl) (ev1 rfl)) ?_
          refine zag (zar rfl rfl rfl) rfl rfl rfl (zah [] [] [] rfl (ev1 rfl) (ec (ev2 rfl) (ec (ev2 rfl) en)) rfl rfl (sit_d f r (by omega)) rfl rfl rfl rfl rfl rfl) ?_
          refine zag (zar rfl rfl rfl) rfl rfl rfl (zad (.inl rfl) (ev1 rfl)) ?_
          refine zag (zar rfl rfl rfl) rfl rfl rfl (zah [] [3] [] rfl (ev1 rfl) (ec (ev2 rfl) (ec (ev2 rfl) en)) rfl rfl (equalI _ _) rfl rfl rfl rfl rfl rfl) ?_
          refine zab rfl rfl rfl (zaz rfl (ev1 rfl) (ev3 rfl id)) ?_
          refine zab rfl rfl rfl (zad (.inr rfl) (ev1 rfl)) ?_
          refine zae ?_
          refine zau ?_
          refine kend0 (rs1 rfl (rv_t rfl)) rfl ?_
          rw [sitF_nil hf, sitF_some hf (by omega), eqF_refl]
          simp
theorem may_d (f : FrM) (vs : List Vec) (s : List Int) : DFun Tryz.prog 3 [.val (.agg (frC f).toArray), .slf 9 (vs).length ((vs).flatMap c9), .slf 1 (s).length ((s).flatMap inI)] [] (.val (.bool true)) [] := by
  cases hf : frB f
  · exact may_no f vs s hf
  · exact may_yes f vs s hf
end Go.Proofs.YtnjnhghafjlmbaaGreat
