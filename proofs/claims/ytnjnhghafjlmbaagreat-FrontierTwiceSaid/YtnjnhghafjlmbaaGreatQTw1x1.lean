/- A region that draws its order: walked once, in the text's order. Conditions: the kernel's look at its edges; Operations: numbers, bools, structs, memory that is read and written. Conditions: what a type is, by the kernel; Operations that make memory, and write it. Conditions: what a type is, by the kernel; Operations on slices: made, cut, grown; tuples; function values; structs. Conditions: what a type is, by the kernel; Ends of calls; structs built; bools and strings compared; least and greatest; slices taken over, and given up. Conditions: what a type is, by the kernel; Scopes; slices beside nil; rows of one's own, element by element. Conditions: what a type is, by the kernel; Codes within a function; a loop's rounds one by one; strings; Strings: put together, cut, indexed, ranged over; numbers by their bits; From a contract to the statement: a law whose call returns true whatever its . No condition. -/
import Derived.Test.YtnjnhghafjlmbaaGreatQ6
import Derived.WalkKit
import Derived.Below
import Derived.Laws.AppendOwn
import Derived.RangeFuncRecord
import Derived.RangeFuncLeaves
import Derived.OrdersIn
import Derived.Deep.MidRow
import Derived.Laws.MakeOwn
import Derived.IntWalk
import Derived.Laws.OwnMore
import Derived.OwnWalk
import Derived.Recover
import Derived.RangeFuncIn
import Derived.Laws.StructEq
import Derived.Test.YtnjnhghafjlmbaaGreatRows
import Derived.Test.YtnjnhghafjlmbaaGreatProg
import Derived.OpenShut
import Derived.ChangeArms
import Derived.DataReads
import Derived.Deep.Slices
import Derived.JoinedOf
import Derived.JoinedAt
import Derived.Lib.SmallJoins
import Derived.Carry
import Derived.ProofKit
import Derived.RowKit3
import Derived.LaidMore
import Derived.Handed
import Derived.LaidHandle
import Derived.Stop.Joined
import Derived.Laws.IdiomCopy
import Derived.Laws.Pointers
import Derived.Laws.LoneSync
namespace Go.Proofs.YtnjnhghafjlmbaaGreat
set_option linter.unusedVariables false
set_option linter.unusedSimpArgs false
open Go.RowKit
theorem lex_w {P : Program} {ops : Array Oper} {o : Oper} {rest : List Oper} {fp wi : List Nat} {fps : List (List Nat × List Nat)} {F : Fr} {M M' : List Blk} {Q : Fr → List Blk → Prop} {d : D} {t : Nat} {wr : List (Nat × Blk)} (hg : o.guard = none) (hd : o.dst = some t) (h : DOp P true o F M fp d wr) (hw : wr.map (·.1) = wi) (hM : upd M wr = M')
    (hk : Lex P ops rest fps ((t, d) :: F) M' Q) : Lex P ops (o :: rest) ((fp, wi) :: fps) F M Q := lex_op hg h hw (by rw [hd, hM]; exact hk)
section
variable {l : List Oper} {E : List Rc} {F : Fr} {M : List Blk}
end
end Go.Proofs.YtnjnhghafjlmbaaGreat
namespace Go.Proofs.YtnjnhghafjlmbaaGreat
set_option linter.unusedVariables false
set_option linter.unusedSimpArgs false
open Go.RowKit

/-! ### what a type is -/
section
variable {P : Program} {pc : Bool} {o : Oper} {F : Fr} {M : List Blk}
section
variable {T T' : TypeId} {x y : Operand} {k : IntKind} {p q : Int}
end
section
variable {T : TypeId} {x : Operand} {i p k : Nat} {L R : List Value} {v : Value}
theorem arr_cells {s : St} (hok : Ok s) {T' : TypeId} {sz n n' c b : Nat} (h1 : s.M[i]? = some (.arr T' sz n L)) (h2 : s.β[i]? = some (.slice (some ⟨b, 0, none⟩) n' c)) : n' = n ∧ L.length = n * sz ∧ n ≤ c ∧ c ≤ maxLen ∧ cellsAt s.w b 0 L ∧ ∃ cur, s.w.heap[b]? = some (.cells cur T' (0, 0)) ∧ L.length ≤ cur.size ∧ cur.toList.take L.length = L := by
  have hk : s.w.ownsRow 0 T' sz _ n L := hok.blk i _ _ h1 h2
  rcases hk.2 with ⟨e1, e2⟩ | ⟨g, cap, cur, e1, e2, e3, e4, e5, e6, e7⟩
  · cases e1
  · cases e1
    have hc0 := cellsAt_sub (cellsAt_block e3 0) 0 (n * sz)
    have hle := Nat.mul_le_mul_right sz e4
    exact ⟨rfl, hk.1, e4, e5, by simpa [e7] using hc0, cur, e3, by rw [hk.1, e6]; exact hle, by rw [hk.1]; exact e7⟩
theorem op_ldra {T' : TypeId} {sz n : Nat} (ho : o.op = .load T x) (hT : tyB P T = some (true, k)) (hx : Ev pc F x (.aloc i p)) (hM : M[i]? = some (.arr T' sz n L)) (hR : (L.drop p).take k = R) (hl : R.length = k) : DOp P pc o F M [i] (.val (.agg R.toArray)) [] := by
  intro hp a s hok hops hfp
  have hr := ev_at hp hx (by simp [ho, Op.operands]) hops
  generalize hv : a.eval x = vx at hr
  cases hr with
  | @aloc _ _ n' c b h =>
    obtain ⟨_, _, _, _, hc, _⟩ := arr_cells hok (by rw [hfp i (by simp)]; exact hM) h
    have := cellsAt_range hc p k hR
    rw [Nat.zero_add] at this
    exact dg_val hok (run_load_row ho hT hv this hl) (.val _)
end
section
variable {T : TypeId} {x y : Operand} {i p n sz : Nat} {k : IntKind} {z : Int} {L : List Value}
variable {e : TypeId} {by' m : Nat}
/-- an element of an array of its own -/
theorem op_ixa {T' : TypeId} (ho : o.op = .indexAddr T x y) (hT : slE P T = some (e, sz, by')) (hx : Ev pc F x (.arr i)) (hy : Ev pc F y (.val (.int k z))) (hM : M[i]? = some (.arr T' sz m L)) (h : pc = true → 0 ≤ z ∧ z < m) : DOp P pc o F M [i] (.aloc i (z.toNat * sz)) [] := by
  intro hp a s hok hops hfp
  have hr := ev_at hp hx (by simp [ho, Op.operands]) hops
  have h2 := (ev_at hp hy (by simp [ho, Op.operands]) hops).val_eq
  obtain ⟨h3, h4⟩ := h hp
  generalize hv : a.eval x = vx at hr
  cases hr with
  | @arr _ ad n' c hb =>
    have hM' : s.M[i]? = some (.arr T' sz m L) := by rw [hfp i (by simp)]; exact hM
    have hk : s.w.ownsRow 0 T' sz _ m L := hok.blk i _ _ hM' hb
    rcases hk.2 with ⟨e1, e2⟩ | ⟨g, cap, cur, e1, e2, e3, e4, e5, e6, e7⟩
    · exfalso; omega
    · cases e1
      refine dg_val hok (run_index_sl ho hT hv h2 h3 h4) ?_
      rw [Addr.add_mid, Nat.zero_add]
      exact .aloc hb
end
end
end Go.Proofs.YtnjnhghafjlmbaaGreat
namespace Go.Proofs.YtnjnhghafjlmbaaGreat
set_option linter.unusedVariables false
set_option linter.unusedSimpArgs false
open Go.RowKit
theorem flat_set {α : Type} {en : α → List Value} {sz : Nat} (hen : ∀ a, (en a).length = sz) {l : List α} {j : Nat} (hj : j < l.length) (x : α) : setL (l.flatMap en) (j * sz) (en x) = (l.set j x).flatMap en := by
  have h1 : (j + 1) * sz ≤ l.length * sz := Nat.mul_le_mul_right _ hj
  rw [Nat.succ_mul] at h1
  rw [setL_eq _ _ _ (by rw [hen, flat_len hen]; exact h1), hen, show j * sz + sz = (j + 1) * sz by rw [Nat.succ_mul], flat_take hen, flat_drop hen]
  conv => rhs; rw [List.set_eq_take_append_cons_drop]
  rw [if_pos hj, List.flatMap_append, List.flatMap_cons, List.append_assoc]
section
variable {P : Program} {pc : Bool} {o : Oper} {F : Fr} {M : List Blk}
theorem op_boxi {T : TypeId} {x : Operand} {k : IntKind} {z : Int} (j : Nat) (ho : o.op = .box T x) (hx : Ev pc F x (.val (.int k z))) (hj : M[j]? = some .hole) : DOp P pc o F M [j] (.loc j 0) [(j, .flat T [.int k z])] := op_box j ho hx rfl hj
theorem op_sta {T T' : TypeId} {x y : Operand} {i p k sz n : Nat} {rw' : Bool} {v : Value} {L C L' : List Value} (ho : o.op = .store T x y) (hT : tyB P T = some (rw', k)) (hx : Ev pc F x (.aloc i p)) (hy : Ev pc F y (.val v)) (hM : M[i]? = some (.arr T' sz n L)) (hC : v.cells.toList = C) (hk : C.length = k) (h1 : C.all (·.oneCell') = true)
    (hfit : p + C.length ≤ L.length) (hL : setL L p C = L') : DOp P pc o F M [i] .junk [(i, .arr T' sz n L')] := by
  intro hp a s hok hops hfp
  have hr := ev_at hp hx (by simp [ho, Op.operands]) hops
  have h2 := (ev_at hp hy (by simp [ho, Op.operands]) hops).val_eq
  have hM' : s.M[i]? = some (.arr T' sz n L) := by rw [hfp i (by simp)]; exact hM
  subst hL
  generalize hv : a.eval x = vx at hr
  cases hr with
  | @aloc _ _ n' c b h =>
    have hk' : s.w.ownsRow 0 T' sz _ n L := hok.blk i _ _ hM' h
    rcases hk'.2 with ⟨e1, e2⟩ | ⟨g, cap, cur, e1, e2, e3, e4, e5, e6, e7⟩
    · cases e1
    · cases e1
      have hle := Nat.mul_le_mul_right sz e4
      have hlL := hk'.1
      have hcell := cellsAt_block e3 0
      have hrun := run_store (P := P) (w := s.w) ho hT hv h2 hC hk (fun j hj => by
          have := hcell (p + j) _ (by simpa using List.getElem?_eq_getElem (by simp; omega : p + j < cur.toList.length))
          rw [Nat.zero_add] at this
          rw [this]; rfl) (fun j hj => by simp [World.frozen?, e3]) (fun u hu => List.all_eq_true.1 h1 u hu)
      refine dg_skip (s' := ⟨s.β.set i (.slice (some ⟨b, 0, none⟩) n c), s.I, s.M.set i (.arr T' sz n (setL L p C)), s.w.setCells b p C⟩) hrun (tr_store hok hM' rfl h rfl p C ?_) rfl
      have hsl := setL_len C cur.toList p
      refine ⟨by rw [setL_len]; exact hlL, .inr ⟨b, c, (setL cur.toList p C).toArray, rfl, e2, setCells_block b C p s.w cur.toList T' (by simpa using e3), e4, e5, by simp [hsl]; simpa using e6, ?_⟩⟩
      have hcurlen : cur.toList.length = c * sz := by simpa using e6
      rw [setL_eq C cur.toList p (by omega), setL_eq C L p hfit]
      have hcut : cur.toList = L ++ cur.toList.drop L.length := by
        have := List.take_append_drop (n * sz) cur.toList
        rw [e7, ← hlL] at this
        exact this.symm
      generalize cur.toList.drop L.length = R at hcut
      rw [hcut]
      have t1 : (L ++ R).take p = L.take p := List.take_append_of_le_length (by omega)
      have t2 : (L ++ R).drop (p + C.length) = L.drop (p + C.length) ++ R := List.drop_append_of_le_length (by omega)
      rw [t1, t2, ← hlL, ← List.append_assoc]
      refine List.take_left' ?_
      simp; omega
end
end Go.Proofs.YtnjnhghafjlmbaaGreat
namespace Go.Proofs.YtnjnhghafjlmbaaGreat
set_option linter.unusedVariables false
set_option linter.unusedSimpArgs false
open Go.RowKit
section
variable {P : Program} {pc : Bool} {o : Oper} {F : Fr} {M : List Blk}
theorem op_lena {T T' : TypeId} {x : Operand} {q : TypeId × Nat × Nat} {i sz n : Nat} {L : List Value} (ho : o.op = .call { callee := .builtin .len, args := #[x], argTypes := #[T] }) (hT : slE P T = some q) (hx : Ev pc F x (.arr i)) (hM : M[i]? = some (.arr T' sz n L)) : DOp P pc o F M [i] (.val (.int .i64 n)) [] := by
  intro hp a s hok hops hfp
  obtain ⟨e1, _⟩ := slE_spec hT
  have hr := ev_at hp hx (by simp [ho, Op.operands, Call.operands]) hops
  generalize hv : a.eval x = vx at hr
  cases hr with
  | arr h =>
    have hM' : s.M[i]? = some (.arr T' sz n L) := by rw [hfp i (by simp)]; exact hM
    have hk : s.w.ownsRow 0 T' sz _ n L := hok.blk i _ _ hM' h
    refine dg_val hok (run_builtin ho (fun cs => rfl) ?_) (.val (.int .i64 n))
    rcases hk.2 with ⟨e2, e3⟩ | ⟨g, cap, cur, e2, _⟩
    · cases e2; simp [Builtin.len_, hv, run_underlying e1, goInt, e3]
    · cases e2; simp [Builtin.len_, hv, run_underlying e1, goInt]
theorem bd_some {y : Operand} {k : IntKind} {z q : Int} (h : Ev pc F y (.val (.int k z))) : Bd pc F (some y) q z := ⟨k, h⟩
theorem run_slice {T e : TypeId} {sz by' : Nat} {x : Operand} {lo hi : Option Operand} {a : Act} {w : World} {ad : Option Addr} {n c : Nat} {l h : Int} (ho : o.op = .slice T x lo hi none) (hT : slE P T = some (e, sz, by')) (hx : a.eval x = .slice ad n c)
    (hlo : lo.map a.eval = none ∧ l = 0 ∨ ∃ k, lo.map a.eval = some (.int k l)) (hhi : hi.map a.eval = none ∧ h = n ∨ ∃ k, hi.map a.eval = some (.int k h)) (h0 : 0 ≤ l) (h1 : l ≤ h) (h2 : h ≤ n) (h3 : n ≤ c) :
    (execOp a.eval o).run P w = .ok (.value (.slice (if c = l.toNat then ad else ad.map (·.add (l.toNat * sz))) (h.toNat - l.toNat) (c - l.toNat))) w := by
  obtain ⟨e1, i, e2, e3, _⟩ := slE_spec hT
  have eh : (h.toNat : Int) = h := Int.toNat_of_nonneg (by omega)
  unfold execOp
  simp only [ho, hx]
  refine run_v ?_
  have hb : (Instr.sliceBounds true n c (lo.map a.eval) (hi.map a.eval) none).run P w = .ok (l.toNat, h.toNat, c) w := by
    have sb : ∀ (k : IntKind) (z : Int) (m : Nat) (cd : BoundsCode), 0 ≤ z → z ≤ m → (Instr.sliceBound (.int k z) m cd).run P w = .ok z.toNat w := fun k z m cd a b => by
      simp [Instr.sliceBound, asIntOf, a, b]
    have el : l.toNat ≤ h.toNat := by omega
    rcases hlo with ⟨q1, q3⟩ | ⟨kl, q1⟩ <;> rcases hhi with ⟨q2, q4⟩ | ⟨kh, q2⟩ <;> rw [q1, q2]
    · have g1 : l.toNat = 0 := by omega
      have g2 : h.toNat = n := by omega
      simp [Instr.sliceBounds, g1, g2]
    · have g1 : l.toNat = 0 := by omega
      simp [Instr.sliceBounds, g1, sb kh h c _ (by omega) (by omega)]
    · have g2 : h.toNat = n := by omega
      simp [Instr.sliceBounds, g2, sb kl l n _ (by omega) (by omega)]
    · simp [Instr.sliceBounds, sb kh h c _ (by omega) (by omega), sb kl l h.toNat _ (by omega) (by omega)]
  simp [Instr.sliceAt, Instr.slice, run_underlying e1, Sem.run_bind, hb, sizeOf, typeInfo, e2, e3]
/-- a part of a slice that stays -/
theorem op_sls {T e : TypeId} {sz by' n : Nat} {x : Operand} {lo hi : Option Operand} {L : List Value} {l h : Int} (ho : o.op = .slice T x lo hi none) (hT : slE P T = some (e, sz, by')) (hx : Ev pc F x (.slf sz n L)) (hlo : Bd pc F lo 0 l) (hhi : Bd pc F hi n h)
    (hb : pc = true → 0 ≤ l ∧ l ≤ h ∧ h ≤ n) : DOp P pc o F M [] (.slf sz (h.toNat - l.toNat) ((L.drop (l.toNat * sz)).take ((h.toNat - l.toNat) * sz))) [] := by
  intro hp a s hok hops _
  obtain ⟨b1, b2, b3⟩ := hb hp
  have hr := ev_at hp hx (by simp [ho, Op.operands]) hops
  generalize hv : a.eval x = vx at hr
  cases hr with
  | @slf _ _ cap ad _ hl hn hc ha hL =>
    refine dg_val hok (run_slice ho hT hv (bd_at hp hlo (fun u e => by subst e; simp [ho, Op.operands]) hops) (bd_at hp hhi (fun u e => by subst e; simp [ho, Op.operands]) hops) b1 b2 b3 hn) ?_
    have hlen : ((L.drop (l.toNat * sz)).take ((h.toNat - l.toNat) * sz)).length = (h.toNat - l.toNat) * sz := by
      rw [List.length_take, List.length_drop, hl, ← Nat.mul_sub_right_distrib]
      exact Nat.min_eq_left (Nat.mul_le_mul_right _ (by omega))
    refine .slf hlen (by omega) (by omega) (fun e => ?_) ?_
    · split at e
      · omega
      · cases ad with
        | none => have := ha rfl; omega
        | some ad => cases e
    · rcases hL with rfl | ⟨b, q, rfl, hI, hcl⟩
      · left; simp
      · by_cases hz : cap = l.toNat
        · left
          have : h.toNat - l.toNat = 0 := by omega
          rw [this]; simp
        · right
          rw [if_neg hz]
          exact ⟨b, q + l.toNat * sz, by rw [Option.map_some, Addr.add_mid], hI, cellsAt_sub hcl _ _⟩
theorem op_slsr {α : Type} {en : α → List Value} {r : List α} {T e : TypeId} {sz by' : Nat} {x : Operand} {lo hi : Option Operand} {l h : Int} {i j : Nat} (hen : ∀ a, (en a).length = sz) (ho : o.op = .slice T x lo hi none) (hT : slE P T = some (e, sz, by')) (hx : Ev pc F x (.slf sz r.length (r.flatMap en))) (hlo : Bd pc F lo 0 l) (hhi : Bd pc F hi r.length h)
    (hl : l = (i : Int)) (hh : h = (j : Int)) (hij : pc = true → i ≤ j ∧ j ≤ r.length) : DOp P pc o F M [] (.slf sz (j - i) (((r.drop i).take (j - i)).flatMap en)) [] := by
  subst hl hh
  have := op_sls (P := P) (M := M) ho hT hx hlo hhi (fun hp => by have := hij hp; omega)
  rw [Int.toNat_natCast, Int.toNat_natCast, flat_drop hen, flat_take hen] at this
  exact this
section
variable {T e : TypeId} {sz by' n : Nat} {ps : List (Nat × Operand)} {vs Z : List Value}
/-- .. as an array of its own, in the place j -/
theorem op_bsa (j : Nat) (ho : o.op = .buildSlice T n ps.toArray) (hT : slE P T = some (e, sz, by')) (hZ : zrC P e = some Z) (hi : ps.map (·.1) = List.range' 0 n) (hv : EvV pc F (ps.map (·.2)) vs) (hs : vs.all (fun v => v.cells.size == sz) = true) (hbig : n * sz ≤ 16777216) (hn : n ≤ 16777216) (hj : M[j]? = some .hole) :
    DOp P pc o F M [j] (.arr j) [(j, .arr e sz n (vs.flatMap fun v => v.cells.toList))] := by
  intro hp a s hok hops hfp
  have hs' : ∀ v ∈ vs, v.cells.size = sz := fun v hv => by simpa using List.all_eq_true.1 hs v hv
  have hvs := evV_ps hp ho hv hops
  have hlen : vs.length = n := by
    rw [← hvs, List.length_map, List.length_map]
    have := congrArg List.length hi
    simpa using this
  have hj' : s.M[j]? = some .hole := by rw [hfp j (by simp)]; exact hj
  have hjl : j < s.β.length := by rw [hok.len]; exact (List.getElem?_eq_some_iff.1 hj').1
  have hrun := run_buildSlice (P := P) (w := s.w) ho hT hZ hi hvs hs' hbig
  refine dg_step (s' := ⟨s.β.set j (.slice (some ⟨s.w.heap.size, 0, none⟩) n n), s.I, s.M.set j (.arr e sz n (vs.flatMap fun v => v.cells.toList)), _⟩) hrun (tr_new hok hj' _ _ _ (by simp) (fun b hb => by cases hb; rfl) (fun b h => Below.heap_alloc _ _ _ h) (fun b hb => by cases hb; simp) (by simp) rfl rfl rfl ?_) rfl (.arr (by simp [hjl]))
  have := World.ownsRow_lit (base := 0) (e := e) (size := sz) s.w (vs.flatMap fun v => v.cells.toList).toArray n (Nat.zero_le _) (by unfold maxLen; omega) (by simp only [List.size_toArray]; rw [cells_sum hs', hlen])
  exact this
end

/-! ### append -/
theorem src_arr {i m sz : Nat} {T' : TypeId} {L2 : List Value} (hM : M[i]? = some (.arr T' sz m L2)) : SrcD M [i] (.arr i) m sz L2 := by
  intro s v hok hfp hr
  cases hr with
  | @arr _ ad n' c h =>
    have hM' : s.M[i]? = some (.arr T' sz m L2) := by rw [hfp i (by simp)]; exact hM
    have hk : s.w.ownsRow 0 T' sz _ m L2 := hok.blk i _ _ hM' h
    refine ⟨hk.1, ad, c, ?_, ?_⟩
    · rcases hk.2 with ⟨e1, e2⟩ | ⟨g, cap, cur, e1, _⟩
      · cases e1; rw [e2]
      · cases e1; rfl
    · rcases hk.2 with ⟨e1, e2⟩ | ⟨g, cap, cur, e1, _⟩
      · cases e1
        subst e2
        exact .inl ⟨rfl, rfl, rfl, List.eq_nil_of_length_eq_zero (by simpa using hk.1)⟩
      · cases e1
        obtain ⟨_, _, _, _, hc, _⟩ := arr_cells hok (by rw [hfp i (by simp)]; exact hM) h
        exact .inr ⟨_, rfl, fun j u hj => by rw [Addr.add_mid]; simpa using hc j u hj⟩
end
end Go.Proofs.YtnjnhghafjlmbaaGreat
namespace Go.Proofs.YtnjnhghafjlmbaaGreat
set_option linter.unusedVariables false
set_option linter.unusedSimpArgs false
open Go.RowKit
section
variable {P : Program} {fn : Func} {F : Fr} {M : List Blk} {t u v : Tmp} {d d' e f dr : D}
end
section
variable {P : Program} {pc : Bool} {o : Oper} {F : Fr} {M : List Blk}

/-! ### structs built -/
theorem op_neb {T T' : TypeId} {x y : Operand} {p q : Bool} (ho : o.op = .binOp .neq T x y T') (hT : P.underlying T = some .bool) (hx : Ev pc F x (.val (.bool p))) (hy : Ev pc F y (.val (.bool q))) : DOp P pc o F M [] (.val (.bool (p != q))) [] :=
  op_nev ho hx hy (fun w => by unfold eqGuard; rfl) fun w => by
    have h : ∀ d, (Op.equalIn (d + 1) T (.bool p) (.bool q)).run P w = .ok (p == q) w := fun d => by simp [Op.equalIn, run_underlying hT]
    show (do pure (Value.bool (!(← Op.equalIn (9999 + 1) T (.bool p) (.bool q)))) : Sem Value).run P w = _
    rw [Sem.run_bind, h 9999]; rfl
theorem op_min {x y : Operand} {T U : TypeId} {k : IntKind} {p q : Int} (ho : o.op = .call { callee := .builtin .min, args := #[x, y], argTypes := #[T, U] }) (hx : Ev pc F x (.val (.int k p))) (hy : Ev pc F y (.val (.int k q))) : DOp P pc o F M [] (.val (.int k (min p q))) [] := by
  refine op_val2 hx hy (by simp [ho, Op.operands, Call.operands]) fun _ a w e1 e2 => run_builtin ho (fun cs => rfl) ?_
  have : (if q < p then q else p) = min p q := by rw [Int.min_def]; split <;> split <;> omega
  simp [Builtin.min_, e1, e2, Builtin.min2, this]
end
section
variable {P : Program} {s0 : St} {n : Cx}
/-- a nil slice taken over as an array of its own -/
theorem inv_adopt {F : Fr} {M : List Blk} {a : Act} {w : World} {t : Nat} (e : TypeId) (sz : Nat) (h : Inv s0 n F M a w) (ht : lk F t = some (.val (.slice none 0 0))) : Inv s0 n ((t, .arr M.length) :: F) (M ++ [.arr e sz 0 []]) a w := by
  obtain ⟨h0, s, rfl, rfl, h3, h4, h5, h6⟩ := h
  have t1 := step_hole h3.ok
  have hlen := h3.ok.len
  have hn : (s.M ++ [Blk.hole])[s.M.length]? = some .hole := by simp
  have t2 : Tr ⟨s.β ++ [Value.nilFunc], s.I, s.M ++ [Blk.hole], s.w⟩ ⟨(s.β ++ [Value.nilFunc]).set s.M.length (.slice none 0 0), s.I, (s.M ++ [Blk.hole]).set s.M.length (.arr e sz 0 []), s.w⟩ :=
    tr_new (s := ⟨s.β ++ [Value.nilFunc], s.I, s.M ++ [Blk.hole], s.w⟩) t1.ok (j := s.M.length) hn (.slice none 0 0) (.arr e sz 0 []) s.w (by simp) (fun b hb => by cases hb) (fun b _ => rfl) (fun b hb => by cases hb) (Nat.le_refl _) rfl rfl rfl (World.ownsRow_nil s.w 0 e sz)
  have tt := t1.trans t2
  refine ⟨h0, ⟨(s.β ++ [Value.nilFunc]).set s.M.length (.slice none 0 0), s.I, (s.M ++ [Blk.hole]).set s.M.length (.arr e sz 0 []), s.w⟩, by simp, rfl, h3.trans tt, fun x d hd => ?_, h5, h6.mono h3.ok tt⟩
  rw [lk_cons] at hd
  split at hd
  · rename_i e'
    subst e'
    obtain rfl := Option.some.inj hd
    have := (h4 t _ ht).val_eq
    rw [this]
    exact .arr (by simp [hlen])
  · exact (h4 x d hd).mono h3.ok tt
theorem dwp_adopt {c : Code} {F : Fr} {M M' : List Blk} {K : Cont} (t : Nat) (e : TypeId) (sz : Nat) {m : Nat} (ht : lk F t = some (.val (.slice none 0 0))) (hm : M.length = m) (hM : M ++ [.arr e sz 0 []] = M') (h : dwp P s0 n c ((t, .arr m) :: F) M' K) : dwp P s0 n c F M K := by
  subst hm hM
  exact fun a w hi => h a w (inv_adopt e sz hi ht)
end
end Go.Proofs.YtnjnhghafjlmbaaGreat
namespace Go.Proofs.YtnjnhghafjlmbaaGreat
set_option linter.unusedVariables false
set_option linter.unusedSimpArgs false
open Go.RowKit
section
variable {P : Program} {s0 : St} {n : Cx}
/-- .. nor is a row of one's own -/
theorem dwp_lena {c : Code} {F : Fr} {M : List Blk} {K : Cont} {T : TypeId} {i sz m : Nat} {L : List Value} (hM : M[i]? = some (.arr T sz m L)) (hk : m ≤ 9223372036854775807 → L.length = m * sz → dwp P s0 n c F M K) : dwp P s0 n c F M K := by
  intro a w hi
  obtain ⟨h0, s, h1, h2, h3, h4, h5, h6⟩ := hi
  have hil : i < s.β.length := by rw [h3.ok.len, h1]; exact (List.getElem?_eq_some_iff.1 hM).1
  have hM' : s.M[i]? = some (.arr T sz m L) := by rw [h1]; exact hM
  have hk' : s.w.ownsRow 0 T sz s.β[i] m L := h3.ok.blk i _ _ hM' (List.getElem?_eq_getElem hil)
  have hb : m ≤ 9223372036854775807 := by
    rcases hk'.2 with ⟨_, e2⟩ | ⟨g, cap, cur, e1, e2, e3, e4, e5, e6, e7⟩
    · omega
    · exact Nat.le_trans e4 e5
  exact hk hb hk'.1 a w ⟨h0, s, h1, h2, h3, h4, h5, h6⟩
variable {ops : Array Oper}
/-- is a slice nil? -/
theorem walk_nil? {o : Oper} {rest : List Oper} {F : Fr} {M : List Blk} {K : Cont} {T T' e : TypeId} {sz by' m t : Nat} {L : List Value} {x : Operand} (hg : o.guard = none) (hd : o.dst = some t) (ht : Nat.blt t n.n = true) (ho : o.op = .binOp .eql T x (.const (.slice none 0 0)) T') (hT : slE P T = some (e, sz, by')) (hx : Ev true F x (.slf sz m L))
    (hk : ∀ b, (b = true → m = 0 ∧ L = []) → Walk P s0 n ops rest ((t, .val (.bool b)) :: F) M K) : Walk P s0 n ops (o :: rest) F M K := by
  intro a w hi
  have hi' := hi
  obtain ⟨h0, s, h1, h2, h3, h4, h5, h6⟩ := hi
  obtain ⟨dx, ex1, ex2⟩ := hx
  have hrx := ex2 s _ rfl (ev_rep h4 ex1)
  generalize hvx : a.eval x = vx at hrx
  cases hrx with
  | @slf _ _ cap ad _ hl hn hc ha hm =>
    obtain ⟨hu, _⟩ := slE_spec hT
    have hrun : (execOp a.eval o).run P w = .ok (.value (.bool ad.isNone)) w := by
      unfold execOp
      simp only [ho]
      have hv : a.eval (.const (.slice none 0 0)) = .slice none 0 0 := rfl
      rw [hv, hvx]
      refine run_v ?_
      simp only [eqGuard, binOp, Sem.run_bind]
      have heq : ∀ d, (Op.equalIn (d + 1) T (.slice ad m cap) (.slice none 0 0)).run P w = .ok ad.isNone w := fun d => by
        unfold Op.equalIn
        rw [Sem.run_bind, run_underlying hu]
        cases ad <;> simp
      have heq' : (Op.equalIn Op.maxDepth T (.slice ad m cap) (.slice none 0 0)).run P w = .ok ad.isNone w := heq 9999
      simp [Op.equal, heq', Sem.run_bind, go_sem]
    have hfin := hk ad.isNone (fun hb => by
      cases ad with
      | none => have := ha rfl; exact ⟨by omega, List.eq_nil_of_length_eq_zero (by rw [hl, show m = 0 by omega]; simp)⟩
      | some q => cases hb) (a.put o.dst (.bool ad.isNone)) w (by
        obtain ⟨h0, s, h1, h2, h3, h4, h5, h6⟩ := hi'
        refine ⟨h0, s, h1, h2, h3, ?_, by rw [put_size]; exact h5, by rw [put_def]; exact h6⟩
        rw [hd]
        exact h4.put (by rw [h5]; exact Nat.blt_eq.mp ht) (.val _))
    show if Region.wanted o (yielded ops a.tmps) then _ else _
    have hw : Region.wanted o (yielded ops a.tmps) = true := by unfold Region.wanted; rw [hg]
    rw [if_pos hw]
    refine ⟨fun _ _ => trivial, ?_⟩
    rw [semAt_noDef (by rw [ho]; rfl), hrun]
    exact hfin
end
section
variable {P : Program} {pc : Bool} {o : Oper} {F : Fr} {M : List Blk} {α : Type} {en : α → List Value} {T T' e : TypeId} {sz by' k n i j : Nat} {l : List α} {x y : Operand}
/-- an element of a row of one's own: its place -/
theorem op_ixar {kd : IntKind} {z : Int} (ho : o.op = .indexAddr T x y) (hT : slE P T = some (e, sz, by')) (hx : Ev pc F x (.arr i)) (hy : Ev pc F y (.val (.int kd z))) (hM : M[i]? = some (.arr T' sz n (l.flatMap en))) (hz : pc = true → z = (j : Int)) (hj : pc = true → j < n) : DOp P pc o F M [i] (.aloc i (j * sz)) [] := by
  cases pc with
  | false => intro h; cases h
  | true =>
    have hz := hz rfl
    have hj := hj rfl
    subst hz
    have := op_ixa ho hT hx hy hM (fun _ => ⟨by omega, by omega⟩)
    simpa using this
/-- .. it as a whole -/
theorem op_ldar (ho : o.op = .load T x) (hT : tyB P T = some (true, sz)) (hx : Ev pc F x (.aloc i (j * sz))) (hM : M[i]? = some (.arr T' sz n (l.flatMap en))) (hen : ∀ a, (en a).length = sz) (hj : j < l.length) : DOp P pc o F M [i] (.val (.agg (en l[j]).toArray)) [] :=
  op_ldra ho hT hx hM (flat_one hen hj) (hen _)
/-- .. it stored -/
theorem op_star {q : α} (ho : o.op = .store T x y) (hT : tyB P T = some (true, sz)) (hx : Ev pc F x (.aloc i (j * sz))) (hM : M[i]? = some (.arr T' sz n (l.flatMap en))) (hy : Ev pc F y (.val (.agg (en q).toArray))) (hen : ∀ a, (en a).length = sz) (hj : j < l.length) (h1 : (en q).all (·.oneCell') = true) : DOp P pc o F M [i] .junk [(i, .arr T' sz n ((l.set j q).flatMap en))] :=
  op_sta ho hT hx hy hM (by simp [Value.cells]) (hen _) h1 (by
    have h2 : (j + 1) * sz ≤ l.length * sz := Nat.mul_le_mul_right _ hj
    rw [Nat.succ_mul] at h2
    rw [hen, flat_len hen]; exact h2) (flat_set hen hj q)
end
end Go.Proofs.YtnjnhghafjlmbaaGreat
namespace Go.Proofs.YtnjnhghafjlmbaaGreat
set_option linter.unusedVariables false
set_option linter.unusedSimpArgs false
open Go.RowKit
theorem flat_oc {α : Type} {en : α → List Value} (h : ∀ a, (en a).all (·.oneCell') = true) (l : List α) : (l.flatMap en).all (·.oneCell') = true := by
  induction l with
  | nil => rfl
  | cons a l ih => rw [List.flatMap_cons, List.all_append, h, ih]; rfl
section
variable {P : Program} {s0 : St} {n : Cx}
end
end Go.Proofs.YtnjnhghafjlmbaaGreat
namespace Go.Proofs.YtnjnhghafjlmbaaGreat
set_option linter.unusedVariables false
set_option linter.unusedSimpArgs false
open Go.RowKit
section
variable {P : Program} {pc : Bool} {o : Oper} {F : Fr} {M : List Blk}
end
section
variable {P : Program} {pc : Bool} {o : Oper} {F : Fr} {M : List Blk}
/-- parts of a row that stays -/
theorem op_slmd {α : Type} {en : α → List Value} {r : List α} {T e : TypeId} {sz by' : Nat} {x : Operand} {lo hi : Option Operand} {l h : Int} {i j : Nat} (ho : o.op = .slice T x lo hi none) (hT : slE P T = some (e, sz, by')) (hx : Ev pc F x (.slf sz r.length (r.flatMap en))) (hlo : Bd pc F lo 0 l) (hhi : Bd pc F hi r.length h)
    (hl : pc = true → l = (i : Int)) (hh : pc = true → h = (j : Int)) (hij : pc = true → i ≤ j ∧ j ≤ r.length) (hen : ∀ a, (en a).length = sz) : DOp P pc o F M [] (.slf sz ((r.drop i).take (j - i)).length (((r.drop i).take (j - i)).flatMap en)) [] := fun hp => by
  have := hij hp
  rw [show ((r.drop i).take (j - i)).length = j - i by rw [List.length_take, List.length_drop]; omega]
  exact op_slsr hen ho hT hx hlo hhi (hl hp) (hh hp) hij hp
theorem op_sltk {α : Type} {en : α → List Value} {r : List α} {T e : TypeId} {sz by' : Nat} {x : Operand} {hi : Option Operand} {h : Int} {j : Nat} (ho : o.op = .slice T x none hi none) (hT : slE P T = some (e, sz, by')) (hx : Ev pc F x (.slf sz r.length (r.flatMap en))) (hhi : Bd pc F hi r.length h)
    (hh : pc = true → h = (j : Int)) (hij : pc = true → j ≤ r.length) (hen : ∀ a, (en a).length = sz) : DOp P pc o F M [] (.slf sz (r.take j).length ((r.take j).flatMap en)) [] :=
  op_slmd (i := 0) ho hT hx (bd_none (z := 0)) hhi (fun _ => rfl) hh (fun hp => ⟨Nat.zero_le _, hij hp⟩) hen
end
end Go.Proofs.YtnjnhghafjlmbaaGreat
namespace Go.Proofs.YtnjnhghafjlmbaaGreat
set_option linter.unusedVariables false
set_option linter.unusedSimpArgs false
open Go.ChangeShapes Go.WideShapes Go.ChangeAt Go.RowKit Go.Joins Go.Deep
set_option maxRecDepth 100000
section
variable {H : Type} {enc : TypeId × Value → H} {w : World} {base b0 : Nat} {r : Reach} {spare : Nat → Bool} {held : Bool} {v : Value} {d : DataW H} {p : List MemPlace}
theorem open_prim {α : Type} {t : TypeId} {q : Prim} (mk : α → Value) (ok : α → Prop) (hP : ∀ v, q.is v → ∃ a, ok a ∧ v = mk a) (hf : flatT Tryz.prog 1 t = some [q]) (hv : ∃ u : Value, v = u ∧ u.cells = #[u]) (h : DataW.Trod enc Tryz.prog w base spare held t v d p) : ∃ a, ok a ∧ v = mk a := by
  obtain ⟨u, rfl, hc⟩ := hv
  obtain ⟨fuel, hfu⟩ := h
  have hfit := flat_trod 1 _ _ _ _ _ hf hfu
  rw [hc] at hfit
  exact hP v hfit.1
end
end Go.Proofs.YtnjnhghafjlmbaaGreat
namespace Go.Proofs.YtnjnhghafjlmbaaGreat
set_option linter.unusedVariables false
set_option linter.unusedSimpArgs false
open Go.RowKit
theorem frB_sw {f : FrM} {j : Nat} {p : Pl} (h : frB f = true) (hp : siB f.fo j p = true) : frB (f.sw j p) = true := by
  obtain ⟨h1, h2, h3, h4, h5⟩ := frB_iff.1 h
  refine frB_iff.2 ⟨h1, h2, h3, h4, fun i hi => ?_⟩
  rw [sw_st]
  by_cases hij : i = j
  · rw [if_pos hij, hij]; exact hp
  · rw [if_neg hij]; exact h5 i hi
theorem vB_max {a b : Vec} (ha : vB a = true) (hb : vB b = true) : vB (maxV a b) = true := by
  rw [vB_iff] at *
  refine ⟨?_, fun i hi => ?_⟩
  · show max _ _ = 0
    rw [ha.1, hb.1]; rfl
  · have := ha.2 i hi
    have := hb.2 i hi
    show max _ _ ≤ LAST
    omega
theorem heP_ok {fo j : Nat} {p q : Pl} (hp : siB fo j p = true) (hi : p.inn = true) (hq : plB q = true) : siB fo j (heP p q) = true := by
  obtain ⟨h1, h2, h3⟩ := siB_in hp hi
  obtain ⟨g1, g2, g3, g4⟩ := plB_iff.1 h2
  obtain ⟨k1, k2, k3, k4⟩ := plB_iff.1 hq
  refine siB_iff.2 (.inr ⟨h1, plB_iff.2 ?_, ?_⟩)
  · unfold heP
    split
    · exact ⟨g1, k2, k3, vB_max g4 k4⟩
    · exact ⟨g1, g2, g3, vB_max g4 k4⟩
  · unfold heP
    split
    · dsimp only; omega
    · exact h3
/-- pledges heard, one behind the other -/
def hea1 (f : FrM) (s : Int) (p : Pl) : FrM := if (heaF f s p).2 = 0 then (heaF f s p).1 else f
def heaL (f : FrM) (s : Int) (l : List Pl) : FrM := l.foldl (fun g p => hea1 g s p) f
theorem heaL_take {f : FrM} {s : Int} {l : List Pl} {k : Nat} (h : k < l.length) : heaL f s (l.take (k + 1)) = hea1 (heaL f s (l.take k)) s l[k] := by
  unfold heaL
  rw [List.take_succ_eq_append_getElem h, List.foldl_append]
  rfl
def hePs (p : Pl) (l : List Pl) : Pl := (l.filter plB).foldl heP p
def hearing (f : FrM) (s : Int) : Bool := frB f && isS s && (f.st s.toNat).inn
theorem heP_in (p q : Pl) : (heP p q).inn = p.inn := by unfold heP; split <;> rfl
theorem sw_self (f : FrM) (j : Nat) : f.sw j (f.st j) = f := by
  unfold FrM.sw upV
  have : (fun i => if i = j then f.st j else f.st i) = f.st := by
    funext i
    split <;> simp_all
  rw [this]
theorem hea1_no {f : FrM} {s : Int} {p : Pl} (h : hearing f s = false) : hea1 f s p = f := by
  unfold hea1 heaF
  unfold hearing at h
  cases h1 : frB f <;> cases h2 : isS s <;> cases h3 : plB p <;> cases h4 : (f.st s.toNat).inn <;> simp_all
theorem hea1_yes {f : FrM} {s : Int} {p : Pl} (h : hearing f s = true) : hea1 f s p = if plB p = true then f.sw s.toNat (heP (f.st s.toNat) p) else f := by
  unfold hea1 heaF
  unfold hearing at h
  cases h1 : frB f <;> cases h2 : isS s <;> cases h3 : plB p <;> cases h4 : (f.st s.toNat).inn <;> simp_all
theorem hearing_sw {f : FrM} {s : Int} {p : Pl} (h : hearing f s = true) (hp : plB p = true) : hearing (f.sw s.toNat (heP (f.st s.toNat) p)) s = true := by
  have h0 := h
  unfold hearing at h
  rw [Bool.and_eq_true, Bool.and_eq_true] at h
  obtain ⟨⟨h1, h2⟩, h3⟩ := h
  have hs := isS_iff.1 h2
  unfold hearing
  rw [sw_at, heP_in, h3, h2, frB_sw h1 (heP_ok ((frB_iff.1 h1).2.2.2.2 _ (by omega)) h3 hp)]
  rfl
theorem heaL_no {f : FrM} {s : Int} (h : hearing f s = false) : ∀ l, heaL f s l = f
  | [] => rfl
  | p :: l => by
    unfold heaL
    rw [List.foldl_cons, hea1_no h]
    exact heaL_no h l
theorem heaL_yes : ∀ (l : List Pl) {f : FrM} {s : Int}, hearing f s = true → heaL f s l = f.sw s.toNat (hePs (f.st s.toNat) l) ∧ hearing (heaL f s l) s = true
  | [], f, s, h => ⟨(sw_self _ _).symm, h⟩
  | p :: l, f, s, h => by
    have e : heaL f s (p :: l) = heaL (hea1 f s p) s l := rfl
    rw [e, hea1_yes h]
    cases hp : plB p
    · rw [if_neg (by decide)]
      have := heaL_yes l h
      refine ⟨?_, this.2⟩
      rw [this.1]
      unfold hePs
      rw [List.filter_cons_of_neg (by rw [hp]; decide)]
    · rw [if_pos rfl]
      have := heaL_yes l (hearing_sw h hp)
      refine ⟨?_, this.2⟩
      rw [this.1, sw_sw, sw_at]
      unfold hePs
      rw [List.filter_cons_of_pos hp, List.foldl_cons]
theorem heP_fl (p q : Pl) : (heP p q).fl = max p.fl q.fl := by unfold heP; split <;> (dsimp only; omega)
theorem heP_has (p q : Pl) : (heP p q).has = maxV p.has q.has := by unfold heP; split <;> rfl
def haL (v : Vec) (l : List Pl) (i : Nat) : Nat := l.foldl (fun m q => max m (q.has i)) (v i)
theorem hePs_parts : ∀ (l : List Pl) (p : Pl), (l.foldl heP p).fl = flL p.fl l ∧ (l.foldl heP p).has = haL p.has l ∧ (l.foldl heP p).inn = p.inn
  | [], _ => ⟨rfl, rfl, rfl⟩
  | q :: l, p => by
    rw [List.foldl_cons]
    obtain ⟨h1, h2, h3⟩ := hePs_parts l (heP p q)
    refine ⟨?_, ?_, ?_⟩
    · rw [h1, heP_fl]; rfl
    · rw [h2, heP_has]; rfl
    · rw [h3, heP_in]
theorem max_ge (g : Pl → Nat) : ∀ (l : List Pl) (n : Nat), n ≤ l.foldl (fun m q => max m (g q)) n ∧ ∀ q ∈ l, g q ≤ l.foldl (fun m q => max m (g q)) n
  | [], n => ⟨Nat.le_refl _, by simp⟩
  | a :: l, n => by
    rw [List.foldl_cons]
    obtain ⟨h1, h2⟩ := max_ge g l (max n (g a))
    refine ⟨by omega, fun q hq => ?_⟩
    rcases List.mem_cons.1 hq with rfl | hq
    · omega
    · exact h2 q hq
theorem max_le (g : Pl → Nat) : ∀ (l : List Pl) (n m : Nat), n ≤ m → (∀ q ∈ l, g q ≤ m) → l.foldl (fun m q => max m (g q)) n ≤ m
  | [], _, _, h, _ => h
  | a :: l, n, m, h, k => by
    rw [List.foldl_cons]
    exact max_le g l _ m (by have := k a (by simp); omega) fun q hq => k q (List.mem_cons_of_mem _ hq)
theorem heP_idem {p q : Pl} (h1 : q.fl ≤ p.fl) (h2 : ∀ i, q.has i ≤ p.has i) : heP p q = p := by
  unfold heP
  rw [if_neg (by omega)]
  have : maxV p.has q.has = p.has := by
    funext i
    show max _ _ = _
    have := h2 i
    omega
  rw [this]
theorem hePs_idem : ∀ (l : List Pl) (p : Pl), (∀ q ∈ l, q.fl ≤ p.fl ∧ ∀ i, q.has i ≤ p.has i) → l.foldl heP p = p
  | [], _, _ => rfl
  | q :: l, p, h => by
    rw [List.foldl_cons, heP_idem (h q (by simp)).1 (h q (by simp)).2]
    exact hePs_idem l p fun q hq => h q (List.mem_cons_of_mem _ hq)
theorem hePs_twice (l : List Pl) (p : Pl) : hePs (hePs p l) l = hePs p l := by
  unfold hePs
  refine hePs_idem _ _ fun q hq => ?_
  obtain ⟨h1, h2, _⟩ := hePs_parts (l.filter plB) p
  rw [h1, h2]
  exact ⟨(max_ge (fun q => q.fl) _ _).2 q hq, fun i => (max_ge (fun q => q.has i) _ _).2 q hq⟩
theorem heaL_append (f : FrM) (s : Int) (l r : List Pl) : heaL f s (l ++ r) = heaL (heaL f s l) s r := List.foldl_append
theorem heaL_twice (f : FrM) (s : Int) (l : List Pl) : heaL f s (l ++ l) = heaL f s l := by
  rw [heaL_append]
  cases h : hearing f s
  · rw [heaL_no h, heaL_no h]
  · obtain ⟨h1, h2⟩ := heaL_yes l h
    rw [(heaL_yes l h2).1, h1, sw_sw, sw_at, hePs_twice]
theorem hePs_rev (l : List Pl) (p : Pl) : (hePs p l.reverse).fl = (hePs p l).fl ∧ (hePs p l.reverse).has = (hePs p l).has ∧ (hePs p l.reverse).inn = (hePs p l).inn := by
  unfold hePs
  rw [List.filter_reverse]
  generalize l.filter plB = r
  obtain ⟨h1, h2, h3⟩ := hePs_parts r p
  obtain ⟨g1, g2, g3⟩ := hePs_parts r.reverse p
  have key : ∀ (g : Pl → Nat) n, r.reverse.foldl (fun m q => max m (g q)) n = r.foldl (fun m q => max m (g q)) n := fun g n => by
    refine Nat.le_antisymm (max_le g _ _ _ (max_ge g r n).1 fun q hq => (max_ge g r n).2 q (List.mem_reverse.1 hq)) (max_le g _ _ _ (max_ge g r.reverse n).1 fun q hq => (max_ge g r.reverse n).2 q (List.mem_reverse.2 hq))
  refine ⟨?_, ?_, ?_⟩
  · rw [g1, h1]; exact key (fun q => q.fl) _
  · rw [g2, h2]; funext i; exact key (fun q => q.has i) _
  · rw [g3, h3]
theorem heaL_rev (f : FrM) (s : Int) (l : List Pl) (i : Nat) : ((heaL f s l.reverse).st i).fl = ((heaL f s l).st i).fl ∧ ((heaL f s l.reverse).st i).has = ((heaL f s l).st i).has ∧ ((heaL f s l.reverse).st i).inn = ((heaL f s l).st i).inn := by
  cases h : hearing f s
  · rw [heaL_no h, heaL_no h]; exact ⟨rfl, rfl, rfl⟩
  · rw [(heaL_yes l h).1, (heaL_yes l.reverse h).1, sw_st, sw_st]
    split
    · exact hePs_rev l _
    · exact ⟨rfl, rfl, rfl⟩
theorem heaL_keep (f : FrM) (s : Int) (l : List Pl) : (heaL f s l).fo = f.fo ∧ (heaL f s l).pr = f.pr ∧ (frB f = true → frB (heaL f s l) = true) := by
  cases h : hearing f s
  · rw [heaL_no h]; exact ⟨rfl, rfl, id⟩
  · obtain ⟨h1, h2⟩ := heaL_yes l h
    refine ⟨by rw [h1]; rfl, by rw [h1]; rfl, fun _ => ?_⟩
    unfold hearing at h2
    rw [Bool.and_eq_true, Bool.and_eq_true] at h2
    exact h2.1.1
end Go.Proofs.YtnjnhghafjlmbaaGreat
namespace Go.Proofs.YtnjnhghafjlmbaaGreat
set_option linter.unusedVariables false
set_option linter.unusedSimpArgs false
open Go.RowKit
theorem un4 : Tryz.prog.underlying 4 = some .bool := by kernel_rfl
end Go.Proofs.YtnjnhghafjlmbaaGreat
namespace Go.Proofs.YtnjnhghafjlmbaaGreat
set_option linter.unusedVariables false
set_option linter.unusedSimpArgs false
open Go.RowKit
theorem hea1_eq (g : FrM) (n : Int) (q : Pl) : (if (heaF g n q).2 = 0 then (heaF g n q).1 else g) = hea1 g n q := rfl
def swp (l : List Pl) (k : Nat) : List Pl := (l.set k (l.getD (l.length - 1 - k) zP)).set (l.length - 1 - k) (l.getD k zP)
def rvTo (l : List Pl) : Nat → List Pl
  | 0 => l
  | k + 1 => swp (rvTo l k) k
theorem swp_len (l : List Pl) (k : Nat) : (swp l k).length = l.length := by unfold swp; simp
theorem rvTo_len (l : List Pl) : ∀ k, (rvTo l k).length = l.length
  | 0 => rfl
  | k + 1 => by show (swp _ _).length = _; rw [swp_len, rvTo_len l k]
theorem rvTo_at (l : List Pl) : ∀ k, 2 * k ≤ l.length + 1 → ∀ i (hi : i < l.length), (rvTo l k)[i]? = if i < k ∨ l.length - 1 - k < i then l[l.length - 1 - i]? else l[i]?
  | 0, _, i, hi => by
    rw [if_neg (by omega)]
    rfl
  | k + 1, h, i, hi => by
    have hl := rvTo_len l k
    have ih := fun j hj => rvTo_at l k (by omega) j hj
    show (swp (rvTo l k) k)[i]? = _
    unfold swp
    rw [hl, List.getElem?_set, List.getElem?_set]
    have g1 : (rvTo l k).getD k zP = l.getD k zP := by
      rw [List.getD_eq_getElem?_getD, List.getD_eq_getElem?_getD, ih k (by omega), if_neg (by omega)]
    have g2 : (rvTo l k).getD (l.length - 1 - k) zP = l.getD (l.length - 1 - k) zP := by
      rw [List.getD_eq_getElem?_getD, List.getD_eq_getElem?_getD, ih _ (by omega), if_neg (by omega)]
    have e : ∀ j, j < l.length → some (l.getD j zP) = l[j]? := fun j hj => by
      rw [List.getD_eq_getElem?_getD, List.getElem?_eq_getElem hj]; rfl
    by_cases h1 : l.length - 1 - k = i
    · rw [if_pos h1, if_pos (by simp [hl]; omega), g1, if_pos (by omega), e k (by omega)]
      congr 1
      omega
    · rw [if_neg h1]
      by_cases h2 : k = i
      · rw [if_pos h2, if_pos (by omega), g2, if_pos (by omega), e _ (by omega)]
        congr 1
        omega
      · rw [if_neg h2, ih i hi]
        by_cases h3 : i < k ∨ l.length - 1 - k < i
        · rw [if_pos h3, if_pos (by omega)]
        · rw [if_neg h3, if_neg (by omega)]
theorem rvTo_end (l : List Pl) {k : Nat} (h1 : 2 * k ≤ l.length + 1) (h2 : l.length ≤ 2 * k + 1) : rvTo l k = l.reverse := by
  apply List.ext_getElem?
  intro i
  by_cases hi : i < l.length
  · rw [rvTo_at l k h1 i hi, List.getElem?_reverse hi]
    by_cases h3 : i < k ∨ l.length - 1 - k < i
    · rw [if_pos h3]
    · rw [if_neg h3]
      congr 1
      omega
  · rw [List.getElem?_eq_none (by rw [rvTo_len]; omega), List.getElem?_eq_none (by simp; omega)]
set_option maxRecDepth 4000 in
set_option maxHeartbeats 1000000 in
theorem tw1_d (f : FrM) (n : Int) (l : List Pl) : DFun Tryz.prog 41 [.slf 12 (l).length ((l).flatMap plC), .dpf (frC f), .dpf [.int .i64 n]] [] (.val (.agg (frC (heaL f n l)).toArray)) [] := by
  refine zba (N := 29) 0 (by kernel_rfl) Tryz.func41 rfl rfl rfl (by simp only [fr0, Nat.zero_add, Nat.reduceAdd]; exact rfl) rfl fun s0 hs0 => ?_
  refine dwp_len (t := 0) rfl fun hl0 hL0 => ?_
  refine zaf ?_
  refine zaj 1 (by simp only [holes, List.cons_append, List.nil_append]; exact rfl) ?_
  refine zac ?_
  refine zam rfl rfl rfl (zaq 0 rfl zr29 rfl) (by simp only [upd, za, zaa]; exact rfl) ?_
  refine zae ?_
  refine zaf ?_
  refine zaj 1 (by simp only [holes, List.cons_append, List.nil_append]; exact rfl) ?_
  refine zac ?_
  refine zab rfl rfl rfl (op_ldwd rfl tb29 (ev1 rfl) (zao _)) ?_
  refine zam rfl rfl rfl (zaq 1 rfl zr29 rfl) (by simp only [upd, za, zaa]; exact rfl) ?_
  refine zax rfl rfl (op_stwa rfl tb29 (ev1 rfl) (ev1 rfl) rfl (zao _) (frC_oc _) rfl) (by simp only [upd, za, zaa]; exact rfl) ?_
  refine zae ?_
  refine zaf ?_
  refine zaf ?_
  refine zac ?_
  refine zab rfl rfl rfl (zad (.inl rfl) (ev1 rfl)) ?_
  refine zab rfl rfl rfl (op_len rfl sl52 (ev1 rfl)) ?_
  refine zab rfl rfl rfl (zad (.inl rfl) (ev1 rfl)) ?_
  refine zae ?_
  refine zat ?_
  refine dwp_loopS ⟨hs0, rfl⟩ (α := Nat) (fun k => [(13, .val (.int .i64 (k : Int)))]) [(2, _), (4, _), (5, _), (11, _), (12, _)] (fun k => [(1, .flat 29 (frC (heaL f n (l.take k))))]) [_, .hole] (fun k => k ≤ l.length) (fun k => l.length - k) 0 [0, 1] (by omega) rfl ⟨rfl, rfl, rfl, rfl, rfl, trivial⟩ ⟨rfl, trivial⟩ ⟨rfl, rfl, trivial⟩ ?_
  intro k hx
  simp only [upd, za, zaa, List.cons_append, List.nil_append]
  have hk := hx
  refine zaf ?_
  refine zac ?_
  refine zab rfl rfl rfl (op_lss rfl (ev1 rfl) (ev1 rfl)) ?_
  refine zae ?_
  refine zaf ?_
  refine zaw rfl (fun c1 => ?_) (fun c1 => ?_)
  · try simp only [decide_eq_true_eq, decide_eq_false_iff_not, beq_iff_eq, bne_iff_ne, beq_eq_false_iff_ne, bne_eq_false_iff_eq, Bool.not_eq_true', Bool.not_eq_false', Bool.and_eq_true, Bool.or_eq_true, Bool.or_eq_false_iff, ne_eq, Decidable.not_not, Int.not_lt, Int.not_le] at c1
    refine zak ?_
    refine zaf ?_
    refine zat ?_
    refine zaf ?_
    refine zaj 1 (by simp only [holes, List.cons_append, List.nil_append]; exact rfl) ?_
    refine zac ?_
    refine zab rfl rfl rfl (op_ixsr (j := k) rfl sl52 (ev1 rfl) (ev1 rfl) (fun _ => rfl) (by decide) (by omega) (by omega)) ?_
    refine zab rfl rfl rfl (op_ldwd rfl tb26 (ev1 rfl) rfl) ?_
    refine zam rfl rfl rfl (zaq 2 rfl zr26 rfl) (by simp only [upd, za, zaa]; exact rfl) ?_
    refine zax rfl rfl (op_stwa rfl tb26 (ev1 rfl) (ev1 rfl) rfl rfl rfl rfl) (by simp only [upd, za, zaa]; exact rfl) ?_
    refine zae ?_
    refine zaf ?_
    refine zaj 1 (by simp only [holes, List.cons_append, List.nil_append]; exact rfl) ?_
    refine zac ?_
    refine zab rfl rfl rfl (zas rfl tb29 (ev1 rfl) rfl (zao _)) ?_
    refine zab rfl rfl rfl (op_ldod rfl tb3 (ev1 rfl) rfl) ?_
    refine zab rfl rfl rfl (zas rfl tb26 (ev1 rfl) rfl rfl) ?_
    refine zab rfl rfl rfl (zah [] [] [] rfl (ev1 rfl) (ec (ev1 rfl) (ec (ev1 rfl) (ec (ev1 rfl) en))) rfl rfl (hea_d _ _ _) rfl rfl rfl rfl rfl rfl) ?_
    refine zab rfl rfl rfl (zad (.inl rfl) (ev1 rfl)) ?_
    refine zab rfl rfl rfl (op_ext rfl (ev1 rfl) rfl) ?_
    refine zab rfl rfl rfl (op_ext rfl (ev1 rfl) rfl) ?_
    refine zam rfl rfl rfl (zaq 3 rfl zr29 rfl) (by simp only [upd, za, zaa]; exact rfl) ?_
    refine zax rfl rfl (op_stwa rfl tb29 (ev1 rfl) (ev1 rfl) rfl (zao _) (frC_oc _) rfl) (by simp only [upd, za, zaa]; exact rfl) ?_
    refine zab rfl rfl rfl (zad (.inr rfl) (ev1 rfl)) ?_
    refine zae ?_
    refine zaf ?_
    refine zac ?_
    refine zab rfl rfl rfl (zad (.inl rfl) (ev1 rfl)) ?_
    refine zab rfl rfl rfl (zb rfl (ev1 rfl) (ev1 rfl)) ?_
    refine zae ?_
    refine zaw rfl (fun c2 => ?_) (fun c2 => ?_)
    · try simp only [decide_eq_true_eq, decide_eq_false_iff_not, beq_iff_eq, bne_iff_ne, beq_eq_false_iff_ne, bne_eq_false_iff_eq, Bool.not_eq_true', Bool.not_eq_false', Bool.and_eq_true, Bool.or_eq_true, Bool.or_eq_false_iff, ne_eq, Decidable.not_not, Int.not_lt, Int.not_le] at c2
      refine zac ?_
      refine zab rfl rfl rfl (zas rfl tb29 (ev1 rfl) rfl (zao _)) ?_
      refine zax rfl rfl (op_stwa rfl tb29 (ev1 rfl) (ev1 rfl) rfl (zao _) (frC_oc _) rfl) (by simp only [upd, za, zaa]; exact rfl) ?_
      refine zae ?_
      refine zac ?_
      refine zab rfl rfl rfl (op_add' rfl (ev1 rfl) (ev1 rfl) (fun _ => IntWalk.i64_in _ (by omega))) ?_
      refine zab rfl rfl rfl (zad (.inl rfl) (ev1 rfl)) ?_
      refine zae ?_
      refine ⟨k + 1, [0, 1], by omega, by simp only []; omega, rfl, ⟨rfl, rfl, rfl, rfl, rfl, rfl, trivial⟩, ⟨rfl, by rw [heaL_take (by omega), ← hea1_eq, if_pos c2]; rfl, trivial⟩⟩
    · try simp only [decide_eq_true_eq, decide_eq_false_iff_not, beq_iff_eq, bne_iff_ne, beq_eq_false_iff_ne, bne_eq_false_iff_eq, Bool.not_eq_true', Bool.not_eq_false', Bool.and_eq_true, Bool.or_eq_true, Bool.or_eq_false_iff, ne_eq, Decidable.not_not, Int.not_lt, Int.not_le] at c2
      refine zak ?_
      refine zac ?_
      refine zab rfl rfl rfl (op_add' rfl (ev1 rfl) (ev1 rfl) (fun _ => IntWalk.i64_in _ (by omega))) ?_
      refine zab rfl rfl rfl (zad (.inl rfl) (ev1 rfl)) ?_
      refine zae ?_
      refine ⟨k + 1, [0, 1], by omega, by simp only []; omega, rfl, ⟨rfl, rfl, rfl, rfl, rfl, rfl, trivial⟩, ⟨rfl, by rw [heaL_take (by omega), ← hea1_eq, if_neg c2]; rfl, trivial⟩⟩
  · try simp only [decide_eq_true_eq, decide_eq_false_iff_not, beq_iff_eq, bne_iff_ne, beq_eq_false_iff_ne, bne_eq_false_iff_eq, Bool.not_eq_true', Bool.not_eq_false', Bool.and_eq_true, Bool.or_eq_true, Bool.or_eq_false_iff, ne_eq, Decidable.not_not, Int.not_lt, Int.not_le] at c1
    refine dwp_exit ?_
    refine zaf ?_
    refine zac ?_
    refine zab rfl rfl rfl (zas rfl tb29 (ev1 rfl) rfl (zao _)) ?_
    refine zax rfl rfl (op_stwa rfl tb29 (ev1 rfl) (ev1 rfl) rfl (zao _) (frC_oc _) rfl) (by simp only [upd, za, zaa]; exact rfl) ?_
    refine zae ?_
    refine zau ?_
    refine kend0 (rs1 rfl (rv_w tb29 rfl rfl (zao _))) rfl ?_
    rw [List.take_of_length_le (by omega)]
set_option maxRecDepth 4000 in
set_option maxHeartbeats 1000000 in
theorem cloneP (l : List Pl) (h : l.length ≤ 5000) : DFun Tryz.prog 40 [.slf 12 (l).length ((l).flatMap plC)] [] (.arr 0) [.arr 26 12 l.length (l.flatMap plC)] := by
  refine zba (N := 8) 0 (by kernel_rfl) Tryz.func40 rfl rfl rfl (by simp only [fr0, Nat.zero_add, Nat.reduceAdd]; exact rfl) rfl fun s0 hs0 => ?_
  refine dwp_len (t := 0) rfl fun hl0 hL0 => ?_
  refine zaf ?_
  refine zac ?_
  refine zab rfl rfl rfl (zad (.inr rfl) (ev1 rfl)) ?_
  refine zae ?_
  refine zaf ?_
  refine zaf ?_
  refine zac ?_
  refine zab rfl rfl rfl (zad (.inl rfl) (ev1 rfl)) ?_
  refine walk_nil? rfl rfl rfl rfl sl52 (ev1 rfl) fun nb4 hnb4 => ?_
  refine zae ?_
  refine zaw rfl (fun c1 => ?_) (fun c1 => ?_)
  · try simp only [decide_eq_true_eq, decide_eq_false_iff_not, beq_iff_eq, bne_iff_ne, beq_eq_false_iff_ne, bne_eq_false_iff_eq, Bool.not_eq_true', Bool.not_eq_false', Bool.and_eq_true, Bool.or_eq_true, Bool.or_eq_false_iff, ne_eq, Decidable.not_not, Int.not_lt, Int.not_le] at c1
    refine zaf ?_
    refine zac ?_
    refine zab rfl rfl rfl (zad (.inr rfl) (ev1 rfl)) ?_
    refine zae ?_
    refine dwp_adopt 2 26 12 rfl rfl rfl ?_
    refine zau ?_
    refine kend [0] (rs1 rfl (rv_t rfl)) rfl rfl ?_ ⟨?_, trivial⟩
    rfl
    exact (by obtain ⟨h1, h2⟩ := hnb4 c1; simp_all [MFits, vwB])
  · try simp only [decide_eq_true_eq, decide_eq_false_iff_not, beq_iff_eq, bne_iff_ne, beq_eq_false_iff_ne, bne_eq_false_iff_eq, Bool.not_eq_true', Bool.not_eq_false', Bool.and_eq_true, Bool.or_eq_true, Bool.or_eq_false_iff, ne_eq, Decidable.not_not, Int.not_lt, Int.not_le] at c1
    refine zak ?_
    refine zaf ?_
    refine zaj 2 (by simp only [holes, List.cons_append, List.nil_append]; exact rfl) ?_
    refine zac ?_
    refine zam rfl rfl rfl (op_bsa (ps := []) 0 rfl sl52 zr26 rfl vn rfl (by decide) (by decide) rfl) (by simp only [upd, za, zaa]; exact rfl) ?_
    refine zab rfl rfl rfl (zad (.inl rfl) (ev1 rfl)) ?_
    refine zam rfl rfl rfl (op_app (j := 1) rfl sl52 zr26 rfl (ev1 rfl) (ev1 rfl) src_slf rfl rfl (fun _ => flat_oc (fun _ => rfl) l) (fun _ => ⟨by omega, by omega⟩)) (by simp only [upd, za, zaa]; exact rfl) ?_
    refine zab rfl rfl rfl (zad (.inr rfl) (ev1 rfl)) ?_
    refine zae ?_
    refine zau ?_
    refine kend [1] (rs1 rfl (rv_t rfl)) rfl rfl ?_ ⟨?_, trivial⟩
    rfl
    simp [vwB]
end Go.Proofs.YtnjnhghafjlmbaaGreat
namespace Go.Proofs.YtnjnhghafjlmbaaGreat
set_option linter.unusedVariables false
set_option linter.unusedSimpArgs false
open Go.RowKit
theorem swp_eq {L : List Pl} {n k : Nat} (hn : L.length = n) (h1 : k < L.length) (h2 : n - 1 - k < L.length) : swp L k = (L.set k L[n - 1 - k]).set (n - 1 - k) L[k] := by
  subst hn
  unfold swp
  rw [List.getD_eq_getElem?_getD, List.getD_eq_getElem?_getD, List.getElem?_eq_getElem h1, List.getElem?_eq_getElem h2]
  rfl
theorem tw8 (f : FrM) (n : Int) (r : List Pl) : ((((!eqF (heaL f n r) (heaL f n (r ++ r))) || ((errOr (frB f) 280 == 0) && (errOr (frB (heaL f n r)) 280 != 0))) || (((heaL f n r).fo : Int) != (f.fo : Int))) || (((heaL f n r).pr : Int) != (f.pr : Int))) = false := by
  obtain ⟨h1, h2, h3⟩ := heaL_keep f n r
  rw [heaL_twice, eqF_refl, h1, h2]
  cases hf : frB f
  · simp [errOr]
  · rw [h3 hf]; simp [errOr]
theorem tw13 (f : FrM) (n : Int) (r : List Pl) (k : Nat) : (((((heaL f n r).st k).inn != ((heaL f n r.reverse).st k).inn) || ((((heaL f n r).st k).fl : Int) != (((heaL f n r.reverse).st k).fl : Int))) || !eqV ((heaL f n r).st k).has ((heaL f n r.reverse).st k).has) = false := by
  obtain ⟨h1, h2, h3⟩ := heaL_rev f n r k
  rw [h1, h2, h3, eqV_refl]
  simp
set_option maxRecDepth 4000 in
set_option maxHeartbeats 1000000 in
theorem revP (l : List Pl) : DFun Tryz.prog 42 [.arr 0] [.arr 26 12 l.length (l.flatMap plC)] (.tup []) [.arr 26 12 l.length ((l.reverse).flatMap plC)] := by
  refine zba (N := 28) 1 (by kernel_rfl) Tryz.func42 rfl rfl rfl (by simp only [fr0, Nat.zero_add, Nat.reduceAdd]; exact rfl) rfl fun s0 hs0 => ?_
  refine dwp_lena (i := 0) rfl fun hl0 hL0 => ?_
  refine zaf ?_
  refine zac ?_
  refine zab rfl rfl rfl (zad (.inl rfl) (ev1 rfl)) ?_
  refine zab rfl rfl rfl (op_lena rfl sl52 (ev1 rfl) rfl) ?_
  refine zab rfl rfl rfl (op_sub' rfl (ev1 rfl) (ev1 rfl) (fun _ => IntWalk.i64_in _ (by omega))) ?_
  refine zab rfl rfl rfl (zad (.inr rfl) (ev1 rfl)) ?_
  refine zab rfl rfl rfl (zad (.inr rfl) (ev1 rfl)) ?_
  refine zae ?_
  refine zat ?_
  refine dwp_loopS ⟨hs0, rfl⟩ (α := Nat) (fun k => [(2, .val (.int .i64 (k : Int))), (3, .val (.int .i64 ((l.length : Int) - 1 - (k : Int))))]) [(0, _)] (fun k => [(0, .arr 26 12 l.length ((rvTo l k).flatMap plC))]) [.hole] (fun k => 2 * k ≤ l.length + 1) (fun k => l.length - k) 0 [0] (by omega) rfl ⟨rfl, trivial⟩ ⟨rfl, congrArg (fun z => some (D.val (.int .i64 z))) (by omega), trivial⟩ ⟨rfl, trivial⟩ ?_
  intro k hx
  simp only [upd, za, zaa, List.cons_append, List.nil_append]
  have hk := hx
  have hLl := rvTo_len l k
  refine zaf ?_
  refine zaf ?_
  refine zac ?_
  refine zab rfl rfl rfl (zad (.inl rfl) (ev1 rfl)) ?_
  refine zab rfl rfl rfl (zad (.inl rfl) (ev1 rfl)) ?_
  refine zab rfl rfl rfl (op_lss rfl (ev1 rfl) (ev1 rfl)) ?_
  refine zae ?_
  refine zaw rfl (fun c1 => ?_) (fun c1 => ?_)
  · try simp only [decide_eq_true_eq, decide_eq_false_iff_not, beq_iff_eq, bne_iff_ne, beq_eq_false_iff_ne, bne_eq_false_iff_eq, Bool.not_eq_true', Bool.not_eq_false', Bool.and_eq_true, Bool.or_eq_true, Bool.or_eq_false_iff, ne_eq, Decidable.not_not, Int.not_lt, Int.not_le] at c1
    refine zak ?_
    refine zaf ?_
    refine zat ?_
    obtain ⟨L, hL⟩ : ∃ L, L = rvTo l k := ⟨_, rfl⟩
    rw [← hL] at hLl ⊢
    refine dwp_draw [([], []), ([], []), ([], []), ([], []), ([], []), ([], []), ([0], []), ([0], []), ([], []), ([], []), ([0], []), ([0], []), ([0], []), ([0], [0]), ([0], []), ([0], [0])] mixed (by kernel_rfl) ?_
    refine lex_r rfl rfl (zad (.inl rfl) (ev1 rfl)) ?_
    refine lex_r rfl rfl (zad (.inl rfl) (ev1 rfl)) ?_
    refine lex_r rfl rfl (zad (.inl rfl) (ev1 rfl)) ?_
    refine lex_r rfl rfl (zad (.inl rfl) (ev1 rfl)) ?_
    refine lex_r rfl rfl (zad (.inl rfl) (ev1 rfl)) ?_
    refine lex_r rfl rfl (zad (.inl rfl) (ev1 rfl)) ?_
    refine lex_r rfl rfl (op_ixar (j := l.length - 1 - k) rfl sl52 (ev1 rfl) (ev1 rfl) rfl (fun _ => by first | rfl | omega) (fun _ => by omega)) ?_
    refine lex_r rfl rfl (op_ldar rfl tb26 (ev1 rfl) rfl (fun _ => rfl) (by omega)) ?_
    refine lex_r rfl rfl (zad (.inl rfl) (ev1 rfl)) ?_
    refine lex_r rfl rfl (zad (.inl rfl) (ev1 rfl)) ?_
    refine lex_r rfl rfl (op_ixar (j := k) rfl sl52 (ev1 rfl) (ev1 rfl) rfl (fun _ => by first | rfl | omega) (fun _ => by omega)) ?_
    refine lex_r rfl rfl (op_ldar rfl tb26 (ev1 rfl) rfl (fun _ => rfl) (by omega)) ?_
    refine lex_r rfl rfl (op_ixar (j := k) rfl sl52 (ev1 rfl) (ev1 rfl) rfl (fun _ => by first | rfl | omega) (fun _ => by omega)) ?_
    refine lex_s rfl rfl (op_star rfl tb26 (ev1 rfl) rfl (ev1 rfl) (fun _ => rfl) (by first | omega | (simp only [List.length_set]; omega)) rfl) rfl (by simp only [upd, za, zaa]; exact rfl) ?_
    refine lex_r rfl rfl (op_ixar (j := l.length - 1 - k) rfl sl52 (ev1 rfl) (ev1 rfl) rfl (fun _ => by first | rfl | omega) (fun _ => by omega)) ?_
    refine lex_s rfl rfl (op_star rfl tb26 (ev1 rfl) rfl (ev1 rfl) (fun _ => rfl) (by first | omega | (simp only [List.length_set]; omega)) rfl) rfl (by simp only [upd, za, zaa]; exact rfl) ?_
    refine lex_nil ?_
    refine zac ?_
    refine zab rfl rfl rfl (zad (.inl rfl) (ev1 rfl)) ?_
    refine zab rfl rfl rfl (op_add' rfl (ev1 rfl) (ev1 rfl) (fun _ => IntWalk.i64_in _ (by omega))) ?_
    refine zab rfl rfl rfl (zad (.inl rfl) (ev1 rfl)) ?_
    refine zab rfl rfl rfl (op_sub' rfl (ev1 rfl) (ev1 rfl) (fun _ => IntWalk.i64_in _ (by omega))) ?_
    refine zab rfl rfl rfl (zad (.inr rfl) (ev1 rfl)) ?_
    refine zab rfl rfl rfl (zad (.inr rfl) (ev1 rfl)) ?_
    refine zae ?_
    refine ⟨k + 1, [0], by omega, by simp only []; omega, rfl, ⟨rfl, congrArg (fun z => some (D.val (.int .i64 z))) (by omega), rfl, trivial⟩, ⟨by rw [show rvTo l (k + 1) = (L.set k L[l.length - 1 - k]).set (l.length - 1 - k) L[k] from by rw [show rvTo l (k + 1) = swp L k by rw [hL]; rfl, swp_eq hLl (by omega) (by omega)]]; rfl, trivial⟩⟩
  · try simp only [decide_eq_true_eq, decide_eq_false_iff_not, beq_iff_eq, bne_iff_ne, beq_eq_false_iff_ne, bne_eq_false_iff_eq, Bool.not_eq_true', Bool.not_eq_false', Bool.and_eq_true, Bool.or_eq_true, Bool.or_eq_false_iff, ne_eq, Decidable.not_not, Int.not_lt, Int.not_le] at c1
    refine dwp_exit ?_
    rw [rvTo_end l hk (by omega)]
    refine kend [0] (res_none rfl) rfl rfl ?_ ⟨rfl, trivial⟩
    rfl
theorem tw1_2 (f : FrM) (n : Int) (r : List Pl) : DFun Tryz.prog 41 [.slf 12 (r.length + r.length) (r.flatMap plC ++ r.flatMap plC), .dpf (frC f), .dpf [.int .i64 n]] [] (.val (.agg (frC (heaL f n (r ++ r))).toArray)) [] := by
  have h := tw1_d f n (r ++ r)
  rw [List.length_append, List.flatMap_append] at h
  exact h
theorem tw1_r (f : FrM) (n : Int) (r : List Pl) : DFun Tryz.prog 41 [.slf 12 r.length (r.reverse.flatMap plC), .dpf (frC f), .dpf [.int .i64 n]] [] (.val (.agg (frC (heaL f n r.reverse)).toArray)) [] := by
  have h := tw1_d f n r.reverse
  rw [List.length_reverse] at h
  exact h
set_option maxRecDepth 4000 in
set_option maxHeartbeats 1000000 in
theorem twice_d (f : FrM) (n : Int) (l : List Pl) : DFun Tryz.prog 7 [.val (.agg (frC f).toArray), .val (.int .i64 n), .slf 12 (l).length ((l).flatMap plC)] [] (.val (.bool true)) [] := by
  refine zba (N := 95) 0 (by kernel_rfl) Tryz.func7 rfl rfl rfl (by simp only [fr0, Nat.zero_add, Nat.reduceAdd]; exact rfl) rfl fun s0 hs0 => ?_
  refine dwp_len (t := 2) rfl fun hl2 hL2 => ?_
  refine zaf ?_
  refine zaj 2 (by simp only [holes, List.cons_append, List.nil_append]; exact rfl) ?_
  refine zac ?_
  refine zam rfl rfl rfl (op_boxa 0 rfl (ev1 rfl) rfl) (by simp only [upd, za, zaa]; exact rfl) ?_
  refine zam rfl rfl rfl (op_boxi 1 rfl (ev1 rfl) rfl) (by simp only [upd, za, zaa]; exact rfl) ?_
  refine zab rfl rfl rfl (zad (.inr rfl) (ev1 rfl)) ?_
  refine zae ?_
  refine zaf ?_
  refine zaf ?_
  refine zac ?_
  refine zab rfl rfl rfl (zah [] [] [] rfl (ev1 rfl) en rfl rfl (wakes_d) rfl rfl rfl rfl rfl rfl) ?_
  refine zab rfl rfl rfl (op_not rfl (ev1 rfl)) ?_
  refine zae ?_
  refine dwp_if_f rfl (rfl) ?_
  refine zak ?_
  refine zaf ?_
  refine zaj 1 (by simp only [holes, List.cons_append, List.nil_append]; exact rfl) ?_
  refine zac ?_
  refine zab rfl rfl rfl (zad (.inl rfl) (ev1 rfl)) ?_
  refine zab rfl rfl rfl (zad (.inl rfl) (ev1 rfl)) ?_
  refine zab rfl rfl rfl (op_len rfl sl52 (ev1 rfl)) ?_
  refine zab rfl rfl rfl (op_min rfl (ev1 rfl) (ev1 rfl)) ?_
  refine zab rfl rfl rfl (op_sltk (j := min l.length 5) rfl sl52 (ev1 rfl) (bd_some (ev1 rfl)) (fun _ => by omega) (fun _ => by omega) (fun _ => rfl)) ?_
  refine zam rfl rfl rfl (zah [] [] [2] rfl (ev1 rfl) (ec (ev1 rfl) en) rfl rfl (cloneP _ (by rw [List.length_take]; omega)) rfl rfl rfl rfl rfl rfl) (by simp only [upd, za, zaa]; exact rfl) ?_
  refine zab rfl rfl rfl (zad (.inr rfl) (ev1 rfl)) ?_
  refine zae ?_
  refine zaf ?_
  obtain ⟨r, hr⟩ : ∃ r, r = l.take (min l.length 5) := ⟨_, rfl⟩
  have hrl : r.length ≤ 5 := by rw [hr, List.length_take]; omega
  rw [← hr]
  refine zac ?_
  refine zab rfl rfl rfl (op_mkf rfl en (ec (ev1 rfl) (ec (ev1 rfl) en))) ?_
  refine zab rfl rfl rfl (zad (.inr rfl) (ev1 rfl)) ?_
  refine zae ?_
  refine zaf ?_
  refine zaj 4 (by simp only [holes, List.cons_append, List.nil_append]; exact rfl) ?_
  refine zac ?_
  refine zab rfl rfl rfl (zad (.inl rfl) (ev1 rfl)) ?_
  refine zab rfl rfl rfl (zad (.inl rfl) (ev1 rfl)) ?_
  refine zab rfl rfl rfl (zah [] [2, 0, 1] [] rfl (ev1 rfl) (ec (ev1 rfl) en) rfl rfl (tw1_d f n r) rfl rfl rfl rfl rfl rfl) ?_
  refine zab rfl rfl rfl (zad (.inl rfl) (ev1 rfl)) ?_
  refine zab rfl rfl rfl (zad (.inl rfl) (ev1 rfl)) ?_
  refine zam rfl rfl rfl (zah [] [2] [3] rfl (ev1 rfl) (ec (ev1 rfl) en) rfl rfl (cloneP r (by omega)) rfl rfl rfl rfl rfl rfl) (by simp only [upd, za, zaa]; exact rfl) ?_
  refine zab rfl rfl rfl (zad (.inl rfl) (ev1 rfl)) ?_
  refine zam rfl rfl rfl (op_app (j := 4) rfl sl52 zr26 rfl (ev1 rfl) (ev1 rfl) (src_arr rfl) rfl rfl (fun _ => flat_oc (fun _ => rfl) r) (fun _ => ⟨by omega, by omega⟩)) (by simp only [upd, za, zaa]; exact rfl) ?_
  refine zab rfl rfl rfl (zah [] [4, 0, 1] [] rfl (ev1 rfl) (ec (ev1 rfl) en) rfl rfl (tw1_2 f n r) rfl rfl rfl rfl rfl rfl) ?_
  refine zam rfl rfl rfl (zaq 5 rfl zr29 rfl) (by simp only [upd, za, zaa]; exact rfl) ?_
  refine zam rfl rfl rfl (zaq 6 rfl zr29 rfl) (by simp only [upd, za, zaa]; exact rfl) ?_
  refine zax rfl rfl (op_stwa rfl tb29 (ev1 rfl) (ev1 rfl) rfl (zao _) (frC_oc _) rfl) (by simp only [upd, za, zaa]; exact rfl) ?_
  refine zax rfl rfl (op_stwa rfl tb29 (ev1 rfl) (ev1 rfl) rfl (zao _) (frC_oc _) rfl) (by simp only [upd, za, zaa]; exact rfl) ?_
  refine zae ?_
  refine zaf ?_
  refine zac ?_
  refine zab rfl rfl rfl (zad (.inl rfl) (ev1 rfl)) ?_
  refine zam rfl rfl rfl (zah [2] [] [] rfl (ev1 rfl) (ec (ev1 rfl) en) rfl rfl (revP r) rfl rfl rfl rfl rfl rfl) (by simp only [upd, za, zaa]; exact rfl) ?_
  refine zae ?_
  refine zaf ?_
  refine zaj 1 (by simp only [holes, List.cons_append, List.nil_append]; exact rfl) ?_
  refine zac ?_
  refine zab rfl rfl rfl (zad (.inl rfl) (ev1 rfl)) ?_
  refine zab rfl rfl rfl (zad (.inl rfl) (ev1 rfl)) ?_
  refine zab rfl rfl rfl (zah [] [2, 0, 1] [] rfl (ev1 rfl) (ec (ev1 rfl) en) rfl rfl (tw1_r f n r) rfl rfl rfl rfl rfl rfl) ?_
  refine zam rfl rfl rfl (zaq 7 rfl zr29 rfl) (by simp only [upd, za, zaa]; exact rfl) ?_
  refine zax rfl rfl (op_stwa rfl tb29 (ev1 rfl) (ev1 rfl) rfl (zao _) (frC_oc _) rfl) (by simp only [upd, za, zaa]; exact rfl) ?_
  refine zae ?_
  refine zaf ?_
  refine zaf ?_
  refine zac ?_
  refine zab rfl rfl rfl (zas rfl tb29 (ev1 rfl) rfl (zao _)) ?_
  refine zab rfl rfl rfl (zas rfl tb29 (ev1 rfl) rfl (zao _)) ?_
  refine zab rfl rfl rfl (op_ner eq29 rfl gd29 tb29 (ev1 rfl) (ev1 rfl)) ?_
  refine zab rfl rfl rfl (zad (.inl rfl) (ev1 rfl)) ?_
  refine zag (zan rfl rfl rfl) rfl rfl rfl (zas rfl tb29 (ev1 rfl) rfl (zao _)) ?_
  refine zag (zan rfl rfl rfl) rfl rfl rfl (zah [] [] [] rfl (ev1 rfl) (ec (ev2 rfl) en) rfl rfl (fCheck_d _) rfl rfl rfl rfl rfl rfl) ?_
  refine zag (zan rfl rfl rfl) rfl rfl rfl (zb rfl (ev2 rfl) (ev1 rfl)) ?_
  refine zag (zan rfl rfl rfl) rfl rfl rfl (zad (.inl rfl) (ev2 rfl)) ?_
  refine zag (zay rfl rfl rfl) rfl rfl rfl (zas rfl tb29 (ev1 rfl) rfl (zao _)) ?_
  refine zag (zay rfl rfl rfl) rfl rfl rfl (zah [] [] [] rfl (ev1 rfl) (ec (ev2 rfl) en) rfl rfl (fCheck_d _) rfl rfl rfl rfl rfl rfl) ?_
  refine zag (zay rfl rfl rfl) rfl rfl rfl (op_neq rfl (ev2 rfl) (ev1 rfl)) ?_
  refine zag (zan rfl rfl rfl) rfl rfl rfl (zaz rfl (ev2 rfl) (ev2 rfl)) ?_
  refine zab rfl rfl rfl (op_or rfl (ev1 rfl) (ev3 rfl id)) ?_
  refine zab rfl rfl rfl (zad (.inl rfl) (ev1 rfl)) ?_
  refine zag (zan rfl rfl rfl) rfl rfl rfl (zap rfl fo29_0 (ev1 rfl)) ?_
  refine zag (zan rfl rfl rfl) rfl rfl rfl (op_ldo rfl tb22 (ev2 rfl) rfl rfl) ?_
  refine zag (zan rfl rfl rfl) rfl rfl rfl (zap rfl fo29_0 (ev1 rfl)) ?_
  refine zag (zan rfl rfl rfl) rfl rfl rfl (op_ldo rfl tb22 (ev2 rfl) rfl rfl) ?_
  refine zag (zan rfl rfl rfl) rfl rfl rfl (op_neq rfl (ev2 rfl) (ev2 rfl)) ?_
  refine zab rfl rfl rfl (op_or rfl (ev1 rfl) (ev3 rfl id)) ?_
  refine zab rfl rfl rfl (zad (.inl rfl) (ev1 rfl)) ?_
  refine zag (zan rfl rfl rfl) rfl rfl rfl (zap rfl fo29_2 (ev1 rfl)) ?_
  refine zag (zan rfl rfl rfl) rfl rfl rfl (op_ldo rfl tb22 (ev2 rfl) rfl (frC_pr _)) ?_
  refine zag (zan rfl rfl rfl) rfl rfl rfl (zap rfl fo29_2 (ev1 rfl)) ?_
  refine zag (zan rfl rfl rfl) rfl rfl rfl (op_ldo rfl tb22 (ev2 rfl) rfl (frC_pr _)) ?_
  refine zag (zan rfl rfl rfl) rfl rfl rfl (op_neq rfl (ev2 rfl) (ev2 rfl)) ?_
  refine zab rfl rfl rfl (op_or rfl (ev1 rfl) (ev3 rfl id)) ?_
  refine zae ?_
  refine dwp_if_f rfl ((tw8 f n r)) ?_
  refine zak ?_
  refine zaf ?_
  refine zaf ?_
  refine zac ?_
  refine zab rfl rfl rfl (zad (.inl rfl) (ev1 rfl)) ?_
  refine zae ?_
  refine zat ?_
  refine dwp_loopS ⟨hs0, rfl⟩ (α := Nat) (fun k => [(64, .val (.int .i64 (k : Int)))]) [(8, _), (10, _)] (fun k => []) [_, _, _, _, _, _, _, _] (fun k => k ≤ 9) (fun k => 9 - k) 0 [0, 1, 2, 3, 4, 5, 6, 7] (by omega) rfl ⟨rfl, rfl, trivial⟩ ⟨rfl, trivial⟩ ⟨rfl, rfl, rfl, rfl, rfl, rfl, rfl, rfl, trivial⟩ ?_
  intro k hx
  simp only [upd, za, zaa, List.cons_append, List.nil_append]
  have hk := hx
  refine zaf ?_
  refine zac ?_
  refine zab rfl rfl rfl (op_lss rfl (ev1 rfl) (ev1 rfl)) ?_
  refine zae ?_
  refine zaf ?_
  refine zaw rfl (fun c3 => ?_) (fun c3 => ?_)
  · try simp only [decide_eq_true_eq, decide_eq_false_iff_not, beq_iff_eq, bne_iff_ne, beq_eq_false_iff_ne, bne_eq_false_iff_eq, Bool.not_eq_true', Bool.not_eq_false', Bool.and_eq_true, Bool.or_eq_true, Bool.or_eq_false_iff, ne_eq, Decidable.not_not, Int.not_lt, Int.not_le] at c3
    refine zak ?_
    refine zaf ?_
    refine zat ?_
    refine zaf ?_
    refine zac ?_
    refine zab rfl rfl rfl (zad (.inl rfl) (ev1 rfl)) ?_
    refine zab rfl rfl rfl (zad (.inr rfl) (ev1 rfl)) ?_
    refine zae ?_
    refine zaf ?_
    refine zaj 2 (by simp only [holes, List.cons_append, List.nil_append]; exact rfl) ?_
    refine dwp_draw [([], []), ([], []), ([], []), ([5], []), ([], []), ([], []), ([], []), ([7], []), ([8], [8]), ([9], [9]), ([8], [8]), ([9], [9])] mixed (by kernel_rfl) ?_
    refine lex_r rfl rfl (zad (.inl rfl) (ev1 rfl)) ?_
    refine lex_r rfl rfl (zap rfl fo29_3 (ev1 rfl)) ?_
    refine lex_r rfl rfl (op_ixl rfl ar27 (ev1 rfl) (ev1 rfl) (fun _ => by omega)) ?_
    refine lex_r rfl rfl (op_ldr rfl tb26 (ev1 rfl) rfl (frC_atp (j := k) (by omega) (by omega)) rfl) ?_
    refine lex_r rfl rfl (zad (.inl rfl) (ev1 rfl)) ?_
    refine lex_r rfl rfl (zap rfl fo29_3 (ev1 rfl)) ?_
    refine lex_r rfl rfl (op_ixl rfl ar27 (ev1 rfl) (ev1 rfl) (fun _ => by omega)) ?_
    refine lex_r rfl rfl (op_ldr rfl tb26 (ev1 rfl) rfl (frC_atp (j := k) (by omega) (by omega)) rfl) ?_
    refine lex_w rfl rfl (zaq 8 rfl zr26 rfl) rfl (by simp only [upd, za, zaa]; exact rfl) ?_
    refine lex_w rfl rfl (zaq 9 rfl zr26 rfl) rfl (by simp only [upd, za, zaa]; exact rfl) ?_
    refine lex_s rfl rfl (op_stwa rfl tb26 (ev1 rfl) (ev1 rfl) rfl rfl rfl rfl) rfl (by simp only [upd, za, zaa]; exact rfl) ?_
    refine lex_s rfl rfl (op_stwa rfl tb26 (ev1 rfl) (ev1 rfl) rfl rfl rfl rfl) rfl (by simp only [upd, za, zaa]; exact rfl) ?_
    refine lex_nil ?_
    refine zaf ?_
    refine zac ?_
    refine zab rfl rfl rfl (zap rfl fo26_0 (ev1 rfl)) ?_
    refine zab rfl rfl rfl (op_ldo rfl tb4 (ev1 rfl) rfl rfl) ?_
    refine zab rfl rfl rfl (zap rfl fo26_0 (ev1 rfl)) ?_
    refine zab rfl rfl rfl (op_ldo rfl tb4 (ev1 rfl) rfl rfl) ?_
    refine zab rfl rfl rfl (op_neb rfl un4 (ev1 rfl) (ev1 rfl)) ?_
    refine zab rfl rfl rfl (zad (.inl rfl) (ev1 rfl)) ?_
    refine zag (zan rfl rfl rfl) rfl rfl rfl (zap rfl fo26_1 (ev1 rfl)) ?_
    refine zag (zan rfl rfl rfl) rfl rfl rfl (op_ldo rfl tb22 (ev2 rfl) rfl rfl) ?_
    refine zag (zan rfl rfl rfl) rfl rfl rfl (zap rfl fo26_1 (ev1 rfl)) ?_
    refine zag (zan rfl rfl rfl) rfl rfl rfl (op_ldo rfl tb22 (ev2 rfl) rfl rfl) ?_
    refine zag (zan rfl rfl rfl) rfl rfl rfl (op_neq rfl (ev2 rfl) (ev2 rfl)) ?_
    refine zab rfl rfl rfl (op_or rfl (ev1 rfl) (ev3 rfl id)) ?_
    refine zab rfl rfl rfl (zad (.inl rfl) (ev1 rfl)) ?_
    refine zag (zan rfl rfl rfl) rfl rfl rfl (zap rfl fo26_3 (ev1 rfl)) ?_
    refine zag (zan rfl rfl rfl) rfl rfl rfl (op_ldr rfl tb24 (ev2 rfl) rfl rfl rfl) ?_
    refine zag (zan rfl rfl rfl) rfl rfl rfl (zap rfl fo26_3 (ev1 rfl)) ?_
    refine zag (zan rfl rfl rfl) rfl rfl rfl (op_ldr rfl tb24 (ev2 rfl) rfl rfl rfl) ?_
    refine zag (zan rfl rfl rfl) rfl rfl rfl (op_ner eq24 rfl gd24 tb24 (ev2 rfl) (ev2 rfl)) ?_
    refine zab rfl rfl rfl (op_or rfl (ev1 rfl) (ev3 rfl id)) ?_
    refine zae ?_
    refine dwp_if_f rfl ((tw13 f n r k)) ?_
    refine zak ?_
    refine zac ?_
    refine zab rfl rfl rfl (op_add' rfl (ev1 rfl) (ev1 rfl) (fun _ => IntWalk.i64_in _ (by omega))) ?_
    refine zab rfl rfl rfl (zad (.inl rfl) (ev1 rfl)) ?_
    refine zae ?_
    refine ⟨k + 1, [0, 1, 2, 3, 4, 5, 6, 7], by omega, by simp only []; omega, rfl, ⟨rfl, rfl, rfl, trivial⟩, ⟨rfl, rfl, rfl, rfl, rfl, rfl, rfl, rfl, trivial⟩⟩
  · try simp only [decide_eq_true_eq, decide_eq_false_iff_not, beq_iff_eq, bne_iff_ne, beq_eq_false_iff_ne, bne_eq_false_iff_eq, Bool.not_eq_true', Bool.not_eq_false', Bool.and_eq_true, Bool.or_eq_true, Bool.or_eq_false_iff, ne_eq, Decidable.not_not, Int.not_lt, Int.not_le] at c3
    refine dwp_exit ?_
    refine zaf ?_
    refine zac ?_
    refine zab rfl rfl rfl (zad (.inr rfl) (ev1 rfl)) ?_
    refine zae ?_
    refine zau ?_
    refine kend0 (rs1 rfl (rv_t rfl)) rfl ?_
    rfl
end Go.Proofs.YtnjnhghafjlmbaaGreat
