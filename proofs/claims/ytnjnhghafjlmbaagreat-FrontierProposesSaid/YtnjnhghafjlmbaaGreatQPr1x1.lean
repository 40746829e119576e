/- A region that draws its order: walked once, in the text's order. Conditions: the kernel's look at its edges; Operations on slices: made, cut, grown; tuples; function values; structs. Conditions: what a type is, by the kernel; Ends of calls; structs built; bools and strings compared; least and greatest; slices taken over, and given up. Conditions: what a type is, by the kernel; Functions without a body that touch one cell (package sync/atomic), or mark; a function that is deferred with its arguments; deferred functions that do not recover. Conditions: what such a call's run is; Arguments whose elements are slices themselves, opened, as deep as their types go.  but the kernel's look at the types; Single operations of programs: rows that are turned to their own type, rows made whole and left so, arrays of listed parts, nil rows; Structs of data: built, in rows, looked at, stored; Arguments . No condition. -/
import Derived.Test.YtnjnhghafjlmbaaGreatQ6
import Derived.WalkKit
import Derived.Below
import Derived.Laws.AppendOwn
import Derived.RangeFuncRecord
import Derived.RangeFuncLeaves
import Derived.OrdersIn
import Derived.Deep.MidRow
import Derived.Laws.MakeOwn
import Derived.IntWalk
import Derived.Laws.OwnMore
import Derived.OwnWalk
import Derived.Recover
import Derived.RangeFuncIn
import Derived.Laws.StructEq
import Derived.Laws.IdiomCopy
import Derived.Laws.Pointers
import Derived.Laws.LoneSync
import Derived.Test.YtnjnhghafjlmbaaGreatRows
import Derived.Test.YtnjnhghafjlmbaaGreatProg
import Derived.OpenShut
import Derived.ChangeArms
import Derived.DataReads
import Derived.Deep.Slices
import Derived.JoinedOf
import Derived.JoinedAt
import Derived.Lib.SmallJoins
import Derived.Carry
import Derived.ProofKit
import Derived.RowKit3
import Derived.LaidMore
import Derived.Handed
import Derived.LaidHandle
import Derived.Stop.Joined
namespace Go.Proofs.YtnjnhghafjlmbaaGreat
theorem ya {p : Prop} [Decidable p] : decide p = false ↔ ¬p := _root_.decide_eq_false_iff_not
theorem yb {α : Type _} [BEq α] [LawfulBEq α] {a b : α} : (a == b) = false ↔ a ≠ b := _root_.beq_eq_false_iff_ne
theorem yc {α : Type _} [BEq α] [LawfulBEq α] {a b : α} : (a != b) = false ↔ a = b := _root_.bne_eq_false_iff_eq
theorem yd {x y : Bool} : (x || y) = false ↔ x = false ∧ y = false := _root_.Bool.or_eq_false_iff
theorem ye {b : Bool} : ((!b) = false) = (b = true) := by cases b <;> simp
theorem yf {b : Bool} : ((!b) = true) = (b = false) := by cases b <;> simp
theorem yg {p : Prop} [Decidable p] : (decide p = true) = p := _root_.decide_eq_true_eq
theorem yh {a b : Bool} : ((a && b) = true) = (a = true ∧ b = true) := _root_.Bool.and_eq_true a b
theorem yi {a b : Bool} : ((a || b) = true) = (a = true ∨ b = true) := _root_.Bool.or_eq_true a b
theorem yj {p : Prop} [Decidable p] : ¬¬p ↔ p := _root_.Decidable.not_not
set_option linter.unusedVariables false
set_option linter.unusedSimpArgs false
open Go.RowKit
/-- behind a guard that is known to hold -/
theorem lex_k {P : Program} {ops : Array Oper} {o : Oper} {rest : List Oper} {fp wi : List Nat} {fps : List (List Nat × List Nat)} {F : Fr} {M M' : List Blk} {Q : Fr → List Blk → Prop} {d : D} {t : Nat} {wr : List (Nat × Blk)} (hg : Gd ops o F true) (hn : o.guard.isSome = true) (hd : o.dst = some t) (h : DOp P true o F M fp d wr) (hw : wr.map (·.1) = wi) (hM : upd M wr = M')
    (hk : Lex P ops rest fps ((t, .opt true d) :: F) M' Q) : Lex P ops (o :: rest) ((fp, wi) :: fps) F M Q :=
by
  unfold Lex
  refine ⟨true, d, wr, hg, h, hw, (fun h => by cases h), ?_⟩
  unfold gdd
  cases e : o.guard with
  | none => rw [e] at hn; cases hn
  | some x => rw [hd, hM]; exact hk
theorem lex_w {P : Program} {ops : Array Oper} {o : Oper} {rest : List Oper} {fp wi : List Nat} {fps : List (List Nat × List Nat)} {F : Fr} {M M' : List Blk} {Q : Fr → List Blk → Prop} {d : D} {t : Nat} {wr : List (Nat × Blk)} (hg : o.guard = none) (hd : o.dst = some t) (h : DOp P true o F M fp d wr) (hw : wr.map (·.1) = wi) (hM : upd M wr = M')
    (hk : Lex P ops rest fps ((t, d) :: F) M' Q) : Lex P ops (o :: rest) ((fp, wi) :: fps) F M Q := lex_op hg h hw (by rw [hd, hM]; exact hk)
section
variable {l : List Oper} {E : List Rc} {F : Fr} {M : List Blk}
end
section
variable {P : Program} {pc : Bool} {o : Oper} {F : Fr} {M : List Blk}
theorem bd_some {y : Operand} {k : IntKind} {z q : Int} (h : Ev pc F y (.val (.int k z))) : Bd pc F (some y) q z := ⟨k, h⟩
theorem run_slice {T e : TypeId} {sz by' : Nat} {x : Operand} {lo hi : Option Operand} {a : Act} {w : World} {ad : Option Addr} {n c : Nat} {l h : Int} (ho : o.op = .slice T x lo hi none) (hT : slE P T = some (e, sz, by')) (hx : a.eval x = .slice ad n c)
    (hlo : lo.map a.eval = none ∧ l = 0 ∨ ∃ k, lo.map a.eval = some (.int k l)) (hhi : hi.map a.eval = none ∧ h = n ∨ ∃ k, hi.map a.eval = some (.int k h)) (h0 : 0 ≤ l) (h1 : l ≤ h) (h2 : h ≤ n) (h3 : n ≤ c) :
    (execOp a.eval o).run P w = .ok (.value (.slice (if c = l.toNat then ad else ad.map (·.add (l.toNat * sz))) (h.toNat - l.toNat) (c - l.toNat))) w := by
  obtain ⟨e1, i, e2, e3, _⟩ := slE_spec hT
  have eh : (h.toNat : Int) = h := Int.toNat_of_nonneg (by omega)
  unfold execOp
  simp only [ho, hx]
  refine run_v ?_
  have hb : (Instr.sliceBounds true n c (lo.map a.eval) (hi.map a.eval) none).run P w = .ok (l.toNat, h.toNat, c) w := by
    have sb : ∀ (k : IntKind) (z : Int) (m : Nat) (cd : BoundsCode), 0 ≤ z → z ≤ m → (Instr.sliceBound (.int k z) m cd).run P w = .ok z.toNat w := fun k z m cd a b => by
      simp [Instr.sliceBound, asIntOf, a, b]
    have el : l.toNat ≤ h.toNat := by omega
    rcases hlo with ⟨q1, q3⟩ | ⟨kl, q1⟩ <;> rcases hhi with ⟨q2, q4⟩ | ⟨kh, q2⟩ <;> rw [q1, q2]
    · have g1 : l.toNat = 0 := by omega
      have g2 : h.toNat = n := by omega
      simp [Instr.sliceBounds, g1, g2]
    · have g1 : l.toNat = 0 := by omega
      simp [Instr.sliceBounds, g1, sb kh h c _ (by omega) (by omega)]
    · have g2 : h.toNat = n := by omega
      simp [Instr.sliceBounds, g2, sb kl l n _ (by omega) (by omega)]
    · simp [Instr.sliceBounds, sb kh h c _ (by omega) (by omega), sb kl l h.toNat _ (by omega) (by omega)]
  simp [Instr.sliceAt, Instr.slice, run_underlying e1, Sem.run_bind, hb, sizeOf, typeInfo, e2, e3]
section
variable {T e : TypeId} {sz by' n : Nat} {ps : List (Nat × Operand)} {vs Z : List Value}
end

/-! ### append -/
end
section
variable {P : Program} {fn : Func} {F : Fr} {M : List Blk} {t u v : Tmp} {d d' e f dr : D}
end
section
variable {P : Program} {pc : Bool} {o : Oper} {F : Fr} {M : List Blk}

/-! ### structs built -/
theorem op_eqs {T T' : TypeId} {x y : Operand} {p q : ByteArray} (ho : o.op = .binOp .eql T x y T') (hx : Ev pc F x (.val (.string p))) (hy : Ev pc F y (.val (.string q))) : DOp P pc o F M [] (.val (.bool (p.toList == q.toList))) [] :=
  op_eqv ho hx hy (fun w => by unfold eqGuard; rfl) fun w => by simp [binOp, Op.stringOp]
theorem op_min {x y : Operand} {T U : TypeId} {k : IntKind} {p q : Int} (ho : o.op = .call { callee := .builtin .min, args := #[x, y], argTypes := #[T, U] }) (hx : Ev pc F x (.val (.int k p))) (hy : Ev pc F y (.val (.int k q))) : DOp P pc o F M [] (.val (.int k (min p q))) [] := by
  refine op_val2 hx hy (by simp [ho, Op.operands, Call.operands]) fun _ a w e1 e2 => run_builtin ho (fun cs => rfl) ?_
  have : (if q < p then q else p) = min p q := by rw [Int.min_def]; split <;> split <;> omega
  simp [Builtin.min_, e1, e2, Builtin.min2, this]
end
section
variable {P : Program} {s0 : St} {n : Cx}
end
section
variable {P : Program} {pc : Bool} {o : Oper} {F : Fr} {M : List Blk}
end
section
variable {P : Program} {s0 : St} {n : Cx}
end
section
variable {P : Program} {pc : Bool} {o : Oper} {F : Fr} {M : List Blk}
/-- a part of a slice of slices that stays -/
theorem op_slms {T e : TypeId} {sz by' n : Nat} {x : Operand} {lo hi : Option Operand} {L : List D} {l h : Int} (ho : o.op = .slice T x lo hi none) (hT : slE P T = some (e, sz, by')) (hx : Ev pc F x (.slm sz n L)) (hlo : Bd pc F lo 0 l) (hhi : Bd pc F hi n h)
    (hb : pc = true → 0 ≤ l ∧ l ≤ h ∧ h ≤ n) : DOp P pc o F M [] (.slm sz (h.toNat - l.toNat) ((L.drop (l.toNat * sz)).take ((h.toNat - l.toNat) * sz))) [] := by
  intro hp a s hok hops _
  obtain ⟨b1, b2, b3⟩ := hb hp
  have hr := ev_at hp hx (by simp [ho, Op.operands]) hops
  generalize hv : a.eval x = vx at hr
  cases hr with
  | @slm _ _ cap ad _ vs hnl hl hn hc ha hvl hel hL =>
    refine dg_val hok (run_slice ho hT hv (bd_at hp hlo (fun u e => by subst e; simp [ho, Op.operands]) hops) (bd_at hp hhi (fun u e => by subst e; simp [ho, Op.operands]) hops) b1 b2 b3 hn) ?_
    have hlen : ((L.drop (l.toNat * sz)).take ((h.toNat - l.toNat) * sz)).length = (h.toNat - l.toNat) * sz := by
      rw [List.length_take, List.length_drop, hl, ← Nat.mul_sub_right_distrib]
      exact Nat.min_eq_left (Nat.mul_le_mul_right _ (by omega))
    refine .slm (vs := (vs.drop (l.toNat * sz)).take ((h.toNat - l.toNat) * sz)) (nlL_take _ (nlL_drop _ hnl)) hlen (by omega) (by omega) (fun e => ?_) (by rw [List.length_take, List.length_drop, List.length_take, List.length_drop, hvl]) (fun j d v h1 h2 => ?_) ?_
    · split at e
      · omega
      · cases ad with
        | none => have := ha rfl; omega
        | some ad => cases e
    · rw [List.getElem?_take] at h1 h2
      split at h1
      · rename_i hj
        rw [if_pos hj] at h2
        rw [List.getElem?_drop] at h1 h2
        exact hel _ d v h1 h2
      · cases h1
    · rcases hL with rfl | ⟨b, q, rfl, hI, hcl⟩
      · left; simp
      · by_cases hz : cap = l.toNat
        · left
          have : h.toNat - l.toNat = 0 := by omega
          rw [this]; simp
        · right
          rw [if_neg hz]
          exact ⟨b, q + l.toNat * sz, by rw [Option.map_some, Addr.add_mid], hI, cellsAt_sub hcl _ _⟩
theorem flatM_take {α β : Type} {en : α → List β} {sz : Nat} (hen : ∀ a, (en a).length = sz) : ∀ (l : List α) (k : Nat), (l.flatMap en).take (k * sz) = (l.take k).flatMap en
  | l, 0 => by simp
  | [], k + 1 => by simp
  | a :: l, k + 1 => by
    rw [List.flatMap_cons, List.take_succ_cons, List.flatMap_cons, ← flatM_take hen l k, Nat.succ_mul, Nat.add_comm (k * sz), List.take_add, List.take_left' (hen a), List.drop_left' (hen a)]
/-- .. from i to j -/
theorem op_slmmd {α : Type} {mk : α → List D} {r : List α} {T e : TypeId} {sz by' : Nat} {x : Operand} {lo hi : Option Operand} {l h : Int} {i j : Nat} (ho : o.op = .slice T x lo hi none) (hT : slE P T = some (e, sz, by')) (hx : Ev pc F x (.slm sz r.length (r.flatMap mk))) (hlo : Bd pc F lo 0 l) (hhi : Bd pc F hi r.length h)
    (hl : pc = true → l = (i : Int)) (hh : pc = true → h = (j : Int)) (hij : pc = true → i ≤ j ∧ j ≤ r.length) (hmk : ∀ a, (mk a).length = sz) : DOp P pc o F M [] (.slm sz ((r.drop i).take (j - i)).length (((r.drop i).take (j - i)).flatMap mk)) [] := fun hp => by
  have h1 := hij hp
  have := op_slms (P := P) (M := M) ho hT hx hlo hhi (fun hp => by have := hl hp; have := hh hp; omega) hp
  rw [hl hp, hh hp, Int.toNat_natCast, Int.toNat_natCast, flatM_drop hmk, flatM_take hmk] at this
  rw [show ((r.drop i).take (j - i)).length = j - i by rw [List.length_take, List.length_drop]; omega]
  exact this
theorem op_slmtk {α : Type} {mk : α → List D} {r : List α} {T e : TypeId} {sz by' : Nat} {x : Operand} {hi : Option Operand} {h : Int} {j : Nat} (ho : o.op = .slice T x none hi none) (hT : slE P T = some (e, sz, by')) (hx : Ev pc F x (.slm sz r.length (r.flatMap mk))) (hhi : Bd pc F hi r.length h)
    (hh : pc = true → h = (j : Int)) (hij : pc = true → j ≤ r.length) (hmk : ∀ a, (mk a).length = sz) : DOp P pc o F M [] (.slm sz (r.take j).length ((r.take j).flatMap mk)) [] :=
  op_slmmd (i := 0) ho hT hx (bd_none (z := 0)) hhi (fun _ => rfl) hh (fun hp => ⟨Nat.zero_le _, hij hp⟩) hmk
end
open Go.ChangeShapes Go.WideShapes Go.ChangeAt Go.RowKit Go.Joins Go.Deep
/-- cells that read as data, side by side, at the start -/
def Opens (P : Program) (w : World) {α : Type} (t : TypeId) (mk : α → List D) (ok : α → Prop) : Prop :=
  ∀ (H : Type) (enc : TypeId × Value → H) (base : Nat) (spare : Nat → Bool) (held : Bool) (n : Nat) (cs : List Value) (x : DataW H × List MemPlace), DataW.trod enc P w base spare held n t cs = some x → ∃ a, ok a ∧ Reps (st0 w) (mk a) cs
section
variable {P : Program} {w : World}
theorem reps_app2 {s : St} {d1 d2 : List D} {v1 v2 : List Value} (h1 : Reps s d1 v1) (h2 : Reps s d2 v2) : Reps s (d1 ++ d2) (v1 ++ v2) := by
  refine ⟨by simp [h1.1, h2.1], fun j d v hd hv => ?_⟩
  by_cases hj : j < d1.length
  · rw [List.getElem?_append_left hj] at hd
    rw [List.getElem?_append_left (by rw [h1.1]; exact hj)] at hv
    exact h1.2 j d v hd hv
  · rw [List.getElem?_append_right (by omega)] at hd
    rw [List.getElem?_append_right (by rw [h1.1]; omega), h1.1] at hv
    exact h2.2 _ d v hd hv
/-- a type that holds no address -/
theorem opens_flat {α : Type} {t : TypeId} {ps : List Prim} (f : Nat) (en : α → List Value) (ok : α → Prop) (hP : ∀ cs, fitsP ps cs → ∃ a, ok a ∧ cs = en a) (hf : flatT P f t = some ps) : Opens P w t (fun a => (en a).map .val) ok := by
  intro H enc base spare held n cs x hx
  obtain ⟨a, hok, rfl⟩ := hP cs (flat_trod f _ _ _ _ _ hf hx)
  refine ⟨a, hok, by simp, fun j d v hd hv => ?_⟩
  rw [List.getElem?_map, hv] at hd
  obtain rfl := Option.some.inj hd
  exact .val v
/-- a slice whose elements hold no address -/
theorem opens_row {α : Type} {t e : TypeId} {ps : List Prim} (f : Nat) (en : α → List Value) (ok : α → Prop) (hP : ∀ cs, fitsP ps cs → ∃ a, ok a ∧ cs = en a) (ht : P.underlying t = some (.slice e)) (hf : flatT P f e = some ps) (hc : P.cellsOf e = ps.length) (hpos : 0 < ps.length)
    (hen : ∀ a, (en a).length = ps.length) : Opens P w t (fun l : List α => [.slf ps.length l.length (l.flatMap en)]) (fun l => ∀ a ∈ l, ok a) := by
  intro H enc base spare held n cs x hx
  have hone : ∃ a len cap, cs = [.slice a len cap] := by
    rcases open_slice ht hx with ⟨hcs, _⟩ | ⟨a, len', cap', _, _, _, _, hcs, _⟩
    · exact ⟨_, _, _, hcs⟩
    · exact ⟨_, _, _, hcs⟩
  obtain ⟨a, len, cap, rfl⟩ := hone
  obtain ⟨l, h1, h2, h3, h4, h5⟩ := open_row f en ok hP ht hf hc hpos (d := x.1) (p := x.2) (show DataW.Trod enc P w base spare held t (.slice a len cap) x.1 x.2 from ⟨n, hx⟩)
  exact ⟨l, h2, reps_cons (rep_row h1 h3 h4 h5 hen) reps_nil⟩
theorem reps_flat {α : Type} {s : St} {mk : α → List D} : ∀ (l : List α) (css : List (List Value)), css.length = l.length → (∀ (i : Nat) (h : i < l.length) (h2 : i < css.length), Reps s (mk l[i]) css[i]) → Reps s (l.flatMap mk) css.flatten
  | [], [], _, _ => reps_nil
  | a :: l, cs :: css, hl, h => by
    rw [List.flatMap_cons, List.flatten_cons]
    exact reps_app2 (h 0 (by simp) (by simp)) (reps_flat l css (by simpa using hl) fun i h1 h2 => h (i + 1) (by simpa using h1) (by simpa using h2))
  | [], _ :: _, h, _ => by simp at h
  | _ :: _, [], h, _ => by simp at h
theorem nlL_app : ∀ {a b : List D}, D.nlL a = true → D.nlL b = true → D.nlL (a ++ b) = true
  | [], _, _, h => h
  | d :: a, b, h, h' => by
    rw [D.nlL, Bool.and_eq_true] at h
    rw [List.cons_append, D.nlL, h.1, nlL_app h.2 h']
    rfl
theorem nlL_flat {α : Type} {mk : α → List D} (h : ∀ a, D.nlL (mk a) = true) : ∀ l : List α, D.nlL (l.flatMap mk) = true
  | [] => rfl
  | a :: l => by rw [List.flatMap_cons]; exact nlL_app (h a) (nlL_flat h l)
theorem flatM_len {α β : Type} {en : α → List β} {sz : Nat} (hen : ∀ a, (en a).length = sz) : ∀ l : List α, (l.flatMap en).length = l.length * sz
  | [] => by simp
  | a :: l => by rw [List.flatMap_cons, List.length_append, hen, flatM_len hen l, List.length_cons, Nat.succ_mul]; omega
/-- a slice of whatever opens -/
theorem opens_rows {α : Type} {t e : TypeId} {sz : Nat} {mk : α → List D} {ok : α → Prop} (he : Opens P w e mk ok) (ht : P.underlying t = some (.slice e)) (hc : P.cellsOf e = sz) (hpos : 0 < sz) (hmk : ∀ a, (mk a).length = sz) (hnl : ∀ a, D.nlL (mk a) = true) :
    Opens P w t (fun l : List α => [.slm sz l.length (l.flatMap mk)]) (fun l => ∀ a ∈ l, ok a) := by
  intro H enc base spare held n cs x hx
  rcases open_slice ht hx with ⟨hcs, _⟩ | ⟨a, len, cap, m, n', D', Pl, hcs, _, hl, hm, hmm, _, hel⟩
  · subst hcs
    exact ⟨[], by simp, reps_cons (.slm (vs := []) rfl (by simp) (Nat.le_refl _) (Nat.zero_le _) (fun _ => rfl) rfl (fun j d v hd => by simp at hd) (.inl rfl)) reps_nil⟩
  · subst hcs
    have hlm : len ≤ m := by rw [hmm]; split <;> omega
    rw [hc] at hel
    obtain ⟨l, hll, hp⟩ := list_of' len (fun i (c : α × List Value) => ok c.1 ∧ Reps (st0 w) (mk c.1) c.2 ∧ w.cells? base (a.add (i * sz)) sz = some c.2) (by
      intro i hi
      obtain ⟨cs, h1, h2⟩ := hel i (by omega)
      obtain ⟨c, hok, hr⟩ := he H enc base spare held _ cs _ h2
      exact ⟨(c, cs), hok, hr, h1⟩)
    refine ⟨l.map (·.1), fun c hcm => ?_, reps_cons ?_ reps_nil⟩
    · obtain ⟨q, hq, rfl⟩ := List.mem_map.1 hcm
      obtain ⟨i, hi, rfl⟩ := List.getElem_of_mem hq
      exact (hp i hi).1
    · have hreps : Reps (st0 w) ((l.map (·.1)).flatMap mk) (l.map (·.2)).flatten := reps_flat _ _ (by simp) fun i h1 h2 => by
        simp only [List.getElem_map]
        exact (hp i (by simpa using h1)).2.1
      have hlen : (l.map (·.1)).length = len := by simp [hll]
      have hflat : ((l.map (·.1)).flatMap mk).length = len * sz := by rw [flatM_len hmk, hlen]
      have hcslen : ∀ i (h : i < l.length), (l[i].2).length = sz := fun i h => ((World.cells?_some (hp i h).2.2).2.1)
      rw [hlen]
      refine .slm (vs := (l.map (·.2)).flatten) (nlL_flat hnl _) hflat hl hm (fun e => by cases e) hreps.1 hreps.2 ?_
      by_cases h0 : l = []
      · left; subst h0; rfl
      · right
        have hlp : 0 < l.length := List.length_pos_iff.2 h0
        obtain ⟨b, off, spot⟩ := a
        have hg := World.cells?_some (hp 0 hlp).2.2
        have hc0 := hg.2.2 0 hpos
        rw [List.getElem?_eq_getElem (by rw [hg.2.1]; exact hpos)] at hc0
        replace hc0 : ∃ v0, w.cell? (((⟨b, off, spot⟩ : Addr).add (0 * sz)).add 0) = some v0 := ⟨_, hc0⟩
        obtain ⟨v0, hc0⟩ := hc0
        have hs := World.cell?_spot hc0
        have hspot : spot = none := by simpa [Addr.add] using hs
        subst hspot
        have hpl : ∀ o k, (⟨b, o, none⟩ : Addr).add k = ⟨b, o + k, none⟩ := fun o k => by simp [Addr.add]
        rw [hpl, hpl] at hc0
        refine ⟨b, off, rfl, World.block_lt_of_cell? _ _ hc0, fun j u hj => ?_⟩
        show w.cell? ⟨b, off + j, none⟩ = some u
        have hfl : ∀ q : α × List Value, q ∈ l → q.2.length = sz := fun q hq => by
          obtain ⟨i, hi, rfl⟩ := List.getElem_of_mem hq
          exact hcslen i hi
        have key : ∀ (l' : List (α × List Value)), (∀ q ∈ l', q.2.length = sz) → ∀ j u, ((l'.map (·.2)).flatten)[j]? = some u → ∃ (i : Nat) (h : i < l'.length), j / sz = i ∧ (l'[i].2)[j % sz]? = some u := by
          intro l'
          induction l' with
          | nil => intro _ j u h; simp at h
          | cons q l' ih =>
            intro hq j u h
            have hq0 := hq q (List.mem_cons_self ..)
            rw [List.map_cons, List.flatten_cons] at h
            by_cases hj : j < sz
            · rw [List.getElem?_append_left (by omega)] at h
              exact ⟨0, by simp, Nat.div_eq_of_lt hj, by rw [Nat.mod_eq_of_lt hj]; exact h⟩
            · rw [List.getElem?_append_right (by omega), hq0] at h
              obtain ⟨i, hi, e1, e2⟩ := ih (fun q' hq' => hq q' (List.mem_cons_of_mem _ hq')) _ _ h
              refine ⟨i + 1, by simpa using hi, ?_, ?_⟩
              · rw [← e1, ← Nat.add_div_right _ hpos, Nat.sub_add_cancel (by omega)]
              · rw [Nat.mod_eq_sub_mod (by omega)]
                simpa using e2
        obtain ⟨i, hi, e1, e2⟩ := key l hfl j u hj
        have hr := Nat.mod_lt j hpos
        have h3 := (World.cells?_some (hp i hi).2.2).2.2 (j % sz) hr
        rw [hpl, hpl, e2] at h3
        have e : i * sz + j % sz = j := by rw [← e1, Nat.mul_comm]; exact Nat.div_add_mod j sz
        rw [Nat.add_assoc, e] at h3
        exact h3
end
/-- a block of one's own is given up: it stays from now on, as it is left -/
theorem tr_give {s : St} (ho : Ok s) {j g : Nat} {k : Blk} {h : Value} (hM : s.M[j]? = some k) (hl : k.live = true) (hh : s.β[j]? = some h) (hbb : hb h = some g) (w' : World)
    (hkeep : ∀ b, b ≠ g → w'.heap[b]? = s.w.heap[b]?) (hsz : w'.heap.size = s.w.heap.size) (hos : w'.os = s.w.os) (htape : w'.tape = s.w.tape) (hout : w'.output = s.w.output) :
    Tr s ⟨s.β, fun b => s.I b ∨ b = g, s.M.set j .gone, w'⟩ := by
  have hnd : ∀ (i : Nat) h, s.β[i]? = some h → h ≠ .nilFunc → s.β[i]? = some h := fun _ _ h _ => h
  replace hbb : owns k h g := owns_of (ho.blk j k h hM hh) hbb
  have hlg : Live s g := live_of hM hl hh hbb
  have hg := ho.lt g hlg
  have imm : ∀ b, s.I b → w'.heap[b]? = s.w.heap[b]? := fun b hI => hkeep b fun e => by subst e; exact hg.2 hI
  have old : ∀ (i : Nat) k', (s.M.set j .gone)[i]? = some k' → k'.live = true → i ≠ j ∧ s.M[i]? = some k' := by
    intro i k' h1 h2
    by_cases e : i = j
    · subst e
      rw [List.getElem?_set_self (by have := (List.getElem?_eq_some_iff.1 hM).1; exact this)] at h1
      cases h1; cases h2
    · rw [List.getElem?_set_ne (Ne.symm e)] at h1
      exact ⟨e, h1⟩
  have ne : ∀ (i : Nat) k' h' b, i ≠ j → s.M[i]? = some k' → k'.live = true → s.β[i]? = some h' → owns k' h' b → b ≠ g := by
    intro i k' h' b e h1 h2 h3 h4 e2
    subst e2
    exact e (ho.inj i j k' k h' h b h1 h2 h3 h4 hM hl hh hbb)
  have lv : ∀ b, Live ⟨s.β, fun b => s.I b ∨ b = g, s.M.set j .gone, w'⟩ b → Live s b ∧ b ≠ g := by
    rintro b ⟨i, k', h', h1, h2, h3, h4⟩
    obtain ⟨e, a⟩ := old i k' h1 h2
    exact ⟨live_of a h2 h3 h4, ne i k' h' b e a h2 h3 h4⟩
  refine ⟨⟨by simp [ho.len], fun i k' h' h1 h2 => ?_, fun b hb => ?_, ?_, fun b hI => ?_⟩, hkeep_of hnd, fun _ h => .inl h, fun b h => ?_, fun b hb hn => hkeep b fun e => by subst e; exact hn hlg, fun b h => .inr (lv b h).1, hos, htape, hout, by simp [hsz]⟩
  · cases hk : k'.live with
    | false =>
      cases k' with
      | gone => trivial
      | hole =>
        by_cases e : i = j
        · subst e
          rw [List.getElem?_set_self (by have := (List.getElem?_eq_some_iff.1 hM).1; exact this)] at h1
          cases h1
        · rw [List.getElem?_set_ne (Ne.symm e)] at h1
          exact ho.blk i _ h' h1 h2
      | _ => cases hk
    | true =>
      obtain ⟨e, a⟩ := old i k' h1 hk
      exact BlkOk.mono (s := s) (s' := ⟨s.β, fun b => s.I b ∨ b = g, s.M.set j .gone, w'⟩) hnd (fun _ h => .inl h) imm (ho.blk i k' h' a h2) fun b hl' hb' => hkeep b (ne i k' h' b e a hl' h2 hb')
  · obtain ⟨h1, h2⟩ := lv b hb
    obtain ⟨h3, h4⟩ := ho.lt b h1
    exact ⟨by show b < w'.heap.size; omega, fun h => h.elim h4 h2⟩
  · intro i i2 k1 k2 h1 h2 b a1 a2 a3 a4 c1 c2 c3 c4
    obtain ⟨_, a1⟩ := old i k1 a1 a2
    obtain ⟨_, c1⟩ := old i2 k2 c1 c2
    exact ho.inj i i2 k1 k2 h1 h2 b a1 a2 a3 a4 c1 c2 c3 c4
  · show b < w'.heap.size
    rcases hI with h | h
    · have := ho.il b h; omega
    · omega
  · rcases h with h | h
    · exact .inl h
    · subst h; exact .inr (.inr hlg)
section
variable {P : Program} {pc : Bool} {o : Oper} {F : Fr} {M : List Blk} {T e : TypeId} {by' : Nat} {x y : Operand}
end
/-- what stands in one cell -/
def D.oc2 : D → Bool
  | .slf _ _ _ => true
  | .slm _ _ _ => true
  | .arr _ => true
  | .farr _ _ => true
  | .floc _ _ _ => true
  | .fn _ _ _ => true
  | .val u => u.oneCell'
  | _ => false
theorem oc2_one {s : St} {d : D} {v : Value} (h : Rep s d v) (hd : d.oc2 = true) : v.oneCell' = true := by
  cases h with
  | val v => exact hd
  | slf => rfl
  | slm => rfl
  | arr => rfl
  | fn => rfl
  | farr => rfl
  | floc => rfl
  | _ => cases hd
section
variable {P : Program} {pc : Bool} {o : Oper} {F : Fr} {M : List Blk}
/-- append onto a row of one's own that holds structs of data -/
theorem op_appr {T e : TypeId} {by' sz n m i j : Nat} {x y : Operand} {l l2 : List D} {Z : List Value} (ho : o.op = .call { callee := .builtin .append, args := #[x, y], argTypes := #[T, T] }) (hT : slE P T = some (e, sz, by')) (hZ : zrC P e = some Z) (hZl : Z.length = sz)
    (hx : Ev pc F x (.arr i)) (hy : Ev pc F y (.slm sz m l2)) (hM : M[i]? = some (.arx e sz n l)) (hj : M[j]? = some .hole) (h1 : l2.all D.oc2 = true) (hbd : pc = true → (n + m) * by' ≤ 140737488355328 ∧ n + m ≤ 140737488355328) :
    DOp P pc o F M [i, j] (.arr j) [(i, .gone), (j, .arx e sz (n + m) (l ++ l2))] := by
  intro hp a s hok hops hfp
  obtain ⟨e1, ti, e2, e3, e4⟩ := slE_spec hT
  obtain ⟨ti', z, q1, q2, q3⟩ := zrC_spec hZ
  rw [e2] at q1
  obtain rfl := Option.some.inj q1
  obtain ⟨b1, b2⟩ := hbd hp
  have hM' : s.M[i]? = some (.arx e sz n l) := by rw [hfp i (by simp)]; exact hM
  have hj' : s.M[j]? = some .hole := by rw [hfp j (by simp)]; exact hj
  have hij : i ≠ j := fun h => by subst h; rw [hM'] at hj'; cases hj'
  have hjl : j < s.β.length := by rw [hok.len]; exact (List.getElem?_eq_some_iff.1 hj').1
  have hrx := ev_at hp hx (by simp [ho, Op.operands, Call.operands]) hops
  have hry := ev_at hp hy (by simp [ho, Op.operands, Call.operands]) hops
  generalize hv : a.eval x = vx at hrx
  generalize hvy : a.eval y = vy at hry
  cases hry with
  | @slm _ _ cap2 a2 _ vs2 hnl2 hl2 hn2 hc2 ha2 hvl2 hel2 hm2 =>
  have hso : SrcOk s (.slice a2 m cap2) m vs2 := by
    refine ⟨a2, cap2, rfl, ?_⟩
    cases a2 with
    | none =>
      have := ha2 rfl
      exact .inl ⟨rfl, by omega, this, List.eq_nil_of_length_eq_zero (by rw [hvl2, hl2, show m = 0 by omega, Nat.zero_mul])⟩
    | some ad =>
      refine .inr ⟨ad, rfl, fun k u hk => ?_⟩
      rcases hm2 with e | ⟨b, q, e, hI, hcl⟩
      · rw [e] at hvl2
        rw [List.eq_nil_of_length_eq_zero hvl2] at hk
        simp at hk
      · cases e
        rw [Addr.add_mid]
        exact hcl k u hk
  have hone : ∀ u ∈ vs2, u.oneCell' = true := fun u hu => by
    obtain ⟨k, hk, rfl⟩ := List.getElem_of_mem hu
    have hk2 : k < l2.length := by omega
    exact oc2_one (hel2 k _ _ (List.getElem?_eq_getElem hk2) (List.getElem?_eq_getElem hk)) (List.all_eq_true.1 h1 _ (List.getElem_mem hk2))
  cases hrx with
  | @arr _ ad n' c hβ =>
    obtain ⟨vs, hk, hvl, hel⟩ := hok.blk i _ _ hM' hβ
    obtain ⟨h', w', r1, r2, r3, r4⟩ := run_append_D (P := P) (ty := o.type) (m := m) e1 e2 e3 e4 q2 (by rw [← hZl, ← q3]; simp) hk (by rw [hvl2]; exact hl2) hso hone (by unfold maxLen; omega) b1
    have hs' : (h' = .slice none 0 0) ∨ ∃ a n c, h' = .slice (some a) n c := by
      rcases r2.2 with ⟨q, _⟩ | ⟨g, cap, cur, q, _⟩
      · exact .inl q
      · exact .inr ⟨_, _, _, q⟩
    have hs0 : (Value.slice ad n' c = .slice none 0 0) ∨ ∃ a n k, Value.slice ad n' c = .slice (some a) n k := by
      rcases hk.2 with ⟨q, _⟩ | ⟨g, cap, cur, q, _⟩
      · exact .inl q
      · exact .inr ⟨_, _, _, q⟩
    have o1 := hb_own hs'
    have o0 := hb_own hs0
    have hblk : s.w.heap.size ≤ w'.heap.size := r3.size
    have hβj : s.β[j]? = some .nilFunc := by
      have q : s.β[j]? = some s.β[j] := List.getElem?_eq_getElem hjl
      have : s.β[j] = .nilFunc := hok.blk j .hole _ hj' q
      rw [q, this]
    have from_ : ∀ b, hb h' = some b → s.w.heap.size ≤ b ∨ (hb (Value.slice ad n' c) = some b) := by
      intro b hbb
      rw [o1] at hbb
      rcases r4 b hbb with h | h
      · exact .inr (by rw [o0]; exact h)
      · exact .inl h
    have hnd' : ∀ (k : Nat) h, s.β[k]? = some h → h ≠ .nilFunc → (s.β.set j h')[k]? = some h := fun k h hk' hne => by
      by_cases e : j = k
      · subst e; rw [hβj] at hk'; exact absurd (Option.some.inj hk').symm hne
      · rw [List.getElem?_set_ne e]; exact hk'
    have imm' : ∀ b, s.I b → w'.heap[b]? = s.w.heap[b]? := fun b hI => r3.block b (hok.il b hI) fun h => by
      rw [← o0] at h
      exact (hok.lt b (live_of hM' rfl hβ h.symm)).2 hI
    have hblkx : BlkOk ⟨s.β.set j h', s.I, (s.M.set i .gone).set j (.arx e sz (n + m) (l ++ l2)), w'⟩ h' (.arx e sz (n + m) (l ++ l2)) := by
      refine ⟨vs ++ vs2, r2, by simp [hvl, hvl2], fun k d v hk1 hk2 => ?_⟩
      by_cases hlt : k < l.length
      · rw [List.getElem?_append_left hlt] at hk1
        rw [List.getElem?_append_left (by omega)] at hk2
        exact Rep.mono' (s' := ⟨s.β.set j h', s.I, (s.M.set i .gone).set j (.arx e sz (n + m) (l ++ l2)), w'⟩) hnd' (fun _ h => h) imm' (hel k d v hk1 hk2)
      · rw [List.getElem?_append_right (by omega)] at hk1 hk2
        rw [hvl] at hk2
        exact Rep.mono' (s' := ⟨s.β.set j h', s.I, (s.M.set i .gone).set j (.arx e sz (n + m) (l ++ l2)), w'⟩) hnd' (fun _ h => h) imm' (hel2 _ d v hk1 hk2)
    have ht : Tr s ⟨s.β.set j h', s.I, (s.M.set i .gone).set j (.arx e sz (n + m) (l ++ l2)), w'⟩ := by
      refine step_set hok j (s.M.set i .gone) h' _ w' (by simp) (fun k kb hkb => ?_) (by rw [← hok.len]; exact hjl) (.inl hβj) (by rcases hs' with rfl | ⟨_, _, _, rfl⟩ <;> simp) hblkx (fun b hbb k kb hh hne q1 q2 q3 q4 => ?_) (fun b hbb => (from_ b hbb).imp id fun h => live_of hM' rfl hβ h) (fun b hbb => ?_) (fun b => hb (Value.slice ad n' c) = some b) (fun b hdr => ⟨live_of hM' rfl hβ hdr, fun k kb hh hne q1 q2 q3 q4 => ?_⟩) (fun b hlt hne hnd => ?_) r3.os r3.tape r3.output hblk
      · by_cases hki : i = k
        · subst hki
          have hlt : i < s.M.length := (List.getElem?_eq_some_iff.1 hM').1
          rw [List.getElem?_set_self hlt] at hkb
          exact .inr (Option.some.inj hkb).symm
        · rw [List.getElem?_set_ne hki] at hkb; exact .inl hkb
      · have hki : i ≠ k := fun h => by
          subst h
          have hlt : i < s.M.length := (List.getElem?_eq_some_iff.1 hM').1
          rw [List.getElem?_set_self hlt] at q1
          cases q1; cases q2
        rw [List.getElem?_set_ne hki] at q1
        rcases from_ b hbb with h | h
        · exact absurd (hok.lt b (live_of q1 q2 q3 q4)).1 (Nat.not_lt.2 h)
        · exact hki (hok.inj i k _ kb _ hh b hM' rfl hβ h q1 q2 q3 q4)
      · replace hbb : hb h' = some b := hbb
        rw [o1] at hbb
        exact (r2.lt b hbb).2
      · have hki : i ≠ k := fun h => by
          subst h
          have hlt : i < s.M.length := (List.getElem?_eq_some_iff.1 hM').1
          rw [List.getElem?_set_self hlt] at q1
          cases q1; cases q2
        rw [List.getElem?_set_ne hki] at q1
        exact hki (hok.inj i k _ kb _ hh b hM' rfl hβ hdr q1 q2 q3 q4)
      · exact r3.block b hlt fun h => hnd (by rw [o0]; exact h.symm)
    refine dg_step (s' := ⟨s.β.set j h', s.I, (s.M.set i .gone).set j (.arx e sz (n + m) (l ++ l2)), w'⟩) (run_builtin ho (fun cs => by rfl) (by simpa [hv, hvy] using r1)) ht rfl ?_
    rcases hs' with rfl | ⟨_, _, _, rfl⟩
    · exact .arr (by simp [hjl])
    · exact .arr (by simp [hjl])
end
section
variable {P : Program} {s0 : St} {n : Cx}
end
section
variable {P : Program} {pc : Bool} {o : Oper} {F : Fr} {M : List Blk} {T : TypeId} {x y : Operand} {n : Nat} {k : IntKind} {z : Int} {j : Nat}
end
/-- fields that read as data, from cell o on -/
def OpensF (P : Program) (w : World) {α : Type} (fs : List Field) (o tot : Nat) (mk : α → List D) (ok : α → Prop) : Prop :=
  ∀ (H : Type) (enc : TypeId × Value → H) (base : Nat) (spare : Nat → Bool) (held : Bool) (n : Nat) (cs : List Value), cs.length = tot → (∀ f, f ∈ fs → ∃ x, DataW.trod enc P w base spare held n f.type ((cs.drop f.offset).take (P.cellsOf f.type)) = some x) → ∃ a, ok a ∧ Reps (st0 w) (mk a) (cs.drop o)
section
variable {P : Program} {w : World}
theorem opensF_nil {tot : Nat} : OpensF P w ([] : List Field) tot tot (fun _ : Unit => []) (fun _ => True) := fun H enc base spare held n cs hl _ =>
  ⟨(), trivial, by rw [List.drop_eq_nil_of_le (by omega)]; exact ⟨rfl, fun j d v h => by simp at h⟩⟩
theorem opensF_cons {α β : Type} {f : Field} {fs : List Field} {o k tot : Nat} {mk : α → List D} {mk' : β → List D} {ok : α → Prop} {ok' : β → Prop} (ho : f.offset = o) (hk : P.cellsOf f.type = k) (h : Opens P w f.type mk ok) (h' : OpensF P w fs (o + k) tot mk' ok') :
    OpensF P w (f :: fs) o tot (fun a : α × β => mk a.1 ++ mk' a.2) (fun a => ok a.1 ∧ ok' a.2) := by
  intro H enc base spare held n cs hl hall
  obtain ⟨x, hx⟩ := hall f (List.mem_cons_self ..)
  rw [ho, hk] at hx
  obtain ⟨a, h1, h2⟩ := h H enc base spare held n _ x hx
  obtain ⟨b, h3, h4⟩ := h' H enc base spare held n cs hl fun g hg => hall g (List.mem_cons_of_mem _ hg)
  refine ⟨(a, b), ⟨h1, h3⟩, ?_⟩
  have e : cs.drop o = (cs.drop o).take k ++ cs.drop (o + k) := by rw [← List.drop_drop, List.take_append_drop]
  rw [e]
  exact reps_app2 h2 h4
theorem opens_struct {α : Type} {t : TypeId} {fs : Array Field} {tot : Nat} {mk : α → List D} {ok : α → Prop} (hu : P.underlying t = some (.struct fs)) (ht : P.cellsOf t = tot) (h : OpensF P w fs.toList 0 tot mk ok) : Opens P w t mk ok := by
  intro H enc base spare held n cs x hx
  obtain ⟨xs, m, _, _, hl, hlen, hf⟩ := DataW.trod_struct hu hx
  obtain ⟨a, h1, h2⟩ := h H enc base spare held m cs (by rw [hl, ht]) fun f hfm => by
    obtain ⟨i, hi, rfl⟩ := List.getElem_of_mem hfm
    have hi' : i < fs.size := by simpa using hi
    have h3 := hf i fs[i] (Array.getElem?_eq_getElem hi')
    rw [List.getElem?_eq_getElem (by omega)] at h3
    exact ⟨_, by simpa using h3⟩
  exact ⟨a, h1, by simpa using h2⟩
theorem opens_map {α β : Type} {t : TypeId} {mk : α → List D} {ok : α → Prop} {mk' : β → List D} {ok' : β → Prop} (g : α → β) (h : Opens P w t mk ok) (hm : ∀ a, mk a = mk' (g a)) (ho : ∀ a, ok a → ok' (g a)) : Opens P w t mk' ok' := by
  intro H enc base spare held n cs x hx
  obtain ⟨a, h1, h2⟩ := h H enc base spare held n cs x hx
  exact ⟨g a, ho a h1, by rw [← hm]; exact h2⟩
end
set_option maxRecDepth 100000
/-- a struct among the arguments that opens -/
theorem open_agg {H : Type} {enc : TypeId × Value → H} {w : World} {base : Nat} {spare : Nat → Bool} {held : Bool} {α : Type} {t : TypeId} {fs : Array Field} {mk : α → List D} {ok : α → Prop} {v : Value} {d : DataW H} {p : List MemPlace} {r : Reach} {b0 : Nat} (hu : Tryz.prog.underlying t = some (.struct fs)) (ho : Opens Tryz.prog w t mk ok) (hv : Value.okWide Tryz.prog w r b0 t v) (h : DataW.Trod enc Tryz.prog w base spare held t v d p) :
    ∃ a, ok a ∧ Rep (st0 w) (.agg (mk a)) v := by
  obtain ⟨cs, rfl, hsz⟩ := okWide_struct hu hv
  obtain ⟨fuel, hfu⟩ := h
  obtain ⟨a, hok, hr⟩ := ho H enc base spare held _ _ _ hfu
  have h5 := Rep.agg (s := st0 w) (l := mk a) (vs := cs.toList) hr.1 hr.2
  rw [Array.toArray_toList] at h5
  exact ⟨a, hok, h5⟩
section
variable {P : Program} {pc : Bool} {o : Oper} {F : Fr} {M : List Blk}
end
section
variable {P : Program} {pc : Bool} {o : Oper} {F : Fr} {M : List Blk}
theorem op_bsxs {T e : TypeId} {n sz by' : Nat} {ps : List (Nat × Operand)} {ds R : List D} {Z : List Value} (jn : Nat) (ho : o.op = .buildSlice T n ps.toArray) (hT : slE P T = some (e, sz, by')) (hZ : zrC P e = some Z) (hi : ps.map (·.1) = List.range' 0 n) (hv : EvL pc F (ps.map (·.2)) ds) (hc : ds.all D.c1 = true) (hs : ds.all (fun d => d.cs.length == sz) = true)
    (hR : ds.flatMap D.cs = R) (hl : R.length = n * sz) (hn : n ≤ 16777216) (hn2 : n * sz ≤ 16777216) (hj : M[jn]? = some .hole) : DOp P pc o F M [jn] (.arr jn) [(jn, .arx e sz n R)] := by
  intro hp a s hok hops hfp
  have hr := evL_reps (a := a) (s := s) hp _ _ hv (fun x hx => hops x (by rw [ho]; simpa [Op.operands] using hx))
  obtain ⟨vs, hvs⟩ : ∃ vs, vs = (ps.map (·.2)).map a.eval := ⟨_, rfl⟩
  rw [← hvs] at hr
  have hcs := reps_cs ds vs hr hc
  rw [hR] at hcs
  have hcell : ∀ v ∈ vs, v.cells.size = sz := fun v hv' => by
    obtain ⟨j, hj, rfl⟩ := List.getElem_of_mem hv'
    have hj2 : j < ds.length := by have := hr.1; omega
    have h1 := (cs_rep (hr.2 j _ _ (List.getElem?_eq_getElem hj2) (List.getElem?_eq_getElem hj)) (List.all_eq_true.1 hc _ (List.getElem_mem hj2))).1
    have h2 := List.all_eq_true.1 hs _ (List.getElem_mem hj2)
    simp only [beq_iff_eq] at h2
    rw [h2] at h1
    simpa using h1
  have hrun := run_buildSlice (P := P) (w := s.w) ho hT hZ hi hvs.symm hcell hn2
  have hj' : s.M[jn]? = some .hole := by rw [hfp jn (by simp)]; exact hj
  have hjl : jn < s.β.length := by rw [hok.len]; exact (List.getElem?_eq_some_iff.1 hj').1
  obtain ⟨us, hus⟩ : ∃ us, us = vs.flatMap fun v => v.cells.toList := ⟨_, rfl⟩
  rw [← hus] at hrun hcs
  have hul : us.length = n * sz := by rw [hcs.1, hl]
  refine dg_step (s' := ⟨s.β.set jn (.slice (some ⟨s.w.heap.size, 0, none⟩) n n), s.I, s.M.set jn (.arx e sz n R), _⟩) hrun (tr_new hok hj' _ _ _ (by simp) (fun b hb => by cases hb; rfl) (fun b h => Below.heap_alloc _ _ _ h) (fun b hb => by cases hb; simp) (by simp) rfl rfl rfl ?_) rfl (.arr (by simp [hjl]))
  have hrow := World.ownsRow_lit (base := 0) (e := e) (size := sz) s.w us.toArray n (Nat.zero_le _) (by unfold maxLen; omega) (by simp [hul])
  refine ⟨us, by simpa using hrow, hcs.1, fun j' d v h2 h3 => ?_⟩
  refine Rep.mono' (s := s) (s' := ⟨s.β.set jn (.slice (some ⟨s.w.heap.size, 0, none⟩) n n), s.I, s.M.set jn (.arx e sz n R), s.w.alloc (.cells us.toArray e)⟩) (fun i h hi hne => ?_) (fun _ h => h) (fun b hb => Below.heap_alloc _ _ _ (hok.il b hb)) (hcs.2 j' d v h2 h3)
  by_cases e' : i = jn
  · subst e'
    exact absurd (hok.blk i _ h hj' hi) hne
  · rw [List.getElem?_set_ne (Ne.symm e')]; exact hi
end
section
variable {P : Program} {pc : Bool} {o : Oper} {F : Fr} {M : List Blk}
/-- a struct with addresses, out of a longer block -/
theorem op_ldmp {T T' : TypeId} {x : Operand} {i p k : Nat} {l R : List D} (ho : o.op = .load T x) (hT : tyB P T = some (true, k)) (hx : Ev pc F x (.loc i p)) (hM : M[i]? = some (.mix T' l)) (hR : (l.drop p).take k = R) (hl : R.length = k) : DOp P pc o F M [i] (.agg R) [] := by
  intro hp a s hok hops hfp
  have hr := ev_at hp hx (by simp [ho, Op.operands]) hops
  generalize hv : a.eval x = vx at hr
  cases hr with
  | @loc _ _ b h =>
    obtain ⟨b', vs, e1, e2, e3, e4⟩ := hok.blk i _ _ (by rw [hfp i (by simp)]; exact hM) h
    cases e1
    have hlen : ((vs.drop p).take k).length = R.length := by
      rw [← hR, List.length_take, List.length_drop, List.length_take, List.length_drop, e3]
    have hc : cellsAt s.w b 0 vs := cellsAt_block e2 0
    have hr := cellsAt_range hc p k rfl
    rw [Nat.zero_add] at hr
    refine dg_val hok (run_load_row ho hT hv hr (by omega)) (.agg hlen fun j d v h1 h2 => ?_)
    rw [← hR] at h1
    rcases Nat.lt_or_ge j k with hjk | hjk
    · rw [List.getElem?_take, if_pos hjk, List.getElem?_drop] at h1 h2
      exact e4 _ _ _ h1 h2
    · rw [List.getElem?_take, if_neg (by omega)] at h1
      cases h1
end
/-- a block is forgotten -/
theorem tr_gone {s : St} (ho : Ok s) (i : Nat) : Tr s ⟨s.β, s.I, s.M.set i .gone, s.w⟩ := by
  have hnd : ∀ (i : Nat) h, s.β[i]? = some h → h ≠ .nilFunc → s.β[i]? = some h := fun _ _ h _ => h
  have old : ∀ (j : Nat) k, (s.M.set i .gone)[j]? = some k → k = .gone ∨ s.M[j]? = some k := fun j k hj => by
    by_cases e : i = j
    · subst e
      by_cases hl : i < s.M.length
      · rw [List.getElem?_set_self hl] at hj
        exact .inl (Option.some.inj hj).symm
      · rw [List.getElem?_eq_none (by simp; omega)] at hj; cases hj
    · rw [List.getElem?_set_ne e] at hj; exact .inr hj
  have lv : ∀ b, Live ⟨s.β, s.I, s.M.set i .gone, s.w⟩ b → Live s b := by
    rintro b ⟨j, k, h, h1, h2, h3, h4⟩
    rcases old j k h1 with rfl | h1
    · cases h2
    · exact live_of h1 h2 h3 h4
  refine ⟨⟨by simp [ho.len], fun j k h h1 h2 => ?_, fun b hb => ho.lt b (lv b hb), ?_, ho.il⟩, hkeep_of hnd, fun _ h => h, fun _ h => .inl h, fun _ _ _ => rfl, fun b h => .inr (lv b h), rfl, rfl, rfl, Nat.le_refl _⟩
  · rcases old j k h1 with rfl | h1
    · trivial
    · exact BlkOk.mono (s := s) (s' := ⟨s.β, s.I, s.M.set i .gone, s.w⟩) hnd (fun _ h => h) (fun _ _ => rfl) (ho.blk j k h h1 h2) (fun _ _ _ => rfl)
  · intro j j2 k k2 x x2 b a1 a2 a3 a4 c1 c2 c3 c4
    rcases old j k a1 with rfl | a1
    · cases a2
    · rcases old j2 k2 c1 with rfl | c1
      · cases c2
      · exact ho.inj j j2 k k2 x x2 b a1 a2 a3 a4 c1 c2 c3 c4
theorem upd_app : ∀ (a b : List (Nat × Blk)) (M : List Blk), upd M (a ++ b) = upd (upd M a) b
  | [], _, _ => rfl
  | (i, k) :: a, b, M => by rw [List.cons_append, upd, upd, upd_app a b]
section
variable {P : Program} {s0 : St} {n : Cx}
end
section
variable {P : Program} {s0 : St} {n : Cx}
end
theorem Wk.slm0 (sz : Nat) : Wk (.val (.slice none 0 0)) (.slm sz 0 []) := fun s v hr => by
  cases hr with
  | val => exact .slm (vs := []) rfl (by simp) (Nat.le_refl _) (Nat.zero_le _) (fun _ => rfl) rfl (fun j d v h => by simp at h) (.inl rfl)
section
variable {P : Program} {s0 : St} {n : Cx}
/-- .. of what a slot holds -/
theorem dwp_wk {c : Code} {F : Fr} {M : List Blk} {K : Cont} {d d' : D} (t : Nat) (ht : lk F t = some d) (hw : Wk d d') (h : dwp P s0 n c ((t, d') :: F) M K) : dwp P s0 n c F M K := by
  intro a w hi
  refine h a w ?_
  obtain ⟨h0, s, h1, h2, h3, h4, h5, h6⟩ := hi
  refine ⟨h0, s, h1, h2, h3, fun x e he => ?_, h5, h6⟩
  rw [lk_cons] at he
  split at he
  · rename_i e'
    subst e'
    obtain rfl := Option.some.inj he
    exact hw s _ (h4 t _ ht)
  · exact h4 x e he
end
section
variable {P : Program} {pc : Bool} {o : Oper} {F : Fr} {M : List Blk} {T : TypeId} {x : Operand}
end
section
variable {P : Program} {s0 : St} {n : Cx}
end
theorem tr_giveX {s : St} (ho : Ok s) {j sz n : Nat} {T : TypeId} {l : List D} {v : Value} (hM : s.M[j]? = some (.arx T sz n l)) (hnl : D.nlL l = true) (hr : Rep s (.arr j) v) : ∃ I' : Nat → Prop, Tr s ⟨s.β, I', s.M.set j .gone, s.w⟩ ∧ Rep ⟨s.β, I', s.M.set j .gone, s.w⟩ (.slm sz n l) v := by
  cases hr with
  | @arr _ ad n' c hβ =>
    obtain ⟨vs, hk, q3, q4⟩ := ho.blk j _ _ hM hβ
    rcases hk.2 with ⟨e1, e2⟩ | ⟨g, cap, cur, e1, e2, e3, e4, e5, e6, e7⟩
    · cases e1; subst e2
      have hl0 : l = [] := List.eq_nil_of_length_eq_zero (by rw [← q3, hk.1, Nat.zero_mul])
      subst hl0
      exact ⟨s.I, tr_gone ho j, .slm (vs := []) rfl (by simp) (Nat.le_refl _) (Nat.zero_le _) (fun _ => rfl) rfl (fun j d v h => by simp at h) (.inl rfl)⟩
    · cases e1
      have tt := tr_give ho hM rfl hβ rfl s.w (fun _ _ => rfl) rfl rfl rfl rfl
      refine ⟨fun b => s.I b ∨ b = g, tt, .slm (vs := vs) hnl (by rw [← q3]; exact hk.1) e4 e5 (fun e => by cases e) q3 (fun i d v h1 h2 => (q4 i d v h1 h2).mono ho tt) (.inr ⟨g, 0, rfl, .inr rfl, ?_⟩)⟩
      have hc0 := cellsAt_sub (cellsAt_block e3 0) 0 (n * sz)
      simpa [e7] using hc0
/-- a row of data that an operation makes is given up at once: it stays -/
theorem DOp.giveX {P : Program} {pc : Bool} {o : Oper} {F : Fr} {M : List Blk} {fp : List Nat} {j sz n : Nat} {T : TypeId} {l : List D} (wr : List (Nat × Blk)) (h : DOp P pc o F M fp (.arr j) (wr ++ [(j, .arx T sz n l)])) (hnl : D.nlL l = true) (hj : M[j]? = some .hole) (hf : fp.contains j = true) : DOp P pc o F M fp (.slm sz n l) (wr ++ [(j, .gone)]) := by
  intro hp a s hok hops hfp
  refine (h hp a s hok hops hfp).map fun s' v ho' ⟨e1, e2⟩ => ?_
  have hjl : j < s.M.length := by
    have h1 := hfp j (by simpa using hf)
    rw [hj] at h1
    exact (List.getElem?_eq_some_iff.1 h1).1
  have hM : s'.M[j]? = some (.arx T sz n l) := by
    rw [e1, upd_app]
    show ((upd s.M wr).set j _)[j]? = _
    rw [List.getElem?_set_self (by rw [upd_len]; exact hjl)]
  obtain ⟨I', t1, r1⟩ := tr_giveX ho' hM hnl e2
  refine ⟨⟨s'.β, I', s'.M.set j .gone, s'.w⟩, rfl, t1, ?_, r1⟩
  show s'.M.set j .gone = _
  rw [e1, upd_app, upd_app]
  show ((upd s.M wr).set j _).set j .gone = (upd s.M wr).set j .gone
  rw [List.set_set]
theorem DOp.giveX2 {P : Program} {pc : Bool} {o : Oper} {F : Fr} {M : List Blk} {fp : List Nat} {i j sz n : Nat} {T : TypeId} {l : List D} (h : DOp P pc o F M fp (.arr j) [(i, .gone), (j, .arx T sz n l)]) (hnl : D.nlL l = true) (hj : M[j]? = some .hole) (hf : fp.contains j = true) : DOp P pc o F M fp (.slm sz n l) [(i, .gone), (j, .gone)] := DOp.giveX [(i, .gone)] h hnl hj hf
theorem natzero (a : Nat) : (((a : Int)) == 0) = decide (a = 0) := by
  rw [Bool.eq_iff_iff]; simp
set_option maxRecDepth 4000 in
set_option maxHeartbeats 1000000 in
theorem refVR_d (v : Vec) : DFun Tryz.prog 13 [.val (.agg (c9 v).toArray)] [] (.val (.bool (vB v))) [] := by
  refine zba (N := 21) 0 (by kernel_rfl) Tryz.func13 rfl rfl rfl (by simp only [fr0, Nat.zero_add, Nat.reduceAdd]; exact rfl) rfl fun s0 hs0 => ?_
  refine zaf ?_
  refine zaj 1 (by simp only [holes, List.cons_append, List.nil_append]; exact rfl) ?_
  refine zac ?_
  refine zam rfl rfl rfl (op_boxa 0 rfl (ev1 rfl) rfl) (by simp only [upd, za, zaa]; exact rfl) ?_
  refine zab rfl rfl rfl (zad (.inr rfl) (ev1 rfl)) ?_
  refine zae ?_
  refine zaf ?_
  refine zaf ?_
  refine zac ?_
  refine zab rfl rfl rfl (zas rfl tb24 (ev1 rfl) rfl rfl) ?_
  refine zab rfl rfl rfl (zad (.inl rfl) (ev1 rfl)) ?_
  refine zae ?_
  refine zat ?_
  refine dwp_loopS ⟨hs0, rfl⟩ (α := Nat) (fun k => [(6, .val (.int .i64 (k : Int)))]) [(5, _)] (fun k => []) [_] (fun k => k ≤ 9 ∧ ∀ i, i < k → vOne v i) (fun k => 9 - k) 0 [0] (⟨by omega, fun i hi => absurd hi (by omega)⟩) rfl ⟨rfl, trivial⟩ ⟨rfl, trivial⟩ ⟨rfl, trivial⟩ ?_
  intro k hx
  simp only [upd, za, zaa, List.cons_append, List.nil_append]
  obtain ⟨hk, he⟩ := hx
  refine zaf ?_
  refine zac ?_
  refine zab rfl rfl rfl (op_lss rfl (ev1 rfl) (ev1 rfl)) ?_
  refine zae ?_
  refine zaf ?_
  refine zaw rfl (fun c1 => ?_) (fun c1 => ?_)
  · try simp only [yg, ya, beq_iff_eq, bne_iff_ne, yb, yc, yf, ye, yh, yi, yd, ne_eq, yj, Int.not_lt, Int.not_le] at c1
    refine zak ?_
    refine zaf ?_
    refine zat ?_
    refine zaf ?_
    refine zac ?_
    refine zab rfl rfl rfl (zad (.inl rfl) (ev1 rfl)) ?_
    refine zab rfl rfl rfl (op_ixu (k) rfl aw24 (ev1 rfl) (ev1 rfl) (fun _ => rfl) (by omega) (c9_at v _ (by omega))) ?_
    refine zab rfl rfl rfl (zad (.inr rfl) (ev1 rfl)) ?_
    refine zab rfl rfl rfl (zad (.inr rfl) (ev1 rfl)) ?_
    refine zae ?_
    refine zaf ?_
    refine zac ?_
    refine zab rfl rfl rfl (zad (.inl rfl) (ev1 rfl)) ?_
    refine zab rfl rfl rfl (op_gtr rfl (ev1 rfl) (ev1 rfl)) ?_
    refine zab rfl rfl rfl (zad (.inl rfl) (ev1 rfl)) ?_
    refine zag (zan rfl rfl rfl) rfl rfl rfl (zad (.inl rfl) (ev1 rfl)) ?_
    refine zag (zan rfl rfl rfl) rfl rfl rfl (zb rfl (ev2 rfl) (ev1 rfl)) ?_
    refine zag (zan rfl rfl rfl) rfl rfl rfl (zad (.inl rfl) (ev2 rfl)) ?_
    refine zag (zay rfl rfl rfl) rfl rfl rfl (zad (.inl rfl) (ev1 rfl)) ?_
    refine zag (zay rfl rfl rfl) rfl rfl rfl (op_neq rfl (ev2 rfl) (ev1 rfl)) ?_
    refine zag (zan rfl rfl rfl) rfl rfl rfl (zaz rfl (ev2 rfl) (ev2 rfl)) ?_
    refine zab rfl rfl rfl (op_or rfl (ev1 rfl) (ev3 rfl id)) ?_
    refine zae ?_
    refine zaw rfl (fun c2 => ?_) (fun c2 => ?_)
    · try simp only [yg, ya, beq_iff_eq, bne_iff_ne, yb, yc, yf, ye, yh, yi, yd, ne_eq, yj, Int.not_lt, Int.not_le] at c2
      refine zaf ?_
      refine zac ?_
      refine zab rfl rfl rfl (zad (.inr rfl) (ev1 rfl)) ?_
      refine zae ?_
      refine zau ?_
      refine kend0 (rs1 rfl (rv_t rfl)) rfl ?_
      rw [vB_no (i := k) (by omega) (fun h => by unfold vOne at h; omega)]
    · try simp only [yg, ya, beq_iff_eq, bne_iff_ne, yb, yc, yf, ye, yh, yi, yd, ne_eq, yj, Int.not_lt, Int.not_le] at c2
      have hov : vOne v k := ⟨by simp at c2; omega, fun e => by simp at c2; omega⟩
      refine zak ?_
      refine zac ?_
      refine zab rfl rfl rfl (op_add' rfl (ev1 rfl) (ev1 rfl) (fun _ => IntWalk.i64_in _ (by omega))) ?_
      refine zab rfl rfl rfl (zad (.inl rfl) (ev1 rfl)) ?_
      refine zae ?_
      refine ⟨k + 1, [0], ⟨by omega, vOne_step he hov⟩, by simp only []; omega, rfl, ⟨rfl, rfl, trivial⟩, ⟨rfl, trivial⟩⟩
  · try simp only [yg, ya, beq_iff_eq, bne_iff_ne, yb, yc, yf, ye, yh, yi, yd, ne_eq, yj, Int.not_lt, Int.not_le] at c1
    refine dwp_exit ?_
    refine zaf ?_
    refine zac ?_
    refine zab rfl rfl rfl (zad (.inr rfl) (ev1 rfl)) ?_
    refine zae ?_
    refine zau ?_
    refine kend0 (rs1 rfl (rv_t rfl)) rfl ?_
    rw [vB_all.2 fun i hi => he i (by omega)]
set_option maxRecDepth 4000 in
set_option maxHeartbeats 1000000 in
theorem refSite_d (n : Int) : DFun Tryz.prog 67 [.val (.int .i64 n)] [] (.val (.bool (isSt n))) [] := by
  refine zba (N := 9) 0 (by kernel_rfl) Tryz.func67 rfl rfl rfl (by simp only [fr0, Nat.zero_add, Nat.reduceAdd]; exact rfl) rfl fun s0 hs0 => ?_
  refine zaf ?_
  refine zac ?_
  refine zab rfl rfl rfl (zad (.inr rfl) (ev1 rfl)) ?_
  refine zae ?_
  refine zaf ?_
  refine zac ?_
  refine zab rfl rfl rfl (zad (.inl rfl) (ev1 rfl)) ?_
  refine zab rfl rfl rfl (op_geq rfl (ev1 rfl) (ev1 rfl)) ?_
  refine zab rfl rfl rfl (zad (.inl rfl) (ev1 rfl)) ?_
  refine zag (zar rfl rfl rfl) rfl rfl rfl (zad (.inl rfl) (ev1 rfl)) ?_
  refine zag (zar rfl rfl rfl) rfl rfl rfl (op_leq rfl (ev2 rfl) (ev1 rfl)) ?_
  refine zab rfl rfl rfl (zaz rfl (ev1 rfl) (ev3 rfl id)) ?_
  refine zab rfl rfl rfl (zad (.inr rfl) (ev1 rfl)) ?_
  refine zae ?_
  refine zau ?_
  refine kend0 (rs1 rfl (rv_t rfl)) rfl ?_
  rfl
set_option maxRecDepth 4000 in
set_option maxHeartbeats 1000000 in
theorem refRight_d (i : I3) : DFun Tryz.prog 82 [.val (.agg (idc i).toArray)] [] (.val (.bool (mayR i))) [] := by
  refine zba (N := 26) 0 (by kernel_rfl) Tryz.func82 rfl rfl rfl (by simp only [fr0, Nat.zero_add, Nat.reduceAdd]; exact rfl) rfl fun s0 hs0 => ?_
  refine zaf ?_
  refine zaj 1 (by simp only [holes, List.cons_append, List.nil_append]; exact rfl) ?_
  refine zac ?_
  refine zam rfl rfl rfl (op_boxa 0 rfl (ev1 rfl) rfl) (by simp only [upd, za, zaa]; exact rfl) ?_
  refine zab rfl rfl rfl (zad (.inr rfl) (ev1 rfl)) ?_
  refine zae ?_
  refine zaf ?_
  refine zac ?_
  refine zab rfl rfl rfl (zap rfl fo61_0 (ev1 rfl)) ?_
  refine zab rfl rfl rfl (op_ldo rfl tb22 (ev1 rfl) rfl rfl) ?_
  refine zab rfl rfl rfl (op_geq rfl (ev1 rfl) (ev1 rfl)) ?_
  refine zab rfl rfl rfl (zad (.inl rfl) (ev1 rfl)) ?_
  refine zag (zar rfl rfl rfl) rfl rfl rfl (zap rfl fo61_0 (ev1 rfl)) ?_
  refine zag (zar rfl rfl rfl) rfl rfl rfl (op_ldo rfl tb22 (ev2 rfl) rfl rfl) ?_
  refine zag (zar rfl rfl rfl) rfl rfl rfl (op_leq rfl (ev2 rfl) (ev1 rfl)) ?_
  refine zab rfl rfl rfl (zaz rfl (ev1 rfl) (ev3 rfl id)) ?_
  refine zab rfl rfl rfl (zad (.inl rfl) (ev1 rfl)) ?_
  refine zag (zar rfl rfl rfl) rfl rfl rfl (zap rfl fo61_1 (ev1 rfl)) ?_
  refine zag (zar rfl rfl rfl) rfl rfl rfl (op_ldo rfl tb3 (ev2 rfl) rfl rfl) ?_
  refine zag (zar rfl rfl rfl) rfl rfl rfl (zah [] [] [] rfl (ev1 rfl) (ec (ev2 rfl) en) rfl rfl (refSite_d _) rfl rfl rfl rfl rfl rfl) ?_
  refine zab rfl rfl rfl (zaz rfl (ev1 rfl) (ev3 rfl id)) ?_
  refine zab rfl rfl rfl (zad (.inl rfl) (ev1 rfl)) ?_
  refine zag (zar rfl rfl rfl) rfl rfl rfl (zap rfl fo61_2 (ev1 rfl)) ?_
  refine zag (zar rfl rfl rfl) rfl rfl rfl (op_ldo rfl tb22 (ev2 rfl) rfl rfl) ?_
  refine zag (zar rfl rfl rfl) rfl rfl rfl (op_geq rfl (ev2 rfl) (ev1 rfl)) ?_
  refine zab rfl rfl rfl (zaz rfl (ev1 rfl) (ev3 rfl id)) ?_
  refine zab rfl rfl rfl (zad (.inl rfl) (ev1 rfl)) ?_
  refine zag (zar rfl rfl rfl) rfl rfl rfl (zap rfl fo61_2 (ev1 rfl)) ?_
  refine zag (zar rfl rfl rfl) rfl rfl rfl (op_ldo rfl tb22 (ev2 rfl) rfl rfl) ?_
  refine zag (zar rfl rfl rfl) rfl rfl rfl (op_leq rfl (ev2 rfl) (ev1 rfl)) ?_
  refine zab rfl rfl rfl (zaz rfl (ev1 rfl) (ev3 rfl id)) ?_
  refine zab rfl rfl rfl (zad (.inr rfl) (ev1 rfl)) ?_
  refine zae ?_
  refine zau ?_
  refine kend0 (rs1 rfl (rv_t rfl)) rfl ?_
  simp [mayR, isNum, Bool.and_assoc]
set_option maxRecDepth 4000 in
set_option maxHeartbeats 1000000 in
theorem refLess_d (a b : I3) : DFun Tryz.prog 72 [.val (.agg (idc a).toArray), .val (.agg (idc b).toArray)] [] (.val (.bool (lessR a b))) [] := by
  refine zba (N := 30) 0 (by kernel_rfl) Tryz.func72 rfl rfl rfl (by simp only [fr0, Nat.zero_add, Nat.reduceAdd]; exact rfl) rfl fun s0 hs0 => ?_
  refine zaf ?_
  refine zaj 2 (by simp only [holes, List.cons_append, List.nil_append]; exact rfl) ?_
  refine zac ?_
  refine zam rfl rfl rfl (op_boxa 0 rfl (ev1 rfl) rfl) (by simp only [upd, za, zaa]; exact rfl) ?_
  refine zam rfl rfl rfl (op_boxa 1 rfl (ev1 rfl) rfl) (by simp only [upd, za, zaa]; exact rfl) ?_
  refine zab rfl rfl rfl (zad (.inr rfl) (ev1 rfl)) ?_
  refine zae ?_
  refine zaf ?_
  refine zaf ?_
  refine zac ?_
  refine zab rfl rfl rfl (zap rfl fo61_0 (ev1 rfl)) ?_
  refine zab rfl rfl rfl (op_ldo rfl tb22 (ev1 rfl) rfl rfl) ?_
  refine zab rfl rfl rfl (zap rfl fo61_0 (ev1 rfl)) ?_
  refine zab rfl rfl rfl (op_ldo rfl tb22 (ev1 rfl) rfl rfl) ?_
  refine zab rfl rfl rfl (op_neq rfl (ev1 rfl) (ev1 rfl)) ?_
  refine zae ?_
  refine zaw rfl (fun c1 => ?_) (fun c1 => ?_)
  · try simp only [yg, ya, beq_iff_eq, bne_iff_ne, yb, yc, yf, ye, yh, yi, yd, ne_eq, yj, Int.not_lt, Int.not_le] at c1
    refine zaf ?_
    refine zac ?_
    refine zab rfl rfl rfl (zap rfl fo61_0 (ev1 rfl)) ?_
    refine zab rfl rfl rfl (op_ldo rfl tb22 (ev1 rfl) rfl rfl) ?_
    refine zab rfl rfl rfl (zap rfl fo61_0 (ev1 rfl)) ?_
    refine zab rfl rfl rfl (op_ldo rfl tb22 (ev1 rfl) rfl rfl) ?_
    refine zab rfl rfl rfl (op_lss rfl (ev1 rfl) (ev1 rfl)) ?_
    refine zab rfl rfl rfl (zad (.inr rfl) (ev1 rfl)) ?_
    refine zae ?_
    refine zau ?_
    refine kend0 (rs1 rfl (rv_t rfl)) rfl ?_
    simp_all [lessR]
  · try simp only [yg, ya, beq_iff_eq, bne_iff_ne, yb, yc, yf, ye, yh, yi, yd, ne_eq, yj, Int.not_lt, Int.not_le] at c1
    refine zak ?_
    refine zaf ?_
    refine zaf ?_
    refine zac ?_
    refine zab rfl rfl rfl (zap rfl fo61_1 (ev1 rfl)) ?_
    refine zab rfl rfl rfl (op_ldo rfl tb3 (ev1 rfl) rfl rfl) ?_
    refine zab rfl rfl rfl (zap rfl fo61_1 (ev1 rfl)) ?_
    refine zab rfl rfl rfl (op_ldo rfl tb3 (ev1 rfl) rfl rfl) ?_
    refine zab rfl rfl rfl (op_neq rfl (ev1 rfl) (ev1 rfl)) ?_
    refine zae ?_
    refine zaw rfl (fun c2 => ?_) (fun c2 => ?_)
    · try simp only [yg, ya, beq_iff_eq, bne_iff_ne, yb, yc, yf, ye, yh, yi, yd, ne_eq, yj, Int.not_lt, Int.not_le] at c2
      refine zaf ?_
      refine zac ?_
      refine zab rfl rfl rfl (zap rfl fo61_1 (ev1 rfl)) ?_
      refine zab rfl rfl rfl (op_ldo rfl tb3 (ev1 rfl) rfl rfl) ?_
      refine zab rfl rfl rfl (zap rfl fo61_1 (ev1 rfl)) ?_
      refine zab rfl rfl rfl (op_ldo rfl tb3 (ev1 rfl) rfl rfl) ?_
      refine zab rfl rfl rfl (op_lss rfl (ev1 rfl) (ev1 rfl)) ?_
      refine zab rfl rfl rfl (zad (.inr rfl) (ev1 rfl)) ?_
      refine zae ?_
      refine zau ?_
      refine kend0 (rs1 rfl (rv_t rfl)) rfl ?_
      simp_all [lessR]
    · try simp only [yg, ya, beq_iff_eq, bne_iff_ne, yb, yc, yf, ye, yh, yi, yd, ne_eq, yj, Int.not_lt, Int.not_le] at c2
      refine zak ?_
      refine zaf ?_
      refine zac ?_
      refine zab rfl rfl rfl (zap rfl fo61_2 (ev1 rfl)) ?_
      refine zab rfl rfl rfl (op_ldo rfl tb22 (ev1 rfl) rfl rfl) ?_
      refine zab rfl rfl rfl (zap rfl fo61_2 (ev1 rfl)) ?_
      refine zab rfl rfl rfl (op_ldo rfl tb22 (ev1 rfl) rfl rfl) ?_
      refine zab rfl rfl rfl (op_lss rfl (ev1 rfl) (ev1 rfl)) ?_
      refine zab rfl rfl rfl (zad (.inr rfl) (ev1 rfl)) ?_
      refine zae ?_
      refine zau ?_
      refine kend0 (rs1 rfl (rv_t rfl)) rfl ?_
      simp_all [lessR]
theorem siB_ref (fo i : Nat) (p : Pl) : (((!p.inn) && (!eqP p zP)) || (p.inn && ((decide (i = 0) || !plB p) || decide (p.fl < fo)))) = !siB fo i p := by
  cases hi : p.inn
  · have : plB p = false := by unfold plB; rw [hi]; rfl
    unfold siB
    rw [this]
    cases eqP p zP <;> simp
  · have : eqP p zP = false := by
      rw [← Bool.not_eq_true]
      intro h
      have := (eqP_zP.1 h).1
      rw [hi] at this
      cases this
    unfold siB
    rw [this]
    rw [Bool.eq_iff_iff]
    cases hp : plB p <;> simp
theorem fr1_t (f : FrM) (h : ((((decide ((4611686018427387904 : Int) < (f.fo : Int))) || !vB f.bv) || decide ((4611686018427387904 : Int) < (f.pr : Int))) || (((f.pr : Int) != 0) && decide ((f.pr : Int) ≤ (f.fo : Int)))) = true) : frB f = false := by
  rw [natover, natover, natnz, natle] at h
  rw [← Bool.not_eq_true, frB_iff]
  rintro ⟨h1, h2, h3, h4, h5⟩
  rw [h2] at h
  simp at h
  omega
theorem fr1_f (f : FrM) (h : ((((decide ((4611686018427387904 : Int) < (f.fo : Int))) || !vB f.bv) || decide ((4611686018427387904 : Int) < (f.pr : Int))) || (((f.pr : Int) != 0) && decide ((f.pr : Int) ≤ (f.fo : Int)))) = false) : f.fo ≤ LAST ∧ vB f.bv = true ∧ f.pr ≤ LAST ∧ (f.pr = 0 ∨ f.fo < f.pr) := by
  rw [natover, natover, natnz, natle] at h
  cases hv : vB f.bv
  · rw [hv] at h; simp at h
  · rw [hv] at h
    simp at h
    exact ⟨by omega, rfl, by omega, by omega⟩
set_option maxRecDepth 4000 in
set_option maxHeartbeats 1000000 in
theorem refPl_d (p : Pl) : DFun Tryz.prog 44 [.val (.agg (plC p).toArray)] [] (.val (.bool (plB p))) [] := by
  refine zba (N := 20) 0 (by kernel_rfl) Tryz.func44 rfl rfl rfl (by simp only [fr0, Nat.zero_add, Nat.reduceAdd]; exact rfl) rfl fun s0 hs0 => ?_
  refine zaf ?_
  refine zaj 1 (by simp only [holes, List.cons_append, List.nil_append]; exact rfl) ?_
  refine zac ?_
  refine zam rfl rfl rfl (op_boxa 0 rfl (ev1 rfl) rfl) (by simp only [upd, za, zaa]; exact rfl) ?_
  refine zab rfl rfl rfl (zad (.inr rfl) (ev1 rfl)) ?_
  refine zae ?_
  refine zaf ?_
  refine zac ?_
  refine zab rfl rfl rfl (zap rfl fo26_0 (ev1 rfl)) ?_
  refine zab rfl rfl rfl (op_ldo rfl tb4 (ev1 rfl) rfl rfl) ?_
  refine zab rfl rfl rfl (zad (.inl rfl) (ev1 rfl)) ?_
  refine zag (zar rfl rfl rfl) rfl rfl rfl (zap rfl fo26_1 (ev1 rfl)) ?_
  refine zag (zar rfl rfl rfl) rfl rfl rfl (op_ldo rfl tb22 (ev2 rfl) rfl rfl) ?_
  refine zag (zar rfl rfl rfl) rfl rfl rfl (op_leq rfl (ev2 rfl) (ev1 rfl)) ?_
  refine zab rfl rfl rfl (zaz rfl (ev1 rfl) (ev3 rfl id)) ?_
  refine zab rfl rfl rfl (zad (.inl rfl) (ev1 rfl)) ?_
  refine zag (zar rfl rfl rfl) rfl rfl rfl (zap rfl fo26_2 (ev1 rfl)) ?_
  refine zag (zar rfl rfl rfl) rfl rfl rfl (op_ldo rfl tb22 (ev2 rfl) rfl rfl) ?_
  refine zag (zar rfl rfl rfl) rfl rfl rfl (op_leq rfl (ev2 rfl) (ev1 rfl)) ?_
  refine zab rfl rfl rfl (zaz rfl (ev1 rfl) (ev3 rfl id)) ?_
  refine zab rfl rfl rfl (zad (.inl rfl) (ev1 rfl)) ?_
  refine zag (zar rfl rfl rfl) rfl rfl rfl (zap rfl fo26_3 (ev1 rfl)) ?_
  refine zag (zar rfl rfl rfl) rfl rfl rfl (op_ldr rfl tb24 (ev2 rfl) rfl rfl rfl) ?_
  refine zag (zar rfl rfl rfl) rfl rfl rfl (zah [] [] [] rfl (ev1 rfl) (ec (ev2 rfl) en) rfl rfl (refVR_d _) rfl rfl rfl rfl rfl rfl) ?_
  refine zab rfl rfl rfl (zaz rfl (ev1 rfl) (ev3 rfl id)) ?_
  refine zab rfl rfl rfl (zad (.inr rfl) (ev1 rfl)) ?_
  refine zae ?_
  refine zau ?_
  refine kend0 (rs1 rfl (rv_t rfl)) rfl ?_
  rw [natlast, natlast]
  rfl
set_option maxRecDepth 4000 in
set_option maxHeartbeats 1000000 in
theorem refFr_d (f : FrM) : DFun Tryz.prog 10 [.val (.agg (frC f).toArray)] [] (.val (.bool (frB f))) [] := by
  refine zba (N := 66) 0 (by kernel_rfl) Tryz.func10 rfl rfl rfl (by simp only [fr0, Nat.zero_add, Nat.reduceAdd]; exact rfl) rfl fun s0 hs0 => ?_
  refine zaf ?_
  refine zaj 1 (by simp only [holes, List.cons_append, List.nil_append]; exact rfl) ?_
  refine zac ?_
  refine zam rfl rfl rfl (op_boxa 0 rfl (ev1 rfl) rfl) (by simp only [upd, za, zaa]; exact rfl) ?_
  refine zab rfl rfl rfl (zad (.inr rfl) (ev1 rfl)) ?_
  refine zae ?_
  refine zaf ?_
  refine zaf ?_
  refine zac ?_
  refine zab rfl rfl rfl (zap rfl fo29_0 (ev1 rfl)) ?_
  refine zab rfl rfl rfl (op_ldo rfl tb22 (ev1 rfl) rfl rfl) ?_
  refine zab rfl rfl rfl (op_gtr rfl (ev1 rfl) (ev1 rfl)) ?_
  refine zab rfl rfl rfl (zad (.inl rfl) (ev1 rfl)) ?_
  refine zag (zan rfl rfl rfl) rfl rfl rfl (zap rfl fo29_1 (ev1 rfl)) ?_
  refine zag (zan rfl rfl rfl) rfl rfl rfl (op_ldr rfl tb24 (ev2 rfl) rfl (frC_bv _) rfl) ?_
  refine zag (zan rfl rfl rfl) rfl rfl rfl (zah [] [] [] rfl (ev1 rfl) (ec (ev2 rfl) en) rfl rfl (refVR_d _) rfl rfl rfl rfl rfl rfl) ?_
  refine zag (zan rfl rfl rfl) rfl rfl rfl (op_not rfl (ev2 rfl)) ?_
  refine zab rfl rfl rfl (op_or rfl (ev1 rfl) (ev3 rfl id)) ?_
  refine zab rfl rfl rfl (zad (.inl rfl) (ev1 rfl)) ?_
  refine zag (zan rfl rfl rfl) rfl rfl rfl (zap rfl fo29_2 (ev1 rfl)) ?_
  refine zag (zan rfl rfl rfl) rfl rfl rfl (op_ldo rfl tb22 (ev2 rfl) rfl (frC_pr _)) ?_
  refine zag (zan rfl rfl rfl) rfl rfl rfl (op_gtr rfl (ev2 rfl) (ev1 rfl)) ?_
  refine zab rfl rfl rfl (op_or rfl (ev1 rfl) (ev3 rfl id)) ?_
  refine zab rfl rfl rfl (zad (.inl rfl) (ev1 rfl)) ?_
  refine zag (zan rfl rfl rfl) rfl rfl rfl (zap rfl fo29_2 (ev1 rfl)) ?_
  refine zag (zan rfl rfl rfl) rfl rfl rfl (op_ldo rfl tb22 (ev2 rfl) rfl (frC_pr _)) ?_
  refine zag (zan rfl rfl rfl) rfl rfl rfl (op_neq rfl (ev2 rfl) (ev1 rfl)) ?_
  refine zag (zan rfl rfl rfl) rfl rfl rfl (zad (.inl rfl) (ev2 rfl)) ?_
  refine zag (zay rfl rfl rfl) rfl rfl rfl (zap rfl fo29_2 (ev1 rfl)) ?_
  refine zag (zay rfl rfl rfl) rfl rfl rfl (op_ldo rfl tb22 (ev2 rfl) rfl (frC_pr _)) ?_
  refine zag (zay rfl rfl rfl) rfl rfl rfl (zap rfl fo29_0 (ev1 rfl)) ?_
  refine zag (zay rfl rfl rfl) rfl rfl rfl (op_ldo rfl tb22 (ev2 rfl) rfl rfl) ?_
  refine zag (zay rfl rfl rfl) rfl rfl rfl (op_leq rfl (ev2 rfl) (ev2 rfl)) ?_
  refine zag (zan rfl rfl rfl) rfl rfl rfl (zaz rfl (ev2 rfl) (ev2 rfl)) ?_
  refine zab rfl rfl rfl (op_or rfl (ev1 rfl) (ev3 rfl id)) ?_
  refine zae ?_
  refine zaw rfl (fun c1 => ?_) (fun c1 => ?_)
  · have hb := fr1_t f c1
    refine zaf ?_
    refine zac ?_
    refine zab rfl rfl rfl (zad (.inr rfl) (ev1 rfl)) ?_
    refine zae ?_
    refine zau ?_
    refine kend0 (rs1 rfl (rv_t rfl)) rfl ?_
    rw [hb]
  · have hb := fr1_f f c1
    refine zak ?_
    refine zaf ?_
    refine zaf ?_
    refine zac ?_
    refine zab rfl rfl rfl (zap rfl fo29_3 (ev1 rfl)) ?_
    refine zab rfl rfl rfl (op_ldr rfl tb27 (ev1 rfl) rfl (frC_st f) (by rw [sL_flat]; rfl)) ?_
    refine zab rfl rfl rfl (zad (.inl rfl) (ev1 rfl)) ?_
    refine zae ?_
    refine zat ?_
    refine dwp_loopS ⟨hs0, rfl⟩ (α := Nat) (fun k => [(33, .val (.int .i64 (k : Int)))]) [(1, _), (32, _)] (fun k => []) [_] (fun k => k ≤ 9 ∧ ∀ i, i < k → siB f.fo i (f.st i) = true) (fun k => 9 - k) 0 [0] (⟨by omega, fun i hi => absurd hi (by omega)⟩) rfl ⟨rfl, rfl, trivial⟩ ⟨rfl, trivial⟩ ⟨rfl, trivial⟩ ?_
    intro k hx
    simp only [upd, za, zaa, List.cons_append, List.nil_append]
    obtain ⟨hk, he⟩ := hx
    refine zaf ?_
    refine zac ?_
    refine zab rfl rfl rfl (op_lss rfl (ev1 rfl) (ev1 rfl)) ?_
    refine zae ?_
    refine zaf ?_
    refine zaw rfl (fun c2 => ?_) (fun c2 => ?_)
    · try simp only [yg, ya, beq_iff_eq, bne_iff_ne, yb, yc, yf, ye, yh, yi, yd, ne_eq, yj, Int.not_lt, Int.not_le] at c2
      refine zak ?_
      refine zaf ?_
      refine zat ?_
      refine zaf ?_
      refine zaj 1 (by simp only [holes, List.cons_append, List.nil_append]; exact rfl) ?_
      refine zac ?_
      refine zab rfl rfl rfl (zad (.inl rfl) (ev1 rfl)) ?_
      refine zab rfl rfl rfl ((by rw [← sL_at f.st k (by omega)]; exact op_ixv (j := k) (zP) rfl av27 (ev1 rfl) (ev1 rfl) (fun _ => rfl) (fun _ => by omega) (sL_len _) (fun _ => rfl) : DOp _ _ _ _ _ _ (.val (.agg (plC (f.st k)).toArray)) _)) ?_
      refine zam rfl rfl rfl (zaq 1 rfl zr26 rfl) (by simp only [upd, za, zaa]; exact rfl) ?_
      refine zab rfl rfl rfl (zad (.inr rfl) (ev1 rfl)) ?_
      refine zax rfl rfl (op_stwa rfl tb26 (ev1 rfl) (ev1 rfl) rfl rfl rfl rfl) (by simp only [upd, za, zaa]; exact rfl) ?_
      refine zae ?_
      refine zaf ?_
      refine zac ?_
      refine zab rfl rfl rfl (zap rfl fo26_0 (ev1 rfl)) ?_
      refine zab rfl rfl rfl (op_ldo rfl tb4 (ev1 rfl) rfl rfl) ?_
      refine zab rfl rfl rfl (op_not rfl (ev1 rfl)) ?_
      refine zab rfl rfl rfl (zad (.inl rfl) (ev1 rfl)) ?_
      refine zag (zar rfl rfl rfl) rfl rfl rfl (zas rfl tb26 (ev1 rfl) rfl rfl) ?_
      refine zag (zar rfl rfl rfl) rfl rfl rfl (op_build0 rfl fl26 zr26) ?_
      refine zag (zar rfl rfl rfl) rfl rfl rfl (op_ner eq26 rfl gd26 tb26 (ev2 rfl) (ev2 rfl)) ?_
      refine zab rfl rfl rfl (zaz rfl (ev1 rfl) (ev3 rfl id)) ?_
      refine zab rfl rfl rfl (zad (.inl rfl) (ev1 rfl)) ?_
      refine zag (zan rfl rfl rfl) rfl rfl rfl (zap rfl fo26_0 (ev1 rfl)) ?_
      refine zag (zan rfl rfl rfl) rfl rfl rfl (op_ldo rfl tb4 (ev2 rfl) rfl rfl) ?_
      refine zag (zan rfl rfl rfl) rfl rfl rfl (zad (.inl rfl) (ev2 rfl)) ?_
      refine zag (zay rfl rfl rfl) rfl rfl rfl (zad (.inl rfl) (ev1 rfl)) ?_
      refine zag (zay rfl rfl rfl) rfl rfl rfl (zb rfl (ev2 rfl) (ev1 rfl)) ?_
      refine zag (zay rfl rfl rfl) rfl rfl rfl (zad (.inl rfl) (ev2 rfl)) ?_
      refine zag (gd_ff rfl rfl rfl) rfl rfl rfl (zas rfl tb26 (ev1 rfl) rfl rfl) ?_
      refine zag (gd_ff rfl rfl rfl) rfl rfl rfl (zah [] [] [] rfl (ev1 rfl) (ec (ev2 rfl) en) rfl rfl (refPl_d _) rfl rfl rfl rfl rfl rfl) ?_
      refine zag (gd_ff rfl rfl rfl) rfl rfl rfl (op_not rfl (ev2 rfl)) ?_
      refine zag (zay rfl rfl rfl) rfl rfl rfl (op_or rfl (ev2 rfl) (ev2 rfl)) ?_
      refine zag (zay rfl rfl rfl) rfl rfl rfl (zad (.inl rfl) (ev2 rfl)) ?_
      refine zag (gd_ff rfl rfl rfl) rfl rfl rfl (zap rfl fo26_1 (ev1 rfl)) ?_
      refine zag (gd_ff rfl rfl rfl) rfl rfl rfl (op_ldo rfl tb22 (ev2 rfl) rfl rfl) ?_
      refine zag (gd_ff rfl rfl rfl) rfl rfl rfl (zap rfl fo29_0 (ev1 rfl)) ?_
      refine zag (gd_ff rfl rfl rfl) rfl rfl rfl (op_ldo rfl tb22 (ev2 rfl) rfl rfl) ?_
      refine zag (gd_ff rfl rfl rfl) rfl rfl rfl (op_lss rfl (ev2 rfl) (ev2 rfl)) ?_
      refine zag (zay rfl rfl rfl) rfl rfl rfl (op_or rfl (ev2 rfl) (ev2 rfl)) ?_
      refine zag (zan rfl rfl rfl) rfl rfl rfl (zaz rfl (ev2 rfl) (ev2 rfl)) ?_
      refine zab rfl rfl rfl (op_or rfl (ev1 rfl) (ev3 rfl id)) ?_
      refine zae ?_
      refine zaw rfl (fun c2 => ?_) (fun c2 => ?_)
      · have hsi : siB f.fo k (f.st k) = false := by
          rw [natlt, natzero] at c2
          exact notT ((siB_ref f.fo k (f.st k)).symm.trans c2)
        refine zaf ?_
        refine zac ?_
        refine zab rfl rfl rfl (zad (.inr rfl) (ev1 rfl)) ?_
        refine zae ?_
        refine zau ?_
        refine kend0 (rs1 rfl (rv_t rfl)) rfl ?_
        rw [show frB f = false by rw [← Bool.not_eq_true, frB_iff]; exact fun h => by have := h.2.2.2.2 k (by omega); rw [hsi] at this; cases this]
      · have hsi : siB f.fo k (f.st k) = true := by
          rw [natlt, natzero] at c2
          exact notF ((siB_ref f.fo k (f.st k)).symm.trans c2)
        refine zak ?_
        refine zac ?_
        refine zab rfl rfl rfl (op_add' rfl (ev1 rfl) (ev1 rfl) (fun _ => IntWalk.i64_in _ (by omega))) ?_
        refine zab rfl rfl rfl (zad (.inl rfl) (ev1 rfl)) ?_
        refine zae ?_
        refine ⟨k + 1, [0], ⟨by omega, fun i hi => by
      by_cases e : i = k
      · rw [e]; exact hsi
      · exact he i (by omega)⟩, by simp only []; omega, rfl, ⟨rfl, rfl, rfl, trivial⟩, ⟨rfl, trivial⟩⟩
    · try simp only [yg, ya, beq_iff_eq, bne_iff_ne, yb, yc, yf, ye, yh, yi, yd, ne_eq, yj, Int.not_lt, Int.not_le] at c2
      refine dwp_exit ?_
      refine zaf ?_
      refine zac ?_
      refine zab rfl rfl rfl (zad (.inr rfl) (ev1 rfl)) ?_
      refine zae ?_
      refine zau ?_
      refine kend0 (rs1 rfl (rv_t rfl)) rfl ?_
      rw [frB_iff.2 ⟨hb.1, hb.2.1, hb.2.2.1, hb.2.2.2, fun i hi => he i (by omega)⟩]
open Go.ChangeShapes Go.WideShapes Go.ChangeAt Go.Joins Go.Deep
theorem fits_i64 : ∀ cs, fitsP [.int .i64] cs → ∃ a : Int, (-9223372036854775808 ≤ a ∧ a ≤ 9223372036854775807) ∧ cs = inI a
  | [c0], h => by
    obtain ⟨h0, _⟩ := h
    obtain ⟨a, w, rfl⟩ := fits_prim_i64 h0
    exact ⟨a, w, rfl⟩
  | [], h => by cases h
  | _ :: _ :: _, h => by obtain ⟨_, h⟩ := h; cases h
section
variable {P : Program} {pc : Bool} {o : Oper} {F : Fr} {M : List Blk}
/-- a struct with rows, into a part of a variable -/
theorem op_stmp {T T' : TypeId} {x y : Operand} {i p k : Nat} {rw' : Bool} {ds l R : List D} (ho : o.op = .store T x y) (hT : tyB P T = some (rw', k)) (hx : Ev pc F x (.loc i p)) (hy : Ev pc F y (.agg ds)) (hM : M[i]? = some (.mix T' l)) (hk : ds.length = k) (hfit : Nat.ble (p + k) l.length = true) (h1 : ds.all D.oc = true) (hR : l.take p ++ ds ++ l.drop (p + k) = R) : DOp P pc o F M [i] .junk [(i, .mix T' R)] := by
  have hfit' := Nat.le_of_ble_eq_true hfit
  subst hR
  intro hp a s hok hops hfp
  have hr := ev_at hp hx (by simp [ho, Op.operands]) hops
  have hry := ev_at hp hy (by simp [ho, Op.operands]) hops
  have hM' : s.M[i]? = some (.mix T' l) := by rw [hfp i (by simp)]; exact hM
  generalize hv : a.eval x = vx at hr
  generalize hvy : a.eval y = vy at hry
  cases hr with
  | @loc _ _ b h =>
    cases hry with
    | @agg _ vs hvl hd =>
      obtain ⟨b', L, e1, e2, e3, e4⟩ := hok.blk i _ _ hM' h
      cases e1
      have hcell := cellsAt_block e2 0
      have hoc : ∀ u ∈ vs, u.oneCell' = true := fun u hu => by
        obtain ⟨j, hj, rfl⟩ := List.getElem_of_mem hu
        have hj2 : j < ds.length := by omega
        exact oc_one (hd j _ _ (List.getElem?_eq_getElem hj2) (List.getElem?_eq_getElem hj)) (List.all_eq_true.1 h1 _ (List.getElem_mem hj2))
      have hrun := run_store (P := P) (w := s.w) (C := vs) ho hT hv hvy rfl (by omega) (fun j hj => by
          have hp' : p + j < L.length := by omega
          have := hcell (p + j) L[p + j] (by simp [hp'])
          rw [Nat.zero_add] at this
          rw [this]; rfl) (fun j hj => by simp [World.frozen?, e2]) hoc
      have hβ : s.β.set i (.pointer (some ⟨b, 0, none⟩)) = s.β := by
        apply List.ext_getElem?
        intro k
        by_cases e : i = k
        · subst e; rw [List.getElem?_set_self (List.getElem?_eq_some_iff.1 h).1, h]
        · rw [List.getElem?_set_ne e]
      refine dg_skip (s' := ⟨s.β.set i (.pointer (some ⟨b, 0, none⟩)), s.I, s.M.set i (.mix T' (l.take p ++ ds ++ l.drop (p + k))), s.w.setCells b p vs⟩) hrun (tr_store hok hM' rfl h rfl p _ ?_) rfl
      have hlen : (l.take p ++ ds ++ l.drop (p + k)).length = l.length := by
        simp only [List.length_append, List.length_take, List.length_drop]
        omega
      refine ⟨b, setL L p vs, rfl, setCells_block b vs p s.w L T' e2, by rw [setL_len, hlen, e3], fun j e v hj hv' => ?_⟩
      have lift : ∀ {e : D} {v : Value}, Rep s e v → Rep ⟨s.β.set i (.pointer (some ⟨b, 0, none⟩)), s.I, s.M.set i (.mix T' (l.take p ++ ds ++ l.drop (p + k))), s.w.setCells b p vs⟩ e v := by
        intro e v hr
        refine Rep.mono' (s := s) (s' := ⟨s.β.set i (.pointer (some ⟨b, 0, none⟩)), s.I, s.M.set i (.mix T' (l.take p ++ ds ++ l.drop (p + k))), s.w.setCells b p vs⟩) (fun k x hk _ => by show (s.β.set i _)[k]? = _; rw [hβ]; exact hk) (fun _ h => h) (fun b' hI => setCells_other b _ p s.w b' fun e => ?_) hr
        subst e
        exact (hok.lt b' (live_of hM' rfl h rfl)).2 hI
      rw [setL_eq vs L p (by omega)] at hv'
      by_cases h1 : j < p
      · rw [List.append_assoc, List.getElem?_append_left (by simp; omega), List.getElem?_take_of_lt h1] at hj hv'
        exact lift (e4 j e v hj hv')
      · rw [List.append_assoc, List.getElem?_append_right (by simp; omega)] at hj hv'
        rw [List.length_take, Nat.min_eq_left (by omega)] at hj hv'
        by_cases h2 : j - p < k
        · rw [List.getElem?_append_left (by omega)] at hj hv'
          exact lift (hd _ e v hj hv')
        · rw [List.getElem?_append_right (by omega), List.getElem?_drop] at hj hv'
          rw [hvl, hk] at hv'
          rw [hk, show p + k + (j - p - k) = j by omega] at hj
          rw [show p + k + (j - p - k) = j by omega] at hv'
          exact lift (e4 j e v hj hv')
end
set_option maxRecDepth 4000 in
set_option maxHeartbeats 1000000 in
theorem us_X (n : Int) : DFun Tryz.prog 99 [.val (.int .i64 n), .val (.string ⟨#[88]⟩)] [] (.val (.bool (decide (1 ≤ n) && decide (n ≤ 6)))) [] := by
  refine zba (N := 58) 0 (by kernel_rfl) Tryz.func99 rfl rfl rfl (by simp only [fr0, Nat.zero_add, Nat.reduceAdd]; exact rfl) rfl fun s0 hs0 => ?_
  refine zaf ?_
  refine zac ?_
  refine zab rfl rfl rfl (zad (.inr rfl) (ev1 rfl)) ?_
  refine zae ?_
  refine zaf ?_
  refine zaf ?_
  refine zac ?_
  refine zab rfl rfl rfl (zad (.inl rfl) (ev1 rfl)) ?_
  refine zae ?_
  refine zat ?_
  refine zaf ?_
  refine zaf ?_
  refine zac ?_
  refine zab rfl rfl rfl ((op_eqs rfl (ev1 rfl) (ev1 rfl)).cast (d' := .val (.bool true)) (by kernel_rfl)) ?_
  refine zab rfl rfl rfl (zad (.inr rfl) (ev1 rfl)) ?_
  refine zae ?_
  refine dwp_if_t rfl (rfl) ?_
  refine zak ?_
  refine dwp_if_t rfl (rfl) ?_
  refine zaf ?_
  refine zac ?_
  refine zab rfl rfl rfl (zad (.inl rfl) (ev1 rfl)) ?_
  refine zab rfl rfl rfl (op_geq rfl (ev1 rfl) (ev1 rfl)) ?_
  refine zab rfl rfl rfl (zad (.inl rfl) (ev1 rfl)) ?_
  refine zag (zar rfl rfl rfl) rfl rfl rfl (zad (.inl rfl) (ev1 rfl)) ?_
  refine zag (zar rfl rfl rfl) rfl rfl rfl (op_leq rfl (ev2 rfl) (ev1 rfl)) ?_
  refine zab rfl rfl rfl (zaz rfl (ev1 rfl) (ev3 rfl id)) ?_
  refine zab rfl rfl rfl (zad (.inr rfl) (ev1 rfl)) ?_
  refine zae ?_
  refine zau ?_
  refine kend0 (rs1 rfl (rv_t rfl)) rfl ?_
  rfl
set_option maxRecDepth 4000 in
set_option maxHeartbeats 1000000 in
theorem us_X2 (n : Int) : DFun Tryz.prog 99 [.val (.int .i64 n), .val (.string ⟨#[88, 50]⟩)] [] (.val (.bool (decide (1 ≤ n) && decide (n ≤ 4)))) [] := by
  refine zba (N := 58) 0 (by kernel_rfl) Tryz.func99 rfl rfl rfl (by simp only [fr0, Nat.zero_add, Nat.reduceAdd]; exact rfl) rfl fun s0 hs0 => ?_
  refine zaf ?_
  refine zac ?_
  refine zab rfl rfl rfl (zad (.inr rfl) (ev1 rfl)) ?_
  refine zae ?_
  refine zaf ?_
  refine zaf ?_
  refine zac ?_
  refine zab rfl rfl rfl (zad (.inl rfl) (ev1 rfl)) ?_
  refine zae ?_
  refine zat ?_
  refine zaf ?_
  refine zaf ?_
  refine zac ?_
  refine zab rfl rfl rfl ((op_eqs rfl (ev1 rfl) (ev1 rfl)).cast (d' := .val (.bool false)) (by kernel_rfl)) ?_
  refine zab rfl rfl rfl (zad (.inr rfl) (ev1 rfl)) ?_
  refine zae ?_
  refine dwp_if_f rfl (rfl) ?_
  refine zac ?_
  refine zab rfl rfl rfl ((op_eqs rfl (ev1 rfl) (ev1 rfl)).cast (d' := .val (.bool false)) (by kernel_rfl)) ?_
  refine zab rfl rfl rfl (zad (.inr rfl) (ev1 rfl)) ?_
  refine zae ?_
  refine dwp_if_f rfl (rfl) ?_
  refine zaf ?_
  refine zaf ?_
  refine zac ?_
  refine zab rfl rfl rfl ((op_eqs rfl (ev1 rfl) (ev1 rfl)).cast (d' := .val (.bool true)) (by kernel_rfl)) ?_
  refine zab rfl rfl rfl (zad (.inr rfl) (ev1 rfl)) ?_
  refine zae ?_
  refine dwp_if_t rfl (rfl) ?_
  refine zak ?_
  refine dwp_if_t rfl (rfl) ?_
  refine zaf ?_
  refine zac ?_
  refine zab rfl rfl rfl (zad (.inl rfl) (ev1 rfl)) ?_
  refine zab rfl rfl rfl (op_geq rfl (ev1 rfl) (ev1 rfl)) ?_
  refine zab rfl rfl rfl (zad (.inl rfl) (ev1 rfl)) ?_
  refine zag (zar rfl rfl rfl) rfl rfl rfl (zad (.inl rfl) (ev1 rfl)) ?_
  refine zag (zar rfl rfl rfl) rfl rfl rfl (op_leq rfl (ev2 rfl) (ev1 rfl)) ?_
  refine zab rfl rfl rfl (zaz rfl (ev1 rfl) (ev3 rfl id)) ?_
  refine zab rfl rfl rfl (zad (.inr rfl) (ev1 rfl)) ?_
  refine zae ?_
  refine zau ?_
  refine kend0 (rs1 rfl (rv_t rfl)) rfl ?_
  rfl
set_option maxRecDepth 4000 in
set_option maxHeartbeats 1000000 in
theorem us_Size (n : Int) : DFun Tryz.prog 99 [.val (.int .i64 n), .val (.string ⟨#[83, 105, 122, 101]⟩)] [] (.val (.bool (((n == 1) || (n == 2)) || (n == 5)))) [] := by
  refine zba (N := 58) 0 (by kernel_rfl) Tryz.func99 rfl rfl rfl (by simp only [fr0, Nat.zero_add, Nat.reduceAdd]; exact rfl) rfl fun s0 hs0 => ?_
  refine zaf ?_
  refine zac ?_
  refine zab rfl rfl rfl (zad (.inr rfl) (ev1 rfl)) ?_
  refine zae ?_
  refine zaf ?_
  refine zaf ?_
  refine zac ?_
  refine zab rfl rfl rfl (zad (.inl rfl) (ev1 rfl)) ?_
  refine zae ?_
  refine zat ?_
  refine zaf ?_
  refine zaf ?_
  refine zac ?_
  refine zab rfl rfl rfl ((op_eqs rfl (ev1 rfl) (ev1 rfl)).cast (d' := .val (.bool false)) (by kernel_rfl)) ?_
  refine zab rfl rfl rfl (zad (.inr rfl) (ev1 rfl)) ?_
  refine zae ?_
  refine dwp_if_f rfl (rfl) ?_
  refine zac ?_
  refine zab rfl rfl rfl ((op_eqs rfl (ev1 rfl) (ev1 rfl)).cast (d' := .val (.bool false)) (by kernel_rfl)) ?_
  refine zab rfl rfl rfl (zad (.inr rfl) (ev1 rfl)) ?_
  refine zae ?_
  refine dwp_if_f rfl (rfl) ?_
  refine zaf ?_
  refine zaf ?_
  refine zac ?_
  refine zab rfl rfl rfl ((op_eqs rfl (ev1 rfl) (ev1 rfl)).cast (d' := .val (.bool false)) (by kernel_rfl)) ?_
  refine zab rfl rfl rfl (zad (.inr rfl) (ev1 rfl)) ?_
  refine zae ?_
  refine dwp_if_f rfl (rfl) ?_
  refine zac ?_
  refine zab rfl rfl rfl ((op_eqs rfl (ev1 rfl) (ev1 rfl)).cast (d' := .val (.bool false)) (by kernel_rfl)) ?_
  refine zab rfl rfl rfl (zad (.inr rfl) (ev1 rfl)) ?_
  refine zae ?_
  refine dwp_if_f rfl (rfl) ?_
  refine zaf ?_
  refine zac ?_
  refine zab rfl rfl rfl ((op_eqs rfl (ev1 rfl) (ev1 rfl)).cast (d' := .val (.bool true)) (by kernel_rfl)) ?_
  refine zab rfl rfl rfl (zad (.inr rfl) (ev1 rfl)) ?_
  refine zae ?_
  refine dwp_if_t rfl (rfl) ?_
  refine zaf ?_
  refine zac ?_
  refine zab rfl rfl rfl (zad (.inl rfl) (ev1 rfl)) ?_
  refine zab rfl rfl rfl (zb rfl (ev1 rfl) (ev1 rfl)) ?_
  refine zab rfl rfl rfl (zad (.inl rfl) (ev1 rfl)) ?_
  refine zag (zan rfl rfl rfl) rfl rfl rfl (zad (.inl rfl) (ev1 rfl)) ?_
  refine zag (zan rfl rfl rfl) rfl rfl rfl (zb rfl (ev2 rfl) (ev1 rfl)) ?_
  refine zab rfl rfl rfl (op_or rfl (ev1 rfl) (ev3 rfl id)) ?_
  refine zab rfl rfl rfl (zad (.inl rfl) (ev1 rfl)) ?_
  refine zag (zan rfl rfl rfl) rfl rfl rfl (zad (.inl rfl) (ev1 rfl)) ?_
  refine zag (zan rfl rfl rfl) rfl rfl rfl (zb rfl (ev2 rfl) (ev1 rfl)) ?_
  refine zab rfl rfl rfl (op_or rfl (ev1 rfl) (ev3 rfl id)) ?_
  refine zab rfl rfl rfl (zad (.inr rfl) (ev1 rfl)) ?_
  refine zae ?_
  refine zau ?_
  refine kend0 (rs1 rfl (rv_t rfl)) rfl ?_
  rfl
set_option maxRecDepth 4000 in
set_option maxHeartbeats 1000000 in
theorem us_Color (n : Int) : DFun Tryz.prog 99 [.val (.int .i64 n), .val (.string ⟨#[67, 111, 108, 111, 114]⟩)] [] (.val (.bool (decide (1 ≤ n) && decide (n ≤ 5)))) [] := by
  refine zba (N := 58) 0 (by kernel_rfl) Tryz.func99 rfl rfl rfl (by simp only [fr0, Nat.zero_add, Nat.reduceAdd]; exact rfl) rfl fun s0 hs0 => ?_
  refine zaf ?_
  refine zac ?_
  refine zab rfl rfl rfl (zad (.inr rfl) (ev1 rfl)) ?_
  refine zae ?_
  refine zaf ?_
  refine zaf ?_
  refine zac ?_
  refine zab rfl rfl rfl (zad (.inl rfl) (ev1 rfl)) ?_
  refine zae ?_
  refine zat ?_
  refine zaf ?_
  refine zaf ?_
  refine zac ?_
  refine zab rfl rfl rfl ((op_eqs rfl (ev1 rfl) (ev1 rfl)).cast (d' := .val (.bool false)) (by kernel_rfl)) ?_
  refine zab rfl rfl rfl (zad (.inr rfl) (ev1 rfl)) ?_
  refine zae ?_
  refine dwp_if_f rfl (rfl) ?_
  refine zac ?_
  refine zab rfl rfl rfl ((op_eqs rfl (ev1 rfl) (ev1 rfl)).cast (d' := .val (.bool false)) (by kernel_rfl)) ?_
  refine zab rfl rfl rfl (zad (.inr rfl) (ev1 rfl)) ?_
  refine zae ?_
  refine dwp_if_f rfl (rfl) ?_
  refine zaf ?_
  refine zaf ?_
  refine zac ?_
  refine zab rfl rfl rfl ((op_eqs rfl (ev1 rfl) (ev1 rfl)).cast (d' := .val (.bool false)) (by kernel_rfl)) ?_
  refine zab rfl rfl rfl (zad (.inr rfl) (ev1 rfl)) ?_
  refine zae ?_
  refine dwp_if_f rfl (rfl) ?_
  refine zac ?_
  refine zab rfl rfl rfl ((op_eqs rfl (ev1 rfl) (ev1 rfl)).cast (d' := .val (.bool false)) (by kernel_rfl)) ?_
  refine zab rfl rfl rfl (zad (.inr rfl) (ev1 rfl)) ?_
  refine zae ?_
  refine dwp_if_f rfl (rfl) ?_
  refine zaf ?_
  refine zac ?_
  refine zab rfl rfl rfl ((op_eqs rfl (ev1 rfl) (ev1 rfl)).cast (d' := .val (.bool false)) (by kernel_rfl)) ?_
  refine zab rfl rfl rfl (zad (.inr rfl) (ev1 rfl)) ?_
  refine zae ?_
  refine dwp_if_f rfl (rfl) ?_
  refine zaf ?_
  refine zac ?_
  refine zab rfl rfl rfl ((op_eqs rfl (ev1 rfl) (ev1 rfl)).cast (d' := .val (.bool true)) (by kernel_rfl)) ?_
  refine zab rfl rfl rfl (zad (.inr rfl) (ev1 rfl)) ?_
  refine zae ?_
  refine dwp_if_t rfl (rfl) ?_
  refine zaf ?_
  refine zac ?_
  refine zab rfl rfl rfl (zad (.inl rfl) (ev1 rfl)) ?_
  refine zab rfl rfl rfl (op_geq rfl (ev1 rfl) (ev1 rfl)) ?_
  refine zab rfl rfl rfl (zad (.inl rfl) (ev1 rfl)) ?_
  refine zag (zar rfl rfl rfl) rfl rfl rfl (zad (.inl rfl) (ev1 rfl)) ?_
  refine zag (zar rfl rfl rfl) rfl rfl rfl (op_leq rfl (ev2 rfl) (ev1 rfl)) ?_
  refine zab rfl rfl rfl (zaz rfl (ev1 rfl) (ev3 rfl id)) ?_
  refine zab rfl rfl rfl (zad (.inr rfl) (ev1 rfl)) ?_
  refine zae ?_
  refine zau ?_
  refine kend0 (rs1 rfl (rv_t rfl)) rfl ?_
  rfl
set_option maxRecDepth 4000 in
set_option maxHeartbeats 1000000 in
theorem us_Stamp (n : Int) : DFun Tryz.prog 99 [.val (.int .i64 n), .val (.string ⟨#[83, 116, 97, 109, 112]⟩)] [] (.val (.bool (n == 6))) [] := by
  refine zba (N := 58) 0 (by kernel_rfl) Tryz.func99 rfl rfl rfl (by simp only [fr0, Nat.zero_add, Nat.reduceAdd]; exact rfl) rfl fun s0 hs0 => ?_
  refine zaf ?_
  refine zac ?_
  refine zab rfl rfl rfl (zad (.inr rfl) (ev1 rfl)) ?_
  refine zae ?_
  refine zaf ?_
  refine zaf ?_
  refine zac ?_
  refine zab rfl rfl rfl (zad (.inl rfl) (ev1 rfl)) ?_
  refine zae ?_
  refine zat ?_
  refine zaf ?_
  refine zaf ?_
  refine zac ?_
  refine zab rfl rfl rfl ((op_eqs rfl (ev1 rfl) (ev1 rfl)).cast (d' := .val (.bool false)) (by kernel_rfl)) ?_
  refine zab rfl rfl rfl (zad (.inr rfl) (ev1 rfl)) ?_
  refine zae ?_
  refine dwp_if_f rfl (rfl) ?_
  refine zac ?_
  refine zab rfl rfl rfl ((op_eqs rfl (ev1 rfl) (ev1 rfl)).cast (d' := .val (.bool false)) (by kernel_rfl)) ?_
  refine zab rfl rfl rfl (zad (.inr rfl) (ev1 rfl)) ?_
  refine zae ?_
  refine dwp_if_f rfl (rfl) ?_
  refine zaf ?_
  refine zaf ?_
  refine zac ?_
  refine zab rfl rfl rfl ((op_eqs rfl (ev1 rfl) (ev1 rfl)).cast (d' := .val (.bool false)) (by kernel_rfl)) ?_
  refine zab rfl rfl rfl (zad (.inr rfl) (ev1 rfl)) ?_
  refine zae ?_
  refine dwp_if_f rfl (rfl) ?_
  refine zac ?_
  refine zab rfl rfl rfl ((op_eqs rfl (ev1 rfl) (ev1 rfl)).cast (d' := .val (.bool false)) (by kernel_rfl)) ?_
  refine zab rfl rfl rfl (zad (.inr rfl) (ev1 rfl)) ?_
  refine zae ?_
  refine dwp_if_f rfl (rfl) ?_
  refine zaf ?_
  refine zac ?_
  refine zab rfl rfl rfl ((op_eqs rfl (ev1 rfl) (ev1 rfl)).cast (d' := .val (.bool false)) (by kernel_rfl)) ?_
  refine zab rfl rfl rfl (zad (.inr rfl) (ev1 rfl)) ?_
  refine zae ?_
  refine dwp_if_f rfl (rfl) ?_
  refine zaf ?_
  refine zac ?_
  refine zab rfl rfl rfl ((op_eqs rfl (ev1 rfl) (ev1 rfl)).cast (d' := .val (.bool false)) (by kernel_rfl)) ?_
  refine zab rfl rfl rfl (zad (.inr rfl) (ev1 rfl)) ?_
  refine zae ?_
  refine dwp_if_f rfl (rfl) ?_
  refine zaf ?_
  refine zac ?_
  refine zab rfl rfl rfl ((op_eqs rfl (ev1 rfl) (ev1 rfl)).cast (d' := .val (.bool true)) (by kernel_rfl)) ?_
  refine zab rfl rfl rfl (zad (.inr rfl) (ev1 rfl)) ?_
  refine zae ?_
  refine dwp_if_t rfl (rfl) ?_
  refine zaf ?_
  refine zac ?_
  refine zab rfl rfl rfl (zad (.inl rfl) (ev1 rfl)) ?_
  refine zab rfl rfl rfl (zb rfl (ev1 rfl) (ev1 rfl)) ?_
  refine zab rfl rfl rfl (zad (.inr rfl) (ev1 rfl)) ?_
  refine zae ?_
  refine zau ?_
  refine kend0 (rs1 rfl (rv_t rfl)) rfl ?_
  rfl
set_option maxRecDepth 4000 in
set_option maxHeartbeats 1000000 in
theorem us_Target (n : Int) : DFun Tryz.prog 99 [.val (.int .i64 n), .val (.string ⟨#[84, 97, 114, 103, 101, 116]⟩)] [] (.val (.bool ((n == 7) || (n == 8)))) [] := by
  refine zba (N := 58) 0 (by kernel_rfl) Tryz.func99 rfl rfl rfl (by simp only [fr0, Nat.zero_add, Nat.reduceAdd]; exact rfl) rfl fun s0 hs0 => ?_
  refine zaf ?_
  refine zac ?_
  refine zab rfl rfl rfl (zad (.inr rfl) (ev1 rfl)) ?_
  refine zae ?_
  refine zaf ?_
  refine zaf ?_
  refine zac ?_
  refine zab rfl rfl rfl (zad (.inl rfl) (ev1 rfl)) ?_
  refine zae ?_
  refine zat ?_
  refine zaf ?_
  refine zaf ?_
  refine zac ?_
  refine zab rfl rfl rfl ((op_eqs rfl (ev1 rfl) (ev1 rfl)).cast (d' := .val (.bool false)) (by kernel_rfl)) ?_
  refine zab rfl rfl rfl (zad (.inr rfl) (ev1 rfl)) ?_
  refine zae ?_
  refine dwp_if_f rfl (rfl) ?_
  refine zac ?_
  refine zab rfl rfl rfl ((op_eqs rfl (ev1 rfl) (ev1 rfl)).cast (d' := .val (.bool false)) (by kernel_rfl)) ?_
  refine zab rfl rfl rfl (zad (.inr rfl) (ev1 rfl)) ?_
  refine zae ?_
  refine dwp_if_f rfl (rfl) ?_
  refine zaf ?_
  refine zaf ?_
  refine zac ?_
  refine zab rfl rfl rfl ((op_eqs rfl (ev1 rfl) (ev1 rfl)).cast (d' := .val (.bool false)) (by kernel_rfl)) ?_
  refine zab rfl rfl rfl (zad (.inr rfl) (ev1 rfl)) ?_
  refine zae ?_
  refine dwp_if_f rfl (rfl) ?_
  refine zac ?_
  refine zab rfl rfl rfl ((op_eqs rfl (ev1 rfl) (ev1 rfl)).cast (d' := .val (.bool false)) (by kernel_rfl)) ?_
  refine zab rfl rfl rfl (zad (.inr rfl) (ev1 rfl)) ?_
  refine zae ?_
  refine dwp_if_f rfl (rfl) ?_
  refine zaf ?_
  refine zac ?_
  refine zab rfl rfl rfl ((op_eqs rfl (ev1 rfl) (ev1 rfl)).cast (d' := .val (.bool false)) (by kernel_rfl)) ?_
  refine zab rfl rfl rfl (zad (.inr rfl) (ev1 rfl)) ?_
  refine zae ?_
  refine dwp_if_f rfl (rfl) ?_
  refine zaf ?_
  refine zac ?_
  refine zab rfl rfl rfl ((op_eqs rfl (ev1 rfl) (ev1 rfl)).cast (d' := .val (.bool false)) (by kernel_rfl)) ?_
  refine zab rfl rfl rfl (zad (.inr rfl) (ev1 rfl)) ?_
  refine zae ?_
  refine dwp_if_f rfl (rfl) ?_
  refine zaf ?_
  refine zac ?_
  refine zab rfl rfl rfl ((op_eqs rfl (ev1 rfl) (ev1 rfl)).cast (d' := .val (.bool false)) (by kernel_rfl)) ?_
  refine zab rfl rfl rfl (zad (.inr rfl) (ev1 rfl)) ?_
  refine zae ?_
  refine dwp_if_f rfl (rfl) ?_
  refine zak ?_
  refine zaf ?_
  refine zac ?_
  refine zab rfl rfl rfl (zad (.inl rfl) (ev1 rfl)) ?_
  refine zab rfl rfl rfl ((op_eqs rfl (ev1 rfl) (ev1 rfl)).cast (d' := .val (.bool true)) (by kernel_rfl)) ?_
  refine zab rfl rfl rfl (zad (.inl rfl) (ev1 rfl)) ?_
  refine zag (zar rfl rfl rfl) rfl rfl rfl (zad (.inl rfl) (ev1 rfl)) ?_
  refine zag (zar rfl rfl rfl) rfl rfl rfl (zb rfl (ev2 rfl) (ev1 rfl)) ?_
  refine zag (zar rfl rfl rfl) rfl rfl rfl (zad (.inl rfl) (ev2 rfl)) ?_
  refine zag (gd_ff rfl rfl rfl) rfl rfl rfl (zad (.inl rfl) (ev1 rfl)) ?_
  refine zag (gd_ff rfl rfl rfl) rfl rfl rfl (zb rfl (ev2 rfl) (ev1 rfl)) ?_
  refine zag (zar rfl rfl rfl) rfl rfl rfl (op_or rfl (ev2 rfl) (ev2 rfl)) ?_
  refine zab rfl rfl rfl (zaz rfl (ev1 rfl) (ev3 rfl id)) ?_
  refine zab rfl rfl rfl (zad (.inr rfl) (ev1 rfl)) ?_
  refine zae ?_
  refine zau ?_
  refine kend0 (rs1 rfl (rv_t rfl)) rfl ?_
  rfl
set_option maxRecDepth 4000 in
set_option maxHeartbeats 1000000 in
theorem sides_d (w h : Int) : DFun Tryz.prog 100 [.val (.int .i64 w), .val (.int .i64 h)] [] (.val (.bool (siD w && siD h))) [] := by
  refine zba (N := 19) 0 (by kernel_rfl) Tryz.func100 rfl rfl rfl (by simp only [fr0, Nat.zero_add, Nat.reduceAdd]; exact rfl) rfl fun s0 hs0 => ?_
  refine zaf ?_
  refine zac ?_
  refine zab rfl rfl rfl (zad (.inr rfl) (ev1 rfl)) ?_
  refine zae ?_
  refine zaf ?_
  refine zac ?_
  refine zab rfl rfl rfl (zad (.inl rfl) (ev1 rfl)) ?_
  refine zab rfl rfl rfl (op_geq rfl (ev1 rfl) (ev1 rfl)) ?_
  refine zab rfl rfl rfl (zad (.inl rfl) (ev1 rfl)) ?_
  refine zag (zar rfl rfl rfl) rfl rfl rfl (zad (.inl rfl) (ev1 rfl)) ?_
  refine zag (zar rfl rfl rfl) rfl rfl rfl (op_leq rfl (ev2 rfl) (ev1 rfl)) ?_
  refine zab rfl rfl rfl (zaz rfl (ev1 rfl) (ev3 rfl id)) ?_
  refine zab rfl rfl rfl (zad (.inl rfl) (ev1 rfl)) ?_
  refine zag (zar rfl rfl rfl) rfl rfl rfl (zad (.inl rfl) (ev1 rfl)) ?_
  refine zag (zar rfl rfl rfl) rfl rfl rfl (op_geq rfl (ev2 rfl) (ev1 rfl)) ?_
  refine zab rfl rfl rfl (zaz rfl (ev1 rfl) (ev3 rfl id)) ?_
  refine zab rfl rfl rfl (zad (.inl rfl) (ev1 rfl)) ?_
  refine zag (zar rfl rfl rfl) rfl rfl rfl (zad (.inl rfl) (ev1 rfl)) ?_
  refine zag (zar rfl rfl rfl) rfl rfl rfl (op_leq rfl (ev2 rfl) (ev1 rfl)) ?_
  refine zab rfl rfl rfl (zaz rfl (ev1 rfl) (ev3 rfl id)) ?_
  refine zab rfl rfl rfl (zad (.inr rfl) (ev1 rfl)) ?_
  refine zae ?_
  refine zau ?_
  refine kend0 (rs1 rfl (rv_t rfl)) rfl ?_
  simp [siD, Bool.and_assoc]
set_option maxRecDepth 4000 in
set_option maxHeartbeats 1000000 in
theorem refSt_d (w h : Int) (l : List C4) : DFun Tryz.prog 85 [.agg [iD w, iD h, pxD l]] [] (.val (.bool (stB w h l))) [] := by
  refine zba (N := 19) 0 (by kernel_rfl) Tryz.func85 rfl rfl rfl (by simp only [fr0, Nat.zero_add, Nat.reduceAdd]; exact rfl) rfl fun s0 hs0 => ?_
  refine zaf ?_
  refine zaj 1 (by simp only [holes, List.cons_append, List.nil_append]; exact rfl) ?_
  refine zac ?_
  refine zam rfl rfl rfl (op_boxam 0 rfl (ev1 rfl) rfl) (by simp only [upd, za, zaa]; exact rfl) ?_
  refine zab rfl rfl rfl (zad (.inr rfl) (ev1 rfl)) ?_
  refine zae ?_
  refine zaf ?_
  refine zac ?_
  refine zab rfl rfl rfl (zap rfl fo66_0 (ev1 rfl)) ?_
  refine zab rfl rfl rfl (zav rfl tb3 (ev1 rfl) rfl rfl) ?_
  refine zab rfl rfl rfl (zap rfl fo66_1 (ev1 rfl)) ?_
  refine zab rfl rfl rfl (zav rfl tb3 (ev1 rfl) rfl rfl) ?_
  refine zab rfl rfl rfl (zah [] [] [] rfl (ev1 rfl) (ec (ev1 rfl) (ec (ev1 rfl) en)) rfl rfl (sides_d _ _) rfl rfl rfl rfl rfl rfl) ?_
  refine zab rfl rfl rfl (zad (.inl rfl) (ev1 rfl)) ?_
  refine zag (zar rfl rfl rfl) rfl rfl rfl (zap rfl fo66_2 (ev1 rfl)) ?_
  refine zag (zar rfl rfl rfl) rfl rfl rfl (zav rfl tb64 (ev2 rfl) rfl rfl) ?_
  refine zag (zar rfl rfl rfl) rfl rfl rfl (op_len rfl sl64 (ev2 rfl)) ?_
  refine zag (zar rfl rfl rfl) rfl rfl rfl (zap rfl fo66_0 (ev1 rfl)) ?_
  refine zag (zar rfl rfl rfl) rfl rfl rfl (zav rfl tb3 (ev2 rfl) rfl rfl) ?_
  refine zag (zar rfl rfl rfl) rfl rfl rfl (zap rfl fo66_1 (ev1 rfl)) ?_
  refine zag (zar rfl rfl rfl) rfl rfl rfl (zav rfl tb3 (ev2 rfl) rfl rfl) ?_
  refine zag (zar rfl rfl rfl) rfl rfl rfl (op_mul rfl (ev2 rfl) (ev2 rfl)) ?_
  refine zag (zar rfl rfl rfl) rfl rfl rfl (zb rfl (ev2 rfl) (ev2 rfl)) ?_
  refine zab rfl rfl rfl (zaz rfl (ev1 rfl) (ev3 rfl id)) ?_
  refine zab rfl rfl rfl (zad (.inr rfl) (ev1 rfl)) ?_
  refine zae ?_
  refine zau ?_
  refine kend0 (rs1 rfl (rv_t rfl)) rfl ?_
  have e := stCk (w := w) (h := h) (l := l)
  cases h1 : siD w <;> cases h2 : siD h <;> simp_all
set_option maxRecDepth 4000 in
set_option maxHeartbeats 1000000 in
theorem refStSame_d (w h w2 h2 : Int) (l r : List C4) : DFun Tryz.prog 98 [.agg [iD w, iD h, pxD l], .agg [iD w2, iD h2, pxD r]] [] (.val (.bool (((w == w2) && (h == h2)) && decide (l = r)))) [] := by
  refine zba (N := 44) 0 (by kernel_rfl) Tryz.func98 rfl rfl rfl (by simp only [fr0, Nat.zero_add, Nat.reduceAdd]; exact rfl) rfl fun s0 hs0 => ?_
  refine zaf ?_
  refine zaj 2 (by simp only [holes, List.cons_append, List.nil_append]; exact rfl) ?_
  refine zac ?_
  refine zam rfl rfl rfl (op_boxam 0 rfl (ev1 rfl) rfl) (by simp only [upd, za, zaa]; exact rfl) ?_
  refine zam rfl rfl rfl (op_boxam 1 rfl (ev1 rfl) rfl) (by simp only [upd, za, zaa]; exact rfl) ?_
  refine zab rfl rfl rfl (zad (.inr rfl) (ev1 rfl)) ?_
  refine zae ?_
  refine zaf ?_
  refine zaf ?_
  refine zac ?_
  refine zab rfl rfl rfl (zap rfl fo66_0 (ev1 rfl)) ?_
  refine zab rfl rfl rfl (zav rfl tb3 (ev1 rfl) rfl rfl) ?_
  refine zab rfl rfl rfl (zap rfl fo66_0 (ev1 rfl)) ?_
  refine zab rfl rfl rfl (zav rfl tb3 (ev1 rfl) rfl rfl) ?_
  refine zab rfl rfl rfl (op_neq rfl (ev1 rfl) (ev1 rfl)) ?_
  refine zab rfl rfl rfl (zad (.inl rfl) (ev1 rfl)) ?_
  refine zag (zan rfl rfl rfl) rfl rfl rfl (zap rfl fo66_1 (ev1 rfl)) ?_
  refine zag (zan rfl rfl rfl) rfl rfl rfl (zav rfl tb3 (ev2 rfl) rfl rfl) ?_
  refine zag (zan rfl rfl rfl) rfl rfl rfl (zap rfl fo66_1 (ev1 rfl)) ?_
  refine zag (zan rfl rfl rfl) rfl rfl rfl (zav rfl tb3 (ev2 rfl) rfl rfl) ?_
  refine zag (zan rfl rfl rfl) rfl rfl rfl (op_neq rfl (ev2 rfl) (ev2 rfl)) ?_
  refine zab rfl rfl rfl (op_or rfl (ev1 rfl) (ev3 rfl id)) ?_
  refine zab rfl rfl rfl (zad (.inl rfl) (ev1 rfl)) ?_
  refine zag (zan rfl rfl rfl) rfl rfl rfl (zap rfl fo66_2 (ev1 rfl)) ?_
  refine zag (zan rfl rfl rfl) rfl rfl rfl (zav rfl tb64 (ev2 rfl) rfl rfl) ?_
  refine zag (zan rfl rfl rfl) rfl rfl rfl (op_len rfl sl64 (ev2 rfl)) ?_
  refine zag (zan rfl rfl rfl) rfl rfl rfl (zap rfl fo66_2 (ev1 rfl)) ?_
  refine zag (zan rfl rfl rfl) rfl rfl rfl (zav rfl tb64 (ev2 rfl) rfl rfl) ?_
  refine zag (zan rfl rfl rfl) rfl rfl rfl (op_len rfl sl64 (ev2 rfl)) ?_
  refine zag (zan rfl rfl rfl) rfl rfl rfl (op_neq rfl (ev2 rfl) (ev2 rfl)) ?_
  refine zab rfl rfl rfl (op_or rfl (ev1 rfl) (ev3 rfl id)) ?_
  refine zae ?_
  refine zaw rfl (fun c1 => ?_) (fun c1 => ?_)
  · have hne : (((w == w2) && (h == h2)) && decide (l = r)) = false := by
      have hl : ∀ e : l = r, l.length = r.length := fun e => by rw [e]
      cases h1 : (w == w2) <;> cases h3 : (h == h2) <;> simp_all
      intro e
      exact c1 (by rw [e])
    refine zaf ?_
    refine zac ?_
    refine zab rfl rfl rfl (zad (.inr rfl) (ev1 rfl)) ?_
    refine zae ?_
    refine zau ?_
    refine kend0 (rs1 rfl (rv_t rfl)) rfl ?_
    rw [hne]
  · have hlen : l.length = r.length ∧ w = w2 ∧ h = h2 := by simp_all; omega
    obtain ⟨hlen, rfl, rfl⟩ := hlen
    refine zak ?_
    refine zaf ?_
    refine zaf ?_
    refine zac ?_
    refine zab rfl rfl rfl (zap rfl fo66_2 (ev1 rfl)) ?_
    refine zab rfl rfl rfl (zav rfl tb64 (ev1 rfl) rfl rfl) ?_
    refine zab rfl rfl rfl (op_len rfl sl64 (ev1 rfl)) ?_
    refine zab rfl rfl rfl (zad (.inl rfl) (ev1 rfl)) ?_
    refine zae ?_
    refine zat ?_
    refine dwp_loopS ⟨hs0, rfl⟩ (α := Nat) (fun k => [(31, .val (.int .i64 (k : Int)))]) [(3, _), (29, _), (30, _)] (fun k => []) [_, _] (fun k => k ≤ l.length ∧ l.take k = r.take k) (fun k => l.length - k) 0 [0, 1] (by simp) rfl ⟨rfl, rfl, rfl, trivial⟩ ⟨rfl, trivial⟩ ⟨rfl, rfl, trivial⟩ ?_
    intro k hx
    simp only [upd, za, zaa, List.cons_append, List.nil_append]
    obtain ⟨hk, he⟩ := hx
    refine zaf ?_
    refine dwp_len (t := 29) rfl fun hl29 hL29 => ?_
    refine zac ?_
    refine zab rfl rfl rfl (op_lss rfl (ev1 rfl) (ev1 rfl)) ?_
    refine zae ?_
    refine zaf ?_
    refine zaw rfl (fun c2 => ?_) (fun c2 => ?_)
    · try simp only [yg, ya, beq_iff_eq, bne_iff_ne, yb, yc, yf, ye, yh, yi, yd, ne_eq, yj, Int.not_lt, Int.not_le] at c2
      refine zak ?_
      refine zaf ?_
      refine zat ?_
      refine zaf ?_
      refine zaj 1 (by simp only [holes, List.cons_append, List.nil_append]; exact rfl) ?_
      refine zac ?_
      refine zab rfl rfl rfl (zad (.inl rfl) (ev1 rfl)) ?_
      refine zab rfl rfl rfl (op_ixsr (j := k) rfl sl64 (ev1 rfl) (ev1 rfl) (fun _ => rfl) (by decide) (by omega) (by omega)) ?_
      refine zab rfl rfl rfl (op_ldwd rfl tb63 (ev1 rfl) rfl) ?_
      refine zam rfl rfl rfl (zaq 2 rfl zr63 rfl) (by simp only [upd, za, zaa]; exact rfl) ?_
      refine zab rfl rfl rfl (zad (.inr rfl) (ev1 rfl)) ?_
      refine zax rfl rfl (op_stwa rfl tb63 (ev1 rfl) (ev1 rfl) rfl rfl rfl rfl) (by simp only [upd, za, zaa]; exact rfl) ?_
      refine zae ?_
      refine zaf ?_
      refine dwp_draw [([2], []), ([], []), ([1], []), ([], []), ([], []), ([], []), ([], [])] mixed (by kernel_rfl) ?_
      refine lex_r rfl rfl (zas rfl tb63 (ev1 rfl) rfl rfl) ?_
      refine lex_r rfl rfl (zap rfl fo66_2 (ev1 rfl)) ?_
      refine lex_r rfl rfl (zav rfl tb64 (ev1 rfl) rfl rfl) ?_
      refine lex_r rfl rfl (zad (.inl rfl) (ev1 rfl)) ?_
      refine lex_r rfl rfl (op_ixsr (j := k) rfl sl64 (ev1 rfl) (ev1 rfl) (fun _ => rfl) (by decide) (by omega) (by omega)) ?_
      refine lex_r rfl rfl (op_ldwd rfl tb63 (ev1 rfl) rfl) ?_
      refine lex_r rfl rfl (op_ner eq63 rfl gd63 tb63 (ev1 rfl) (ev1 rfl)) ?_
      refine lex_nil ?_
      refine zaw rfl (fun c2 => ?_) (fun c2 => ?_)
      · have c3 : l[k] ≠ r[k] := by simpa using c2
        refine zaf ?_
        refine zac ?_
        refine zab rfl rfl rfl (zad (.inr rfl) (ev1 rfl)) ?_
        refine zae ?_
        refine zau ?_
        refine kend0 (rs1 rfl (rv_t rfl)) rfl ?_
        have hne : l ≠ r := fun e => by subst e; exact c3 rfl
        rw [decide_eq_false hne, Bool.and_false]
      · have c3 : l[k] = r[k] := by simpa using c2
        refine zak ?_
        refine zac ?_
        refine zab rfl rfl rfl (op_add' rfl (ev1 rfl) (ev1 rfl) (fun _ => IntWalk.i64_in _ (by omega))) ?_
        refine zab rfl rfl rfl (zad (.inl rfl) (ev1 rfl)) ?_
        refine zae ?_
        refine ⟨k + 1, [0, 1], ⟨by omega, by rw [List.take_succ_eq_append_getElem (by omega), List.take_succ_eq_append_getElem (by omega), he, c3]⟩, by simp only []; omega, rfl, ⟨rfl, rfl, rfl, rfl, trivial⟩, ⟨rfl, rfl, trivial⟩⟩
    · try simp only [yg, ya, beq_iff_eq, bne_iff_ne, yb, yc, yf, ye, yh, yi, yd, ne_eq, yj, Int.not_lt, Int.not_le] at c2
      refine dwp_exit ?_
      refine zaf ?_
      refine zac ?_
      refine zab rfl rfl rfl (zad (.inr rfl) (ev1 rfl)) ?_
      refine zae ?_
      refine zau ?_
      refine kend0 (rs1 rfl (rv_t rfl)) rfl ?_
      have e : l = r := by
        have h := he
        rw [List.take_of_length_le (by omega), List.take_of_length_le (by omega)] at h
        exact h
      rw [decide_eq_true e]
      simp
def plM (k : Int) (o : OpM) : OpM := ⟨o.id, k, if 1 ≤ k ∧ k ≤ 6 then o.x else 0, if 1 ≤ k ∧ k ≤ 6 then o.y else 0, if 1 ≤ k ∧ k ≤ 4 then o.x2 else 0, if 1 ≤ k ∧ k ≤ 4 then o.y2 else 0, if k = 1 ∨ k = 2 ∨ k = 5 then o.sz else 0, if 1 ≤ k ∧ k ≤ 5 then o.co else zC4, if k = 6 then o.sw else 0, if k = 6 then o.sh else 0, if k = 6 then o.px else [], if k = 7 ∨ k = 8 then o.tg else zI3⟩
def sameO (a b : OpM) : Bool := eqI a.id b.id && (a.kd == b.kd) && (a.x == b.x) && (a.y == b.y) && (a.x2 == b.x2) && (a.y2 == b.y2) && (a.sz == b.sz) && decide (a.co = b.co) && eqI a.tg b.tg && (((a.sw == b.sw) && (a.sh == b.sh)) && decide (a.px = b.px))
theorem wkPl {a1 a2 a3 a4 a5 a6 a7 a8 a9 a10 a11 a12 a13 a14 a15 b1 b2 b3 : D} : Wk (.agg [a1, a2, a3, a4, a5, a6, a7, a8, a9, a10, a11, a12, a13, a14, a15, .val (.slice none 0 0), b1, b2, b3]) (.agg [a1, a2, a3, a4, a5, a6, a7, a8, a9, a10, a11, a12, a13, a14, a15, pxD [], b1, b2, b3]) :=
  Wk.agg (WkL.cons (Wk.refl _) (WkL.cons (Wk.refl _) (WkL.cons (Wk.refl _) (WkL.cons (Wk.refl _) (WkL.cons (Wk.refl _) (WkL.cons (Wk.refl _) (WkL.cons (Wk.refl _) (WkL.cons (Wk.refl _) (WkL.cons (Wk.refl _) (WkL.cons (Wk.refl _) (WkL.cons (Wk.refl _) (WkL.cons (Wk.refl _) (WkL.cons (Wk.refl _) (WkL.cons (Wk.refl _) (WkL.cons (Wk.refl _) (WkL.cons (Wk.slf0 4) (WkL.cons (Wk.refl _) (WkL.cons (Wk.refl _) (WkL.cons (Wk.refl _) WkL.nil)))))))))))))))))))
set_option maxRecDepth 4000 in
set_option maxHeartbeats 1000000 in
theorem plv_1 (o : OpM) (hk : o.kd = 1 ∨ o.kd = 2) : DFun Tryz.prog 84 [.agg (opD o)] [] (.agg [.val (.int .u64 o.id.t), .val (.int .i64 o.id.s), .val (.int .u64 o.id.q), iD o.kd, iD o.x, iD o.y, iD o.x2, iD o.y2, iD o.sz, .val (.int .u8 o.co.r), .val (.int .u8 o.co.g), .val (.int .u8 o.co.b), .val (.int .u8 o.co.a), iD 0, iD 0, .val (.slice none 0 0), .val (.int .u64 0), .val (.int .i64 0), .val (.int .u64 0)]) [] := by
  refine zba (N := 52) 0 (by kernel_rfl) Tryz.func84 rfl rfl rfl (by simp only [fr0, Nat.zero_add, Nat.reduceAdd]; exact rfl) rfl fun s0 hs0 => ?_
  refine zaf ?_
  refine zaj 2 (by simp only [holes, List.cons_append, List.nil_append]; exact rfl) ?_
  refine zac ?_
  refine zam rfl rfl rfl (op_boxam 0 rfl (ev1 rfl) rfl) (by simp only [upd, za, zaa]; exact rfl) ?_
  refine zam rfl rfl rfl (zaq 1 rfl zr68 rfl) (by simp only [upd, za, zaa]; exact rfl) ?_
  refine zae ?_
  refine zaf ?_
  refine zaj 1 (by simp only [holes, List.cons_append, List.nil_append]; exact rfl) ?_
  refine zac ?_
  refine zab rfl rfl rfl (zap rfl fo68_0 (ev1 rfl)) ?_
  refine zab rfl rfl rfl (op_ldmp rfl tb61 (ev1 rfl) rfl rfl rfl) ?_
  refine zab rfl rfl rfl (zap rfl fo68_1 (ev1 rfl)) ?_
  refine zab rfl rfl rfl (zav rfl tb3 (ev1 rfl) rfl rfl) ?_
  refine zab rfl rfl rfl (op_bldD (ps := [(0, .tmp 5), (1, .tmp 7)]) rfl fl68 zr68 (ec (ev1 rfl) (ec (ev1 rfl) en)) rfl rfl rfl) ?_
  refine zam rfl rfl rfl (zaq 2 rfl zr68 rfl) (by simp only [upd, za, zaa]; exact rfl) ?_
  refine zax rfl rfl (op_stam rfl tb68 (ev1 rfl) (ev1 rfl) rfl rfl rfl rfl) (by simp only [upd, za, zaa]; exact rfl) ?_
  refine zae ?_
  refine zaf ?_
  refine zaf ?_
  refine zac ?_
  refine zab rfl rfl rfl (zap rfl fo68_1 (ev1 rfl)) ?_
  refine zab rfl rfl rfl (zav rfl tb3 (ev1 rfl) rfl rfl) ?_
  refine zab rfl rfl rfl (zah [] [] [] rfl (ev1 rfl) (ec (ev1 rfl) (ec (ev1 rfl) en)) rfl rfl (us_X o.kd) rfl rfl rfl rfl rfl rfl) ?_
  refine zae ?_
  refine dwp_if_t rfl (by simp; omega) ?_
  refine dwp_draw [([], []), ([0], []), ([], []), ([0], []), ([], []), ([2], [2]), ([], []), ([2], [2])] mixed (by kernel_rfl) ?_
  refine lex_r rfl rfl (zap rfl fo68_2 (ev1 rfl)) ?_
  refine lex_r rfl rfl (zav rfl tb3 (ev1 rfl) rfl rfl) ?_
  refine lex_r rfl rfl (zap rfl fo68_3 (ev1 rfl)) ?_
  refine lex_r rfl rfl (zav rfl tb3 (ev1 rfl) rfl rfl) ?_
  refine lex_r rfl rfl (zap rfl fo68_2 (ev1 rfl)) ?_
  refine lex_s rfl rfl (op_stm rfl tb3 (ev1 rfl) (ev1 rfl) (fun s v h => by cases h <;> exact ⟨rfl, rfl⟩) rfl (by first | decide | exact Nat.le_of_ble_eq_true rfl | simp)) rfl (by simp only [upd, za, zaa]; exact rfl) ?_
  refine lex_r rfl rfl (zap rfl fo68_3 (ev1 rfl)) ?_
  refine lex_s rfl rfl (op_stm rfl tb3 (ev1 rfl) (ev1 rfl) (fun s v h => by cases h <;> exact ⟨rfl, rfl⟩) rfl (by first | decide | exact Nat.le_of_ble_eq_true rfl | simp)) rfl (by simp only [upd, za, zaa]; exact rfl) ?_
  refine lex_nil ?_
  refine zaf ?_
  refine zaf ?_
  refine zac ?_
  refine zab rfl rfl rfl (zap rfl fo68_1 (ev1 rfl)) ?_
  refine zab rfl rfl rfl (zav rfl tb3 (ev1 rfl) rfl rfl) ?_
  refine zab rfl rfl rfl (zah [] [] [] rfl (ev1 rfl) (ec (ev1 rfl) (ec (ev1 rfl) en)) rfl rfl (us_X2 o.kd) rfl rfl rfl rfl rfl rfl) ?_
  refine zae ?_
  refine dwp_if_t rfl (by simp; omega) ?_
  refine dwp_draw [([], []), ([0], []), ([], []), ([0], []), ([], []), ([2], [2]), ([], []), ([2], [2])] mixed (by kernel_rfl) ?_
  refine lex_r rfl rfl (zap rfl fo68_4 (ev1 rfl)) ?_
  refine lex_r rfl rfl (zav rfl tb3 (ev1 rfl) rfl rfl) ?_
  refine lex_r rfl rfl (zap rfl fo68_5 (ev1 rfl)) ?_
  refine lex_r rfl rfl (zav rfl tb3 (ev1 rfl) rfl rfl) ?_
  refine lex_r rfl rfl (zap rfl fo68_4 (ev1 rfl)) ?_
  refine lex_s rfl rfl (op_stm rfl tb3 (ev1 rfl) (ev1 rfl) (fun s v h => by cases h <;> exact ⟨rfl, rfl⟩) rfl (by first | decide | exact Nat.le_of_ble_eq_true rfl | simp)) rfl (by simp only [upd, za, zaa]; exact rfl) ?_
  refine lex_r rfl rfl (zap rfl fo68_5 (ev1 rfl)) ?_
  refine lex_s rfl rfl (op_stm rfl tb3 (ev1 rfl) (ev1 rfl) (fun s v h => by cases h <;> exact ⟨rfl, rfl⟩) rfl (by first | decide | exact Nat.le_of_ble_eq_true rfl | simp)) rfl (by simp only [upd, za, zaa]; exact rfl) ?_
  refine lex_nil ?_
  refine zaf ?_
  refine zaf ?_
  refine zac ?_
  refine zab rfl rfl rfl (zap rfl fo68_1 (ev1 rfl)) ?_
  refine zab rfl rfl rfl (zav rfl tb3 (ev1 rfl) rfl rfl) ?_
  refine zab rfl rfl rfl (zah [] [] [] rfl (ev1 rfl) (ec (ev1 rfl) (ec (ev1 rfl) en)) rfl rfl (us_Size o.kd) rfl rfl rfl rfl rfl rfl) ?_
  refine zae ?_
  refine dwp_if_t rfl (by simp; omega) ?_
  refine zac ?_
  refine zab rfl rfl rfl (zap rfl fo68_6 (ev1 rfl)) ?_
  refine zab rfl rfl rfl (zav rfl tb3 (ev1 rfl) rfl rfl) ?_
  refine zab rfl rfl rfl (zap rfl fo68_6 (ev1 rfl)) ?_
  refine zax rfl rfl (op_stm rfl tb3 (ev1 rfl) (ev1 rfl) (fun s v h => by cases h <;> exact ⟨rfl, rfl⟩) rfl (by first | decide | exact Nat.le_of_ble_eq_true rfl | simp)) (by simp only [upd, za, zaa]; exact rfl) ?_
  refine zae ?_
  refine zaf ?_
  refine zaf ?_
  refine zac ?_
  refine zab rfl rfl rfl (zap rfl fo68_1 (ev1 rfl)) ?_
  refine zab rfl rfl rfl (zav rfl tb3 (ev1 rfl) rfl rfl) ?_
  refine zab rfl rfl rfl (zah [] [] [] rfl (ev1 rfl) (ec (ev1 rfl) (ec (ev1 rfl) en)) rfl rfl (us_Color o.kd) rfl rfl rfl rfl rfl rfl) ?_
  refine zae ?_
  refine dwp_if_t rfl (by simp; omega) ?_
  refine zac ?_
  refine zab rfl rfl rfl (zap rfl fo68_7 (ev1 rfl)) ?_
  refine zab rfl rfl rfl (op_ldmp rfl tb63 (ev1 rfl) rfl rfl rfl) ?_
  refine zab rfl rfl rfl (zap rfl fo68_7 (ev1 rfl)) ?_
  refine zax rfl rfl (op_stmp rfl tb63 (ev1 rfl) (ev1 rfl) rfl rfl rfl rfl rfl) (by simp only [upd, za, zaa]; exact rfl) ?_
  refine zae ?_
  refine zaf ?_
  refine zaf ?_
  refine zac ?_
  refine zab rfl rfl rfl (zap rfl fo68_1 (ev1 rfl)) ?_
  refine zab rfl rfl rfl (zav rfl tb3 (ev1 rfl) rfl rfl) ?_
  refine zab rfl rfl rfl (zah [] [] [] rfl (ev1 rfl) (ec (ev1 rfl) (ec (ev1 rfl) en)) rfl rfl (us_Stamp o.kd) rfl rfl rfl rfl rfl rfl) ?_
  refine zae ?_
  refine dwp_if_f rfl (by simp; omega) ?_
  refine zak ?_
  refine zaf ?_
  refine zaf ?_
  refine zac ?_
  refine zab rfl rfl rfl (zap rfl fo68_1 (ev1 rfl)) ?_
  refine zab rfl rfl rfl (zav rfl tb3 (ev1 rfl) rfl rfl) ?_
  refine zab rfl rfl rfl (zah [] [] [] rfl (ev1 rfl) (ec (ev1 rfl) (ec (ev1 rfl) en)) rfl rfl (us_Target o.kd) rfl rfl rfl rfl rfl rfl) ?_
  refine zae ?_
  refine dwp_if_f rfl (by simp; omega) ?_
  refine zak ?_
  refine zaf ?_
  refine zac ?_
  refine zab rfl rfl rfl (op_ldmw rfl tb68 (ev1 rfl) rfl rfl) ?_
  refine zax rfl rfl (op_stam rfl tb68 (ev1 rfl) (ev1 rfl) rfl rfl rfl rfl) (by simp only [upd, za, zaa]; exact rfl) ?_
  refine zae ?_
  refine zau ?_
  refine kend0 (rs1 rfl (rv_mw tb68 rfl rfl rfl)) rfl ?_
  rfl
theorem plain_1 (o : OpM) (hk : o.kd = 1) : DFun Tryz.prog 84 [.agg (opD o)] [] (.agg (opD (plM 1 o))) [] := by
  have h := (plv_1 o (Or.inl hk)).wk wkPl
  rw [hk] at h
  exact h
theorem plain_2 (o : OpM) (hk : o.kd = 2) : DFun Tryz.prog 84 [.agg (opD o)] [] (.agg (opD (plM 2 o))) [] := by
  have h := (plv_1 o (Or.inr hk)).wk wkPl
  rw [hk] at h
  exact h
set_option maxRecDepth 4000 in
set_option maxHeartbeats 1000000 in
theorem plv_3 (o : OpM) (hk : o.kd = 3 ∨ o.kd = 4) : DFun Tryz.prog 84 [.agg (opD o)] [] (.agg [.val (.int .u64 o.id.t), .val (.int .i64 o.id.s), .val (.int .u64 o.id.q), iD o.kd, iD o.x, iD o.y, iD o.x2, iD o.y2, iD 0, .val (.int .u8 o.co.r), .val (.int .u8 o.co.g), .val (.int .u8 o.co.b), .val (.int .u8 o.co.a), iD 0, iD 0, .val (.slice none 0 0), .val (.int .u64 0), .val (.int .i64 0), .val (.int .u64 0)]) [] := by
  refine zba (N := 52) 0 (by kernel_rfl) Tryz.func84 rfl rfl rfl (by simp only [fr0, Nat.zero_add, Nat.reduceAdd]; exact rfl) rfl fun s0 hs0 => ?_
  refine zaf ?_
  refine zaj 2 (by simp only [holes, List.cons_append, List.nil_append]; exact rfl) ?_
  refine zac ?_
  refine zam rfl rfl rfl (op_boxam 0 rfl (ev1 rfl) rfl) (by simp only [upd, za, zaa]; exact rfl) ?_
  refine zam rfl rfl rfl (zaq 1 rfl zr68 rfl) (by simp only [upd, za, zaa]; exact rfl) ?_
  refine zae ?_
  refine zaf ?_
  refine zaj 1 (by simp only [holes, List.cons_append, List.nil_append]; exact rfl) ?_
  refine zac ?_
  refine zab rfl rfl rfl (zap rfl fo68_0 (ev1 rfl)) ?_
  refine zab rfl rfl rfl (op_ldmp rfl tb61 (ev1 rfl) rfl rfl rfl) ?_
  refine zab rfl rfl rfl (zap rfl fo68_1 (ev1 rfl)) ?_
  refine zab rfl rfl rfl (zav rfl tb3 (ev1 rfl) rfl rfl) ?_
  refine zab rfl rfl rfl (op_bldD (ps := [(0, .tmp 5), (1, .tmp 7)]) rfl fl68 zr68 (ec (ev1 rfl) (ec (ev1 rfl) en)) rfl rfl rfl) ?_
  refine zam rfl rfl rfl (zaq 2 rfl zr68 rfl) (by simp only [upd, za, zaa]; exact rfl) ?_
  refine zax rfl rfl (op_stam rfl tb68 (ev1 rfl) (ev1 rfl) rfl rfl rfl rfl) (by simp only [upd, za, zaa]; exact rfl) ?_
  refine zae ?_
  refine zaf ?_
  refine zaf ?_
  refine zac ?_
  refine zab rfl rfl rfl (zap rfl fo68_1 (ev1 rfl)) ?_
  refine zab rfl rfl rfl (zav rfl tb3 (ev1 rfl) rfl rfl) ?_
  refine zab rfl rfl rfl (zah [] [] [] rfl (ev1 rfl) (ec (ev1 rfl) (ec (ev1 rfl) en)) rfl rfl (us_X o.kd) rfl rfl rfl rfl rfl rfl) ?_
  refine zae ?_
  refine dwp_if_t rfl (by simp; omega) ?_
  refine dwp_draw [([], []), ([0], []), ([], []), ([0], []), ([], []), ([2], [2]), ([], []), ([2], [2])] mixed (by kernel_rfl) ?_
  refine lex_r rfl rfl (zap rfl fo68_2 (ev1 rfl)) ?_
  refine lex_r rfl rfl (zav rfl tb3 (ev1 rfl) rfl rfl) ?_
  refine lex_r rfl rfl (zap rfl fo68_3 (ev1 rfl)) ?_
  refine lex_r rfl rfl (zav rfl tb3 (ev1 rfl) rfl rfl) ?_
  refine lex_r rfl rfl (zap rfl fo68_2 (ev1 rfl)) ?_
  refine lex_s rfl rfl (op_stm rfl tb3 (ev1 rfl) (ev1 rfl) (fun s v h => by cases h <;> exact ⟨rfl, rfl⟩) rfl (by first | decide | exact Nat.le_of_ble_eq_true rfl | simp)) rfl (by simp only [upd, za, zaa]; exact rfl) ?_
  refine lex_r rfl rfl (zap rfl fo68_3 (ev1 rfl)) ?_
  refine lex_s rfl rfl (op_stm rfl tb3 (ev1 rfl) (ev1 rfl) (fun s v h => by cases h <;> exact ⟨rfl, rfl⟩) rfl (by first | decide | exact Nat.le_of_ble_eq_true rfl | simp)) rfl (by simp only [upd, za, zaa]; exact rfl) ?_
  refine lex_nil ?_
  refine zaf ?_
  refine zaf ?_
  refine zac ?_
  refine zab rfl rfl rfl (zap rfl fo68_1 (ev1 rfl)) ?_
  refine zab rfl rfl rfl (zav rfl tb3 (ev1 rfl) rfl rfl) ?_
  refine zab rfl rfl rfl (zah [] [] [] rfl (ev1 rfl) (ec (ev1 rfl) (ec (ev1 rfl) en)) rfl rfl (us_X2 o.kd) rfl rfl rfl rfl rfl rfl) ?_
  refine zae ?_
  refine dwp_if_t rfl (by simp; omega) ?_
  refine dwp_draw [([], []), ([0], []), ([], []), ([0], []), ([], []), ([2], [2]), ([], []), ([2], [2])] mixed (by kernel_rfl) ?_
  refine lex_r rfl rfl (zap rfl fo68_4 (ev1 rfl)) ?_
  refine lex_r rfl rfl (zav rfl tb3 (ev1 rfl) rfl rfl) ?_
  refine lex_r rfl rfl (zap rfl fo68_5 (ev1 rfl)) ?_
  refine lex_r rfl rfl (zav rfl tb3 (ev1 rfl) rfl rfl) ?_
  refine lex_r rfl rfl (zap rfl fo68_4 (ev1 rfl)) ?_
  refine lex_s rfl rfl (op_stm rfl tb3 (ev1 rfl) (ev1 rfl) (fun s v h => by cases h <;> exact ⟨rfl, rfl⟩) rfl (by first | decide | exact Nat.le_of_ble_eq_true rfl | simp)) rfl (by simp only [upd, za, zaa]; exact rfl) ?_
  refine lex_r rfl rfl (zap rfl fo68_5 (ev1 rfl)) ?_
  refine lex_s rfl rfl (op_stm rfl tb3 (ev1 rfl) (ev1 rfl) (fun s v h => by cases h <;> exact ⟨rfl, rfl⟩) rfl (by first | decide | exact Nat.le_of_ble_eq_true rfl | simp)) rfl (by simp only [upd, za, zaa]; exact rfl) ?_
  refine lex_nil ?_
  refine zaf ?_
  refine zaf ?_
  refine zac ?_
  refine zab rfl rfl rfl (zap rfl fo68_1 (ev1 rfl)) ?_
  refine zab rfl rfl rfl (zav rfl tb3 (ev1 rfl) rfl rfl) ?_
  refine zab rfl rfl rfl (zah [] [] [] rfl (ev1 rfl) (ec (ev1 rfl) (ec (ev1 rfl) en)) rfl rfl (us_Size o.kd) rfl rfl rfl rfl rfl rfl) ?_
  refine zae ?_
  refine dwp_if_f rfl (by simp; omega) ?_
  refine zak ?_
  refine zaf ?_
  refine zaf ?_
  refine zac ?_
  refine zab rfl rfl rfl (zap rfl fo68_1 (ev1 rfl)) ?_
  refine zab rfl rfl rfl (zav rfl tb3 (ev1 rfl) rfl rfl) ?_
  refine zab rfl rfl rfl (zah [] [] [] rfl (ev1 rfl) (ec (ev1 rfl) (ec (ev1 rfl) en)) rfl rfl (us_Color o.kd) rfl rfl rfl rfl rfl rfl) ?_
  refine zae ?_
  refine dwp_if_t rfl (by simp; omega) ?_
  refine zac ?_
  refine zab rfl rfl rfl (zap rfl fo68_7 (ev1 rfl)) ?_
  refine zab rfl rfl rfl (op_ldmp rfl tb63 (ev1 rfl) rfl rfl rfl) ?_
  refine zab rfl rfl rfl (zap rfl fo68_7 (ev1 rfl)) ?_
  refine zax rfl rfl (op_stmp rfl tb63 (ev1 rfl) (ev1 rfl) rfl rfl rfl rfl rfl) (by simp only [upd, za, zaa]; exact rfl) ?_
  refine zae ?_
  refine zaf ?_
  refine zaf ?_
  refine zac ?_
  refine zab rfl rfl rfl (zap rfl fo68_1 (ev1 rfl)) ?_
  refine zab rfl rfl rfl (zav rfl tb3 (ev1 rfl) rfl rfl) ?_
  refine zab rfl rfl rfl (zah [] [] [] rfl (ev1 rfl) (ec (ev1 rfl) (ec (ev1 rfl) en)) rfl rfl (us_Stamp o.kd) rfl rfl rfl rfl rfl rfl) ?_
  refine zae ?_
  refine dwp_if_f rfl (by simp; omega) ?_
  refine zak ?_
  refine zaf ?_
  refine zaf ?_
  refine zac ?_
  refine zab rfl rfl rfl (zap rfl fo68_1 (ev1 rfl)) ?_
  refine zab rfl rfl rfl (zav rfl tb3 (ev1 rfl) rfl rfl) ?_
  refine zab rfl rfl rfl (zah [] [] [] rfl (ev1 rfl) (ec (ev1 rfl) (ec (ev1 rfl) en)) rfl rfl (us_Target o.kd) rfl rfl rfl rfl rfl rfl) ?_
  refine zae ?_
  refine dwp_if_f rfl (by simp; omega) ?_
  refine zak ?_
  refine zaf ?_
  refine zac ?_
  refine zab rfl rfl rfl (op_ldmw rfl tb68 (ev1 rfl) rfl rfl) ?_
  refine zax rfl rfl (op_stam rfl tb68 (ev1 rfl) (ev1 rfl) rfl rfl rfl rfl) (by simp only [upd, za, zaa]; exact rfl) ?_
  refine zae ?_
  refine zau ?_
  refine kend0 (rs1 rfl (rv_mw tb68 rfl rfl rfl)) rfl ?_
  rfl
theorem plain_3 (o : OpM) (hk : o.kd = 3) : DFun Tryz.prog 84 [.agg (opD o)] [] (.agg (opD (plM 3 o))) [] := by
  have h := (plv_3 o (Or.inl hk)).wk wkPl
  rw [hk] at h
  exact h
theorem plain_4 (o : OpM) (hk : o.kd = 4) : DFun Tryz.prog 84 [.agg (opD o)] [] (.agg (opD (plM 4 o))) [] := by
  have h := (plv_3 o (Or.inr hk)).wk wkPl
  rw [hk] at h
  exact h
set_option maxRecDepth 4000 in
set_option maxHeartbeats 1000000 in
theorem plv_5 (o : OpM) (hk : o.kd = 5) : DFun Tryz.prog 84 [.agg (opD o)] [] (.agg [.val (.int .u64 o.id.t), .val (.int .i64 o.id.s), .val (.int .u64 o.id.q), iD o.kd, iD o.x, iD o.y, iD 0, iD 0, iD o.sz, .val (.int .u8 o.co.r), .val (.int .u8 o.co.g), .val (.int .u8 o.co.b), .val (.int .u8 o.co.a), iD 0, iD 0, .val (.slice none 0 0), .val (.int .u64 0), .val (.int .i64 0), .val (.int .u64 0)]) [] := by
  refine zba (N := 52) 0 (by kernel_rfl) Tryz.func84 rfl rfl rfl (by simp only [fr0, Nat.zero_add, Nat.reduceAdd]; exact rfl) rfl fun s0 hs0 => ?_
  refine zaf ?_
  refine zaj 2 (by simp only [holes, List.cons_append, List.nil_append]; exact rfl) ?_
  refine zac ?_
  refine zam rfl rfl rfl (op_boxam 0 rfl (ev1 rfl) rfl) (by simp only [upd, za, zaa]; exact rfl) ?_
  refine zam rfl rfl rfl (zaq 1 rfl zr68 rfl) (by simp only [upd, za, zaa]; exact rfl) ?_
  refine zae ?_
  refine zaf ?_
  refine zaj 1 (by simp only [holes, List.cons_append, List.nil_append]; exact rfl) ?_
  refine zac ?_
  refine zab rfl rfl rfl (zap rfl fo68_0 (ev1 rfl)) ?_
  refine zab rfl rfl rfl (op_ldmp rfl tb61 (ev1 rfl) rfl rfl rfl) ?_
  refine zab rfl rfl rfl (zap rfl fo68_1 (ev1 rfl)) ?_
  refine zab rfl rfl rfl (zav rfl tb3 (ev1 rfl) rfl rfl) ?_
  refine zab rfl rfl rfl (op_bldD (ps := [(0, .tmp 5), (1, .tmp 7)]) rfl fl68 zr68 (ec (ev1 rfl) (ec (ev1 rfl) en)) rfl rfl rfl) ?_
  refine zam rfl rfl rfl (zaq 2 rfl zr68 rfl) (by simp only [upd, za, zaa]; exact rfl) ?_
  refine zax rfl rfl (op_stam rfl tb68 (ev1 rfl) (ev1 rfl) rfl rfl rfl rfl) (by simp only [upd, za, zaa]; exact rfl) ?_
  refine zae ?_
  refine zaf ?_
  refine zaf ?_
  refine zac ?_
  refine zab rfl rfl rfl (zap rfl fo68_1 (ev1 rfl)) ?_
  refine zab rfl rfl rfl (zav rfl tb3 (ev1 rfl) rfl rfl) ?_
  refine zab rfl rfl rfl (zah [] [] [] rfl (ev1 rfl) (ec (ev1 rfl) (ec (ev1 rfl) en)) rfl rfl (us_X o.kd) rfl rfl rfl rfl rfl rfl) ?_
  refine zae ?_
  refine dwp_if_t rfl (by simp; omega) ?_
  refine dwp_draw [([], []), ([0], []), ([], []), ([0], []), ([], []), ([2], [2]), ([], []), ([2], [2])] mixed (by kernel_rfl) ?_
  refine lex_r rfl rfl (zap rfl fo68_2 (ev1 rfl)) ?_
  refine lex_r rfl rfl (zav rfl tb3 (ev1 rfl) rfl rfl) ?_
  refine lex_r rfl rfl (zap rfl fo68_3 (ev1 rfl)) ?_
  refine lex_r rfl rfl (zav rfl tb3 (ev1 rfl) rfl rfl) ?_
  refine lex_r rfl rfl (zap rfl fo68_2 (ev1 rfl)) ?_
  refine lex_s rfl rfl (op_stm rfl tb3 (ev1 rfl) (ev1 rfl) (fun s v h => by cases h <;> exact ⟨rfl, rfl⟩) rfl (by first | decide | exact Nat.le_of_ble_eq_true rfl | simp)) rfl (by simp only [upd, za, zaa]; exact rfl) ?_
  refine lex_r rfl rfl (zap rfl fo68_3 (ev1 rfl)) ?_
  refine lex_s rfl rfl (op_stm rfl tb3 (ev1 rfl) (ev1 rfl) (fun s v h => by cases h <;> exact ⟨rfl, rfl⟩) rfl (by first | decide | exact Nat.le_of_ble_eq_true rfl | simp)) rfl (by simp only [upd, za, zaa]; exact rfl) ?_
  refine lex_nil ?_
  refine zaf ?_
  refine zaf ?_
  refine zac ?_
  refine zab rfl rfl rfl (zap rfl fo68_1 (ev1 rfl)) ?_
  refine zab rfl rfl rfl (zav rfl tb3 (ev1 rfl) rfl rfl) ?_
  refine zab rfl rfl rfl (zah [] [] [] rfl (ev1 rfl) (ec (ev1 rfl) (ec (ev1 rfl) en)) rfl rfl (us_X2 o.kd) rfl rfl rfl rfl rfl rfl) ?_
  refine zae ?_
  refine dwp_if_f rfl (by simp; omega) ?_
  refine zak ?_
  refine zaf ?_
  refine zaf ?_
  refine zac ?_
  refine zab rfl rfl rfl (zap rfl fo68_1 (ev1 rfl)) ?_
  refine zab rfl rfl rfl (zav rfl tb3 (ev1 rfl) rfl rfl) ?_
  refine zab rfl rfl rfl (zah [] [] [] rfl (ev1 rfl) (ec (ev1 rfl) (ec (ev1 rfl) en)) rfl rfl (us_Size o.kd) rfl rfl rfl rfl rfl rfl) ?_
  refine zae ?_
  refine dwp_if_t rfl (by simp; omega) ?_
  refine zac ?_
  refine zab rfl rfl rfl (zap rfl fo68_6 (ev1 rfl)) ?_
  refine zab rfl rfl rfl (zav rfl tb3 (ev1 rfl) rfl rfl) ?_
  refine zab rfl rfl rfl (zap rfl fo68_6 (ev1 rfl)) ?_
  refine zax rfl rfl (op_stm rfl tb3 (ev1 rfl) (ev1 rfl) (fun s v h => by cases h <;> exact ⟨rfl, rfl⟩) rfl (by first | decide | exact Nat.le_of_ble_eq_true rfl | simp)) (by simp only [upd, za, zaa]; exact rfl) ?_
  refine zae ?_
  refine zaf ?_
  refine zaf ?_
  refine zac ?_
  refine zab rfl rfl rfl (zap rfl fo68_1 (ev1 rfl)) ?_
  refine zab rfl rfl rfl (zav rfl tb3 (ev1 rfl) rfl rfl) ?_
  refine zab rfl rfl rfl (zah [] [] [] rfl (ev1 rfl) (ec (ev1 rfl) (ec (ev1 rfl) en)) rfl rfl (us_Color o.kd) rfl rfl rfl rfl rfl rfl) ?_
  refine zae ?_
  refine dwp_if_t rfl (by simp; omega) ?_
  refine zac ?_
  refine zab rfl rfl rfl (zap rfl fo68_7 (ev1 rfl)) ?_
  refine zab rfl rfl rfl (op_ldmp rfl tb63 (ev1 rfl) rfl rfl rfl) ?_
  refine zab rfl rfl rfl (zap rfl fo68_7 (ev1 rfl)) ?_
  refine zax rfl rfl (op_stmp rfl tb63 (ev1 rfl) (ev1 rfl) rfl rfl rfl rfl rfl) (by simp only [upd, za, zaa]; exact rfl) ?_
  refine zae ?_
  refine zaf ?_
  refine zaf ?_
  refine zac ?_
  refine zab rfl rfl rfl (zap rfl fo68_1 (ev1 rfl)) ?_
  refine zab rfl rfl rfl (zav rfl tb3 (ev1 rfl) rfl rfl) ?_
  refine zab rfl rfl rfl (zah [] [] [] rfl (ev1 rfl) (ec (ev1 rfl) (ec (ev1 rfl) en)) rfl rfl (us_Stamp o.kd) rfl rfl rfl rfl rfl rfl) ?_
  refine zae ?_
  refine dwp_if_f rfl (by simp; omega) ?_
  refine zak ?_
  refine zaf ?_
  refine zaf ?_
  refine zac ?_
  refine zab rfl rfl rfl (zap rfl fo68_1 (ev1 rfl)) ?_
  refine zab rfl rfl rfl (zav rfl tb3 (ev1 rfl) rfl rfl) ?_
  refine zab rfl rfl rfl (zah [] [] [] rfl (ev1 rfl) (ec (ev1 rfl) (ec (ev1 rfl) en)) rfl rfl (us_Target o.kd) rfl rfl rfl rfl rfl rfl) ?_
  refine zae ?_
  refine dwp_if_f rfl (by simp; omega) ?_
  refine zak ?_
  refine zaf ?_
  refine zac ?_
  refine zab rfl rfl rfl (op_ldmw rfl tb68 (ev1 rfl) rfl rfl) ?_
  refine zax rfl rfl (op_stam rfl tb68 (ev1 rfl) (ev1 rfl) rfl rfl rfl rfl) (by simp only [upd, za, zaa]; exact rfl) ?_
  refine zae ?_
  refine zau ?_
  refine kend0 (rs1 rfl (rv_mw tb68 rfl rfl rfl)) rfl ?_
  rfl
theorem plain_5 (o : OpM) (hk : o.kd = 5) : DFun Tryz.prog 84 [.agg (opD o)] [] (.agg (opD (plM 5 o))) [] := by
  have h := (plv_5 o hk).wk wkPl
  rw [hk] at h
  exact h
set_option maxRecDepth 4000 in
set_option maxHeartbeats 1000000 in
theorem plv_6 (o : OpM) (hk : o.kd = 6) : DFun Tryz.prog 84 [.agg (opD o)] [] (.agg [.val (.int .u64 o.id.t), .val (.int .i64 o.id.s), .val (.int .u64 o.id.q), iD o.kd, iD o.x, iD o.y, iD 0, iD 0, iD 0, .val (.int .u8 0), .val (.int .u8 0), .val (.int .u8 0), .val (.int .u8 0), iD o.sw, iD o.sh, pxD o.px, .val (.int .u64 0), .val (.int .i64 0), .val (.int .u64 0)]) [] := by
  refine zba (N := 52) 0 (by kernel_rfl) Tryz.func84 rfl rfl rfl (by simp only [fr0, Nat.zero_add, Nat.reduceAdd]; exact rfl) rfl fun s0 hs0 => ?_
  refine zaf ?_
  refine zaj 2 (by simp only [holes, List.cons_append, List.nil_append]; exact rfl) ?_
  refine zac ?_
  refine zam rfl rfl rfl (op_boxam 0 rfl (ev1 rfl) rfl) (by simp only [upd, za, zaa]; exact rfl) ?_
  refine zam rfl rfl rfl (zaq 1 rfl zr68 rfl) (by simp only [upd, za, zaa]; exact rfl) ?_
  refine zae ?_
  refine zaf ?_
  refine zaj 1 (by simp only [holes, List.cons_append, List.nil_append]; exact rfl) ?_
  refine zac ?_
  refine zab rfl rfl rfl (zap rfl fo68_0 (ev1 rfl)) ?_
  refine zab rfl rfl rfl (op_ldmp rfl tb61 (ev1 rfl) rfl rfl rfl) ?_
  refine zab rfl rfl rfl (zap rfl fo68_1 (ev1 rfl)) ?_
  refine zab rfl rfl rfl (zav rfl tb3 (ev1 rfl) rfl rfl) ?_
  refine zab rfl rfl rfl (op_bldD (ps := [(0, .tmp 5), (1, .tmp 7)]) rfl fl68 zr68 (ec (ev1 rfl) (ec (ev1 rfl) en)) rfl rfl rfl) ?_
  refine zam rfl rfl rfl (zaq 2 rfl zr68 rfl) (by simp only [upd, za, zaa]; exact rfl) ?_
  refine zax rfl rfl (op_stam rfl tb68 (ev1 rfl) (ev1 rfl) rfl rfl rfl rfl) (by simp only [upd, za, zaa]; exact rfl) ?_
  refine zae ?_
  refine zaf ?_
  refine zaf ?_
  refine zac ?_
  refine zab rfl rfl rfl (zap rfl fo68_1 (ev1 rfl)) ?_
  refine zab rfl rfl rfl (zav rfl tb3 (ev1 rfl) rfl rfl) ?_
  refine zab rfl rfl rfl (zah [] [] [] rfl (ev1 rfl) (ec (ev1 rfl) (ec (ev1 rfl) en)) rfl rfl (us_X o.kd) rfl rfl rfl rfl rfl rfl) ?_
  refine zae ?_
  refine dwp_if_t rfl (by simp; omega) ?_
  refine dwp_draw [([], []), ([0], []), ([], []), ([0], []), ([], []), ([2], [2]), ([], []), ([2], [2])] mixed (by kernel_rfl) ?_
  refine lex_r rfl rfl (zap rfl fo68_2 (ev1 rfl)) ?_
  refine lex_r rfl rfl (zav rfl tb3 (ev1 rfl) rfl rfl) ?_
  refine lex_r rfl rfl (zap rfl fo68_3 (ev1 rfl)) ?_
  refine lex_r rfl rfl (zav rfl tb3 (ev1 rfl) rfl rfl) ?_
  refine lex_r rfl rfl (zap rfl fo68_2 (ev1 rfl)) ?_
  refine lex_s rfl rfl (op_stm rfl tb3 (ev1 rfl) (ev1 rfl) (fun s v h => by cases h <;> exact ⟨rfl, rfl⟩) rfl (by first | decide | exact Nat.le_of_ble_eq_true rfl | simp)) rfl (by simp only [upd, za, zaa]; exact rfl) ?_
  refine lex_r rfl rfl (zap rfl fo68_3 (ev1 rfl)) ?_
  refine lex_s rfl rfl (op_stm rfl tb3 (ev1 rfl) (ev1 rfl) (fun s v h => by cases h <;> exact ⟨rfl, rfl⟩) rfl (by first | decide | exact Nat.le_of_ble_eq_true rfl | simp)) rfl (by simp only [upd, za, zaa]; exact rfl) ?_
  refine lex_nil ?_
  refine zaf ?_
  refine zaf ?_
  refine zac ?_
  refine zab rfl rfl rfl (zap rfl fo68_1 (ev1 rfl)) ?_
  refine zab rfl rfl rfl (zav rfl tb3 (ev1 rfl) rfl rfl) ?_
  refine zab rfl rfl rfl (zah [] [] [] rfl (ev1 rfl) (ec (ev1 rfl) (ec (ev1 rfl) en)) rfl rfl (us_X2 o.kd) rfl rfl rfl rfl rfl rfl) ?_
  refine zae ?_
  refine dwp_if_f rfl (by simp; omega) ?_
  refine zak ?_
  refine zaf ?_
  refine zaf ?_
  refine zac ?_
  refine zab rfl rfl rfl (zap rfl fo68_1 (ev1 rfl)) ?_
  refine zab rfl rfl rfl (zav rfl tb3 (ev1 rfl) rfl rfl) ?_
  refine zab rfl rfl rfl (zah [] [] [] rfl (ev1 rfl) (ec (ev1 rfl) (ec (ev1 rfl) en)) rfl rfl (us_Size o.kd) rfl rfl rfl rfl rfl rfl) ?_
  refine zae ?_
  refine dwp_if_f rfl (by simp; omega) ?_
  refine zak ?_
  refine zaf ?_
  refine zaf ?_
  refine zac ?_
  refine zab rfl rfl rfl (zap rfl fo68_1 (ev1 rfl)) ?_
  refine zab rfl rfl rfl (zav rfl tb3 (ev1 rfl) rfl rfl) ?_
  refine zab rfl rfl rfl (zah [] [] [] rfl (ev1 rfl) (ec (ev1 rfl) (ec (ev1 rfl) en)) rfl rfl (us_Color o.kd) rfl rfl rfl rfl rfl rfl) ?_
  refine zae ?_
  refine dwp_if_f rfl (by simp; omega) ?_
  refine zak ?_
  refine zaf ?_
  refine zaf ?_
  refine zac ?_
  refine zab rfl rfl rfl (zap rfl fo68_1 (ev1 rfl)) ?_
  refine zab rfl rfl rfl (zav rfl tb3 (ev1 rfl) rfl rfl) ?_
  refine zab rfl rfl rfl (zah [] [] [] rfl (ev1 rfl) (ec (ev1 rfl) (ec (ev1 rfl) en)) rfl rfl (us_Stamp o.kd) rfl rfl rfl rfl rfl rfl) ?_
  refine zae ?_
  refine dwp_if_t rfl (by simp; omega) ?_
  refine zac ?_
  refine zab rfl rfl rfl (zap rfl fo68_8 (ev1 rfl)) ?_
  refine zab rfl rfl rfl (op_ldmp rfl tb66 (ev1 rfl) rfl rfl rfl) ?_
  refine zab rfl rfl rfl (zap rfl fo68_8 (ev1 rfl)) ?_
  refine zax rfl rfl (op_stmp rfl tb66 (ev1 rfl) (ev1 rfl) rfl rfl rfl rfl rfl) (by simp only [upd, za, zaa]; exact rfl) ?_
  refine zae ?_
  refine zaf ?_
  refine zaf ?_
  refine zac ?_
  refine zab rfl rfl rfl (zap rfl fo68_1 (ev1 rfl)) ?_
  refine zab rfl rfl rfl (zav rfl tb3 (ev1 rfl) rfl rfl) ?_
  refine zab rfl rfl rfl (zah [] [] [] rfl (ev1 rfl) (ec (ev1 rfl) (ec (ev1 rfl) en)) rfl rfl (us_Target o.kd) rfl rfl rfl rfl rfl rfl) ?_
  refine zae ?_
  refine dwp_if_f rfl (by simp; omega) ?_
  refine zak ?_
  refine zaf ?_
  refine zac ?_
  refine zab rfl rfl rfl (op_ldmw rfl tb68 (ev1 rfl) rfl rfl) ?_
  refine zax rfl rfl (op_stam rfl tb68 (ev1 rfl) (ev1 rfl) rfl rfl rfl rfl) (by simp only [upd, za, zaa]; exact rfl) ?_
  refine zae ?_
  refine zau ?_
  refine kend0 (rs1 rfl (rv_mw tb68 rfl rfl rfl)) rfl ?_
  rfl
theorem plain_6 (o : OpM) (hk : o.kd = 6) : DFun Tryz.prog 84 [.agg (opD o)] [] (.agg (opD (plM 6 o))) [] := by
  have h := (plv_6 o hk)
  rw [hk] at h
  exact h
set_option maxRecDepth 4000 in
set_option maxHeartbeats 1000000 in
theorem plv_7 (o : OpM) (hk : o.kd = 7 ∨ o.kd = 8) : DFun Tryz.prog 84 [.agg (opD o)] [] (.agg [.val (.int .u64 o.id.t), .val (.int .i64 o.id.s), .val (.int .u64 o.id.q), iD o.kd, iD 0, iD 0, iD 0, iD 0, iD 0, .val (.int .u8 0), .val (.int .u8 0), .val (.int .u8 0), .val (.int .u8 0), iD 0, iD 0, .val (.slice none 0 0), .val (.int .u64 o.tg.t), .val (.int .i64 o.tg.s), .val (.int .u64 o.tg.q)]) [] := by
  refine zba (N := 52) 0 (by kernel_rfl) Tryz.func84 rfl rfl rfl (by simp only [fr0, Nat.zero_add, Nat.reduceAdd]; exact rfl) rfl fun s0 hs0 => ?_
  refine zaf ?_
  refine zaj 2 (by simp only [holes, List.cons_append, List.nil_append]; exact rfl) ?_
  refine zac ?_
  refine zam rfl rfl rfl (op_boxam 0 rfl (ev1 rfl) rfl) (by simp only [upd, za, zaa]; exact rfl) ?_
  refine zam rfl rfl rfl (zaq 1 rfl zr68 rfl) (by simp only [upd, za, zaa]; exact rfl) ?_
  refine zae ?_
  refine zaf ?_
  refine zaj 1 (by simp only [holes, List.cons_append, List.nil_append]; exact rfl) ?_
  refine zac ?_
  refine zab rfl rfl rfl (zap rfl fo68_0 (ev1 rfl)) ?_
  refine zab rfl rfl rfl (op_ldmp rfl tb61 (ev1 rfl) rfl rfl rfl) ?_
  refine zab rfl rfl rfl (zap rfl fo68_1 (ev1 rfl)) ?_
  refine zab rfl rfl rfl (zav rfl tb3 (ev1 rfl) rfl rfl) ?_
  refine zab rfl rfl rfl (op_bldD (ps := [(0, .tmp 5), (1, .tmp 7)]) rfl fl68 zr68 (ec (ev1 rfl) (ec (ev1 rfl) en)) rfl rfl rfl) ?_
  refine zam rfl rfl rfl (zaq 2 rfl zr68 rfl) (by simp only [upd, za, zaa]; exact rfl) ?_
  refine zax rfl rfl (op_stam rfl tb68 (ev1 rfl) (ev1 rfl) rfl rfl rfl rfl) (by simp only [upd, za, zaa]; exact rfl) ?_
  refine zae ?_
  refine zaf ?_
  refine zaf ?_
  refine zac ?_
  refine zab rfl rfl rfl (zap rfl fo68_1 (ev1 rfl)) ?_
  refine zab rfl rfl rfl (zav rfl tb3 (ev1 rfl) rfl rfl) ?_
  refine zab rfl rfl rfl (zah [] [] [] rfl (ev1 rfl) (ec (ev1 rfl) (ec (ev1 rfl) en)) rfl rfl (us_X o.kd) rfl rfl rfl rfl rfl rfl) ?_
  refine zae ?_
  refine dwp_if_f rfl (by simp; omega) ?_
  refine zak ?_
  refine zaf ?_
  refine zaf ?_
  refine zac ?_
  refine zab rfl rfl rfl (zap rfl fo68_1 (ev1 rfl)) ?_
  refine zab rfl rfl rfl (zav rfl tb3 (ev1 rfl) rfl rfl) ?_
  refine zab rfl rfl rfl (zah [] [] [] rfl (ev1 rfl) (ec (ev1 rfl) (ec (ev1 rfl) en)) rfl rfl (us_X2 o.kd) rfl rfl rfl rfl rfl rfl) ?_
  refine zae ?_
  refine dwp_if_f rfl (by simp; omega) ?_
  refine zak ?_
  refine zaf ?_
  refine zaf ?_
  refine zac ?_
  refine zab rfl rfl rfl (zap rfl fo68_1 (ev1 rfl)) ?_
  refine zab rfl rfl rfl (zav rfl tb3 (ev1 rfl) rfl rfl) ?_
  refine zab rfl rfl rfl (zah [] [] [] rfl (ev1 rfl) (ec (ev1 rfl) (ec (ev1 rfl) en)) rfl rfl (us_Size o.kd) rfl rfl rfl rfl rfl rfl) ?_
  refine zae ?_
  refine dwp_if_f rfl (by simp; omega) ?_
  refine zak ?_
  refine zaf ?_
  refine zaf ?_
  refine zac ?_
  refine zab rfl rfl rfl (zap rfl fo68_1 (ev1 rfl)) ?_
  refine zab rfl rfl rfl (zav rfl tb3 (ev1 rfl) rfl rfl) ?_
  refine zab rfl rfl rfl (zah [] [] [] rfl (ev1 rfl) (ec (ev1 rfl) (ec (ev1 rfl) en)) rfl rfl (us_Color o.kd) rfl rfl rfl rfl rfl rfl) ?_
  refine zae ?_
  refine dwp_if_f rfl (by simp; omega) ?_
  refine zak ?_
  refine zaf ?_
  refine zaf ?_
  refine zac ?_
  refine zab rfl rfl rfl (zap rfl fo68_1 (ev1 rfl)) ?_
  refine zab rfl rfl rfl (zav rfl tb3 (ev1 rfl) rfl rfl) ?_
  refine zab rfl rfl rfl (zah [] [] [] rfl (ev1 rfl) (ec (ev1 rfl) (ec (ev1 rfl) en)) rfl rfl (us_Stamp o.kd) rfl rfl rfl rfl rfl rfl) ?_
  refine zae ?_
  refine dwp_if_f rfl (by simp; omega) ?_
  refine zak ?_
  refine zaf ?_
  refine zaf ?_
  refine zac ?_
  refine zab rfl rfl rfl (zap rfl fo68_1 (ev1 rfl)) ?_
  refine zab rfl rfl rfl (zav rfl tb3 (ev1 rfl) rfl rfl) ?_
  refine zab rfl rfl rfl (zah [] [] [] rfl (ev1 rfl) (ec (ev1 rfl) (ec (ev1 rfl) en)) rfl rfl (us_Target o.kd) rfl rfl rfl rfl rfl rfl) ?_
  refine zae ?_
  refine dwp_if_t rfl (by simp; omega) ?_
  refine zac ?_
  refine zab rfl rfl rfl (zap rfl fo68_9 (ev1 rfl)) ?_
  refine zab rfl rfl rfl (op_ldmp rfl tb61 (ev1 rfl) rfl rfl rfl) ?_
  refine zab rfl rfl rfl (zap rfl fo68_9 (ev1 rfl)) ?_
  refine zax rfl rfl (op_stmp rfl tb61 (ev1 rfl) (ev1 rfl) rfl rfl rfl rfl rfl) (by simp only [upd, za, zaa]; exact rfl) ?_
  refine zae ?_
  refine zaf ?_
  refine zac ?_
  refine zab rfl rfl rfl (op_ldmw rfl tb68 (ev1 rfl) rfl rfl) ?_
  refine zax rfl rfl (op_stam rfl tb68 (ev1 rfl) (ev1 rfl) rfl rfl rfl rfl) (by simp only [upd, za, zaa]; exact rfl) ?_
  refine zae ?_
  refine zau ?_
  refine kend0 (rs1 rfl (rv_mw tb68 rfl rfl rfl)) rfl ?_
  rfl
theorem plain_7 (o : OpM) (hk : o.kd = 7) : DFun Tryz.prog 84 [.agg (opD o)] [] (.agg (opD (plM 7 o))) [] := by
  have h := (plv_7 o (Or.inl hk)).wk wkPl
  rw [hk] at h
  exact h
theorem plain_8 (o : OpM) (hk : o.kd = 8) : DFun Tryz.prog 84 [.agg (opD o)] [] (.agg (opD (plM 8 o))) [] := by
  have h := (plv_7 o (Or.inr hk)).wk wkPl
  rw [hk] at h
  exact h
set_option maxRecDepth 4000 in
set_option maxHeartbeats 1000000 in
theorem opSame_d (a b : OpM) : DFun Tryz.prog 83 [.agg (opD a), .agg (opD b)] [] (.val (.bool (sameO a b))) [] := by
  refine zba (N := 71) 0 (by kernel_rfl) Tryz.func83 rfl rfl rfl (by simp only [fr0, Nat.zero_add, Nat.reduceAdd]; exact rfl) rfl fun s0 hs0 => ?_
  refine zaf ?_
  refine zaj 2 (by simp only [holes, List.cons_append, List.nil_append]; exact rfl) ?_
  refine zac ?_
  refine zam rfl rfl rfl (op_boxam 0 rfl (ev1 rfl) rfl) (by simp only [upd, za, zaa]; exact rfl) ?_
  refine zam rfl rfl rfl (op_boxam 1 rfl (ev1 rfl) rfl) (by simp only [upd, za, zaa]; exact rfl) ?_
  refine zab rfl rfl rfl (zad (.inr rfl) (ev1 rfl)) ?_
  refine zae ?_
  refine zaf ?_
  refine zaf ?_
  refine zac ?_
  refine zab rfl rfl rfl (zap rfl fo68_0 (ev1 rfl)) ?_
  refine zab rfl rfl rfl (op_ldmv (R := [_, _, _]) rfl tb61 (ev1 rfl) rfl rfl rfl) ?_
  refine zab rfl rfl rfl (zap rfl fo68_0 (ev1 rfl)) ?_
  refine zab rfl rfl rfl (op_ldmv (R := [_, _, _]) rfl tb61 (ev1 rfl) rfl rfl rfl) ?_
  refine zab rfl rfl rfl (op_ner eq61 rfl gd61 tb61 (ev1 rfl) (ev1 rfl)) ?_
  refine zab rfl rfl rfl (zad (.inl rfl) (ev1 rfl)) ?_
  refine zag (zan rfl rfl rfl) rfl rfl rfl (zap rfl fo68_1 (ev1 rfl)) ?_
  refine zag (zan rfl rfl rfl) rfl rfl rfl (zav rfl tb3 (ev2 rfl) rfl rfl) ?_
  refine zag (zan rfl rfl rfl) rfl rfl rfl (zap rfl fo68_1 (ev1 rfl)) ?_
  refine zag (zan rfl rfl rfl) rfl rfl rfl (zav rfl tb3 (ev2 rfl) rfl rfl) ?_
  refine zag (zan rfl rfl rfl) rfl rfl rfl (op_neq rfl (ev2 rfl) (ev2 rfl)) ?_
  refine zab rfl rfl rfl (op_or rfl (ev1 rfl) (ev3 rfl id)) ?_
  refine zab rfl rfl rfl (zad (.inl rfl) (ev1 rfl)) ?_
  refine zag (zan rfl rfl rfl) rfl rfl rfl (zap rfl fo68_2 (ev1 rfl)) ?_
  refine zag (zan rfl rfl rfl) rfl rfl rfl (zav rfl tb3 (ev2 rfl) rfl rfl) ?_
  refine zag (zan rfl rfl rfl) rfl rfl rfl (zap rfl fo68_2 (ev1 rfl)) ?_
  refine zag (zan rfl rfl rfl) rfl rfl rfl (zav rfl tb3 (ev2 rfl) rfl rfl) ?_
  refine zag (zan rfl rfl rfl) rfl rfl rfl (op_neq rfl (ev2 rfl) (ev2 rfl)) ?_
  refine zab rfl rfl rfl (op_or rfl (ev1 rfl) (ev3 rfl id)) ?_
  refine zab rfl rfl rfl (zad (.inl rfl) (ev1 rfl)) ?_
  refine zag (zan rfl rfl rfl) rfl rfl rfl (zap rfl fo68_3 (ev1 rfl)) ?_
  refine zag (zan rfl rfl rfl) rfl rfl rfl (zav rfl tb3 (ev2 rfl) rfl rfl) ?_
  refine zag (zan rfl rfl rfl) rfl rfl rfl (zap rfl fo68_3 (ev1 rfl)) ?_
  refine zag (zan rfl rfl rfl) rfl rfl rfl (zav rfl tb3 (ev2 rfl) rfl rfl) ?_
  refine zag (zan rfl rfl rfl) rfl rfl rfl (op_neq rfl (ev2 rfl) (ev2 rfl)) ?_
  refine zab rfl rfl rfl (op_or rfl (ev1 rfl) (ev3 rfl id)) ?_
  refine zab rfl rfl rfl (zad (.inl rfl) (ev1 rfl)) ?_
  refine zag (zan rfl rfl rfl) rfl rfl rfl (zap rfl fo68_4 (ev1 rfl)) ?_
  refine zag (zan rfl rfl rfl) rfl rfl rfl (zav rfl tb3 (ev2 rfl) rfl rfl) ?_
  refine zag (zan rfl rfl rfl) rfl rfl rfl (zap rfl fo68_4 (ev1 rfl)) ?_
  refine zag (zan rfl rfl rfl) rfl rfl rfl (zav rfl tb3 (ev2 rfl) rfl rfl) ?_
  refine zag (zan rfl rfl rfl) rfl rfl rfl (op_neq rfl (ev2 rfl) (ev2 rfl)) ?_
  refine zab rfl rfl rfl (op_or rfl (ev1 rfl) (ev3 rfl id)) ?_
  refine zab rfl rfl rfl (zad (.inl rfl) (ev1 rfl)) ?_
  refine zag (zan rfl rfl rfl) rfl rfl rfl (zap rfl fo68_5 (ev1 rfl)) ?_
  refine zag (zan rfl rfl rfl) rfl rfl rfl (zav rfl tb3 (ev2 rfl) rfl rfl) ?_
  refine zag (zan rfl rfl rfl) rfl rfl rfl (zap rfl fo68_5 (ev1 rfl)) ?_
  refine zag (zan rfl rfl rfl) rfl rfl rfl (zav rfl tb3 (ev2 rfl) rfl rfl) ?_
  refine zag (zan rfl rfl rfl) rfl rfl rfl (op_neq rfl (ev2 rfl) (ev2 rfl)) ?_
  refine zab rfl rfl rfl (op_or rfl (ev1 rfl) (ev3 rfl id)) ?_
  refine zae ?_
  refine zaw rfl (fun c1 => ?_) (fun c1 => ?_)
  · refine zaf ?_
    refine zac ?_
    refine zab rfl rfl rfl (zad (.inr rfl) (ev1 rfl)) ?_
    refine zae ?_
    refine zau ?_
    refine kend0 (rs1 rfl (rv_t rfl)) rfl ?_
    have hb : sameO a b = false := by
      unfold sameO
      rw [Bool.eq_false_iff]
      intro h
      simp_all
    rw [hb]
  · refine zak ?_
    refine zaf ?_
    refine zac ?_
    refine zab rfl rfl rfl (zap rfl fo68_6 (ev1 rfl)) ?_
    refine zab rfl rfl rfl (zav rfl tb3 (ev1 rfl) rfl rfl) ?_
    refine zab rfl rfl rfl (zap rfl fo68_6 (ev1 rfl)) ?_
    refine zab rfl rfl rfl (zav rfl tb3 (ev1 rfl) rfl rfl) ?_
    refine zab rfl rfl rfl (zb rfl (ev1 rfl) (ev1 rfl)) ?_
    refine zab rfl rfl rfl (zad (.inl rfl) (ev1 rfl)) ?_
    refine zag (zar rfl rfl rfl) rfl rfl rfl (zap rfl fo68_7 (ev1 rfl)) ?_
    refine zag (zar rfl rfl rfl) rfl rfl rfl (op_ldmv (R := [_, _, _, _]) rfl tb63 (ev2 rfl) rfl rfl rfl) ?_
    refine zag (zar rfl rfl rfl) rfl rfl rfl (zap rfl fo68_7 (ev1 rfl)) ?_
    refine zag (zar rfl rfl rfl) rfl rfl rfl (op_ldmv (R := [_, _, _, _]) rfl tb63 (ev2 rfl) rfl rfl rfl) ?_
    refine zag (zar rfl rfl rfl) rfl rfl rfl (op_eqr eq63 rfl gd63 tb63 (ev2 rfl) (ev2 rfl)) ?_
    refine zab rfl rfl rfl (zaz rfl (ev1 rfl) (ev3 rfl id)) ?_
    refine zab rfl rfl rfl (zad (.inl rfl) (ev1 rfl)) ?_
    refine zag (zar rfl rfl rfl) rfl rfl rfl (zap rfl fo68_9 (ev1 rfl)) ?_
    refine zag (zar rfl rfl rfl) rfl rfl rfl (op_ldmv (R := [_, _, _]) rfl tb61 (ev2 rfl) rfl rfl rfl) ?_
    refine zag (zar rfl rfl rfl) rfl rfl rfl (zap rfl fo68_9 (ev1 rfl)) ?_
    refine zag (zar rfl rfl rfl) rfl rfl rfl (op_ldmv (R := [_, _, _]) rfl tb61 (ev2 rfl) rfl rfl rfl) ?_
    refine zag (zar rfl rfl rfl) rfl rfl rfl (op_eqr eq61 rfl gd61 tb61 (ev2 rfl) (ev2 rfl)) ?_
    refine zab rfl rfl rfl (zaz rfl (ev1 rfl) (ev3 rfl id)) ?_
    refine zab rfl rfl rfl (zad (.inl rfl) (ev1 rfl)) ?_
    refine zag (zar rfl rfl rfl) rfl rfl rfl (zap rfl fo68_8 (ev1 rfl)) ?_
    refine zag (zar rfl rfl rfl) rfl rfl rfl (op_ldmp rfl tb66 (ev2 rfl) rfl rfl rfl) ?_
    refine zag (zar rfl rfl rfl) rfl rfl rfl (zap rfl fo68_8 (ev1 rfl)) ?_
    refine zag (zar rfl rfl rfl) rfl rfl rfl (op_ldmp rfl tb66 (ev2 rfl) rfl rfl rfl) ?_
    refine zag (zar rfl rfl rfl) rfl rfl rfl (zah [] [] [] rfl (ev1 rfl) (ec (ev2 rfl) (ec (ev2 rfl) en)) rfl rfl (refStSame_d _ _ _ _ _ _) rfl rfl rfl rfl rfl rfl) ?_
    refine zab rfl rfl rfl (zaz rfl (ev1 rfl) (ev3 rfl id)) ?_
    refine zab rfl rfl rfl (zad (.inr rfl) (ev1 rfl)) ?_
    refine zae ?_
    refine zau ?_
    refine kend0 (rs1 rfl (rv_t rfl)) rfl ?_
    have h0 : eqI a.id b.id = true ∧ a.kd = b.kd ∧ a.x = b.x ∧ a.y = b.y ∧ a.x2 = b.x2 ∧ a.y2 = b.y2 := by simp_all
    have hb : sameO a b = ((((a.sz == b.sz) && decide (a.co = b.co)) && eqI a.tg b.tg) && (((a.sw == b.sw) && (a.sh == b.sh)) && decide (a.px = b.px))) := by
      unfold sameO
      simp [h0]
    rw [hb]
theorem tg_ne {o : OpM} (h : ¬ zI3 = o.tg) : (o.tg = zI3) = False := eq_false fun e => h e.symm
set_option maxRecDepth 4000 in
set_option maxHeartbeats 1000000 in
theorem refo_gen (o : OpM) (hpl : DFun Tryz.prog 84 [.agg (opD o)] [] (.agg (opD (plM o.kd o))) []) (hk8 : o.kd = 1 ∨ o.kd = 2 ∨ o.kd = 3 ∨ o.kd = 4 ∨ o.kd = 5 ∨ o.kd = 6 ∨ o.kd = 7 ∨ o.kd = 8) (hi : mayR o.id = true) : DFun Tryz.prog 71 [.agg (opD o)] [] (.val (.bool (opB o))) [] := by
  refine zba (N := 86) 0 (by kernel_rfl) Tryz.func71 rfl rfl rfl (by simp only [fr0, Nat.zero_add, Nat.reduceAdd]; exact rfl) rfl fun s0 hs0 => ?_
  refine zaf ?_
  refine zaj 1 (by simp only [holes, List.cons_append, List.nil_append]; exact rfl) ?_
  refine zac ?_
  refine zam rfl rfl rfl (op_boxam 0 rfl (ev1 rfl) rfl) (by simp only [upd, za, zaa]; exact rfl) ?_
  refine zab rfl rfl rfl (zad (.inr rfl) (ev1 rfl)) ?_
  refine zae ?_
  refine zaf ?_
  refine zaf ?_
  refine dwp_draw [([], []), ([0], []), ([], []), ([], []), ([], []), ([], []), ([0], []), ([], []), ([], []), ([], []), ([], []), ([0], []), ([], []), ([], []), ([], []), ([0], []), ([], []), ([0], []), ([], []), ([], []), ([], [])] mixed (by kernel_rfl) ?_
  refine lex_r rfl rfl (zap rfl fo68_0 (ev1 rfl)) ?_
  refine lex_r rfl rfl (op_ldmv (R := [_, _, _]) rfl tb61 (ev1 rfl) rfl rfl rfl) ?_
  refine lex_r rfl rfl (zah [] [] [] rfl (ev1 rfl) (ec (ev1 rfl) en) rfl rfl (refRight_d _) rfl rfl rfl rfl rfl rfl) ?_
  refine lex_r rfl rfl ((op_not rfl (ev1 rfl)).cast (d' := .val (.bool false)) (by rw [hi]; rfl)) ?_
  refine lex_r rfl rfl (zad (.inl rfl) (ev1 rfl)) ?_
  refine lex_k (zan (b := false) rfl rfl rfl) rfl rfl (zap rfl fo68_1 (ev1 rfl)) rfl (by simp only [upd, za, zaa]; exact rfl) ?_
  refine lex_k (zan (b := false) rfl rfl rfl) rfl rfl (zav rfl tb3 (ev2 rfl) rfl rfl) rfl (by simp only [upd, za, zaa]; exact rfl) ?_
  refine lex_k (zan (b := false) rfl rfl rfl) rfl rfl ((op_lss rfl (ev2 rfl) (ev1 rfl)).cast (d' := .val (.bool false)) (by rw [decide_eq_false (show ¬ o.kd < 1 by omega)])) rfl (by simp only [upd, za, zaa]; exact rfl) ?_
  refine lex_r rfl rfl ((op_or rfl (ev1 rfl) (ev3 rfl (fun _ => rfl))).cast (d' := .val (.bool false)) (by rfl)) ?_
  refine lex_r rfl rfl (zad (.inl rfl) (ev1 rfl)) ?_
  refine lex_k (zan (b := false) rfl rfl rfl) rfl rfl (zap rfl fo68_1 (ev1 rfl)) rfl (by simp only [upd, za, zaa]; exact rfl) ?_
  refine lex_k (zan (b := false) rfl rfl rfl) rfl rfl (zav rfl tb3 (ev2 rfl) rfl rfl) rfl (by simp only [upd, za, zaa]; exact rfl) ?_
  refine lex_k (zan (b := false) rfl rfl rfl) rfl rfl ((op_gtr rfl (ev2 rfl) (ev1 rfl)).cast (d' := .val (.bool false)) (by rw [decide_eq_false (show ¬ 8 < o.kd by omega)])) rfl (by simp only [upd, za, zaa]; exact rfl) ?_
  refine lex_r rfl rfl ((op_or rfl (ev1 rfl) (ev3 rfl (fun _ => rfl))).cast (d' := .val (.bool false)) (by rfl)) ?_
  refine lex_r rfl rfl (zad (.inl rfl) (ev1 rfl)) ?_
  refine lex_k (zan (b := false) rfl rfl rfl) rfl rfl (op_ldmw rfl tb68 (ev1 rfl) rfl rfl) rfl (by simp only [upd, za, zaa]; exact rfl) ?_
  refine lex_k (zan (b := false) rfl rfl rfl) rfl rfl (zah [] [] [] rfl (ev1 rfl) (ec (ev2 rfl) en) rfl rfl (hpl) rfl rfl rfl rfl rfl rfl) rfl (by simp only [upd, za, zaa]; exact rfl) ?_
  refine lex_k (zan (b := false) rfl rfl rfl) rfl rfl (op_ldmw rfl tb68 (ev1 rfl) rfl rfl) rfl (by simp only [upd, za, zaa]; exact rfl) ?_
  refine lex_k (zan (b := false) rfl rfl rfl) rfl rfl (zah [] [] [] rfl (ev1 rfl) (ec (ev2 rfl) (ec (ev2 rfl) en)) rfl rfl (opSame_d (plM o.kd o) o) rfl rfl rfl rfl rfl rfl) rfl (by simp only [upd, za, zaa]; exact rfl) ?_
  refine lex_k (zan (b := false) rfl rfl rfl) rfl rfl (op_not rfl (ev2 rfl)) rfl (by simp only [upd, za, zaa]; exact rfl) ?_
  refine lex_r rfl rfl (op_or rfl (ev1 rfl) (ev3 rfl (fun _ => rfl))) ?_
  refine lex_nil ?_
  refine zaw rfl (fun c1 => ?_) (fun c1 => ?_)
  · try simp only [yg, ya, beq_iff_eq, bne_iff_ne, yb, yc, yf, ye, yh, yi, yd, ne_eq, yj, Int.not_lt, Int.not_le] at c1
    refine zaf ?_
    refine zac ?_
    refine zab rfl rfl rfl (zad (.inr rfl) (ev1 rfl)) ?_
    refine zae ?_
    refine zau ?_
    refine kend0 (rs1 rfl (rv_t rfl)) rfl ?_
    have hb : opB o = false := by
      unfold opB
      rcases hk8 with hk | hk | hk | hk | hk | hk | hk | hk <;> simp_all [mostK, sameO, plM, eqI_dec, drB]
      all_goals (first | done | (intros; omega) | (intros; rcases (by assumption : _ ∨ stB o.sw o.sh o.px = false) with h | h <;> first | omega | exact h) | (intros; exact fun h => absurd h.symm (by assumption)) | (intros; exact fun h => (by assumption : ¬ zI3 = o.tg) h.symm) | (intros; simp_all [tg_ne]; done) | (intros; rw [tg_ne (by assumption)]; exact id))
    rw [hb]
  · try simp only [yg, ya, beq_iff_eq, bne_iff_ne, yb, yc, yf, ye, yh, yi, yd, ne_eq, yj, Int.not_lt, Int.not_le] at c1
    refine zak ?_
    refine zaf ?_
    refine zaf ?_
    refine zac ?_
    refine zab rfl rfl rfl (zap rfl fo68_2 (ev1 rfl)) ?_
    refine zab rfl rfl rfl (zav rfl tb3 (ev1 rfl) rfl rfl) ?_
    refine zab rfl rfl rfl (zap rfl fo68_3 (ev1 rfl)) ?_
    refine zab rfl rfl rfl (zav rfl tb3 (ev1 rfl) rfl rfl) ?_
    refine zab rfl rfl rfl (zap rfl fo68_4 (ev1 rfl)) ?_
    refine zab rfl rfl rfl (zav rfl tb3 (ev1 rfl) rfl rfl) ?_
    refine zab rfl rfl rfl (zap rfl fo68_5 (ev1 rfl)) ?_
    refine zab rfl rfl rfl (zav rfl tb3 (ev1 rfl) rfl rfl) ?_
    refine zab rfl rfl rfl (op_bs (ps := [(0, .tmp 28), (1, .tmp 30), (2, .tmp 32), (3, .tmp 34)]) rfl sl31 zr3 rfl (vc (ev1 rfl) (vc (ev1 rfl) (vc (ev1 rfl) (vc (ev1 rfl) vn)))) rfl (by decide) (by decide)) ?_
    refine zab rfl rfl rfl ((op_len rfl sl31 (ev1 rfl)).cast (d' := .val (.int .i64 4)) (by rfl)) ?_
    refine zab rfl rfl rfl (zad (.inl rfl) (ev1 rfl)) ?_
    refine zae ?_
    refine zat ?_
    refine dwp_dloop (dloop_step ?_)
    refine zaf ?_
    refine zac ?_
    refine zab rfl rfl rfl ((op_lss rfl (ev1 rfl) (ev1 rfl)).cast (d' := .val (.bool true)) (by kernel_rfl)) ?_
    refine zae ?_
    refine zaf ?_
    refine dwp_if_t rfl (rfl) ?_
    refine zak ?_
    refine zaf ?_
    refine zat ?_
    refine zaf ?_
    refine zac ?_
    refine zab rfl rfl rfl (op_ixsr (l := [o.x, o.y, o.x2, o.y2]) (en := inI) (j := 0) rfl sl31 (ev1 rfl) (ev1 rfl) (fun _ => rfl) (by decide) rfl (Nat.lt_of_succ_le (Nat.le_of_ble_eq_true rfl))) ?_
    refine zab rfl rfl rfl (op_ldod rfl tb3 (ev1 rfl) rfl) ?_
    refine zab rfl rfl rfl (zad (.inr rfl) (ev1 rfl)) ?_
    refine zae ?_
    refine zaf ?_
    refine zac ?_
    refine zab rfl rfl rfl (zad (.inl rfl) (ev1 rfl)) ?_
    refine zab rfl rfl rfl (op_lss rfl (ev1 rfl) (ev1 rfl)) ?_
    refine zab rfl rfl rfl (zad (.inl rfl) (ev1 rfl)) ?_
    refine zag (zan rfl rfl rfl) rfl rfl rfl (zad (.inl rfl) (ev1 rfl)) ?_
    refine zag (zan rfl rfl rfl) rfl rfl rfl (op_gtr rfl (ev2 rfl) (ev1 rfl)) ?_
    refine zab rfl rfl rfl (op_or rfl (ev1 rfl) (ev3 rfl id)) ?_
    refine zae ?_
    refine zaw rfl (fun c3 => ?_) (fun c3 => ?_)
    · try simp only [yg, ya, beq_iff_eq, bne_iff_ne, yb, yc, yf, ye, yh, yi, yd, ne_eq, yj, Int.not_lt, Int.not_le] at c3
      refine zaf ?_
      refine zac ?_
      refine zab rfl rfl rfl (zad (.inr rfl) (ev1 rfl)) ?_
      refine zae ?_
      refine zau ?_
      refine kend0 (rs1 rfl (rv_t rfl)) rfl ?_
      have hb : opB o = false := by
        unfold opB
        rcases hk8 with hk | hk | hk | hk | hk | hk | hk | hk <;> simp_all [sameO, plM, drB]
        all_goals (intros; omega)
      rw [hb]
    · try simp only [yg, ya, beq_iff_eq, bne_iff_ne, yb, yc, yf, ye, yh, yi, yd, ne_eq, yj, Int.not_lt, Int.not_le] at c3
      refine zak ?_
      refine zac ?_
      refine zab rfl rfl rfl ((op_add' rfl (ev1 rfl) (ev1 rfl) (fun _ => IntWalk.i64_in _ (by omega))).cast (d' := .val (.int .i64 1)) (by kernel_rfl)) ?_
      refine zab rfl rfl rfl (zad (.inl rfl) (ev1 rfl)) ?_
      refine zae ?_
      refine dloop_step ?_
      refine zaf ?_
      refine zac ?_
      refine zab rfl rfl rfl ((op_lss rfl (ev1 rfl) (ev1 rfl)).cast (d' := .val (.bool true)) (by kernel_rfl)) ?_
      refine zae ?_
      refine zaf ?_
      refine dwp_if_t rfl (rfl) ?_
      refine zak ?_
      refine zaf ?_
      refine zat ?_
      refine zaf ?_
      refine zac ?_
      refine zab rfl rfl rfl (op_ixsr (l := [o.x, o.y, o.x2, o.y2]) (en := inI) (j := 1) rfl sl31 (ev1 rfl) (ev1 rfl) (fun _ => rfl) (by decide) rfl (Nat.lt_of_succ_le (Nat.le_of_ble_eq_true rfl))) ?_
      refine zab rfl rfl rfl (op_ldod rfl tb3 (ev1 rfl) rfl) ?_
      refine zab rfl rfl rfl (zad (.inr rfl) (ev1 rfl)) ?_
      refine zae ?_
      refine zaf ?_
      refine zac ?_
      refine zab rfl rfl rfl (zad (.inl rfl) (ev1 rfl)) ?_
      refine zab rfl rfl rfl (op_lss rfl (ev1 rfl) (ev1 rfl)) ?_
      refine zab rfl rfl rfl (zad (.inl rfl) (ev1 rfl)) ?_
      refine zag (zan rfl rfl rfl) rfl rfl rfl (zad (.inl rfl) (ev1 rfl)) ?_
      refine zag (zan rfl rfl rfl) rfl rfl rfl (op_gtr rfl (ev2 rfl) (ev1 rfl)) ?_
      refine zab rfl rfl rfl (op_or rfl (ev1 rfl) (ev3 rfl id)) ?_
      refine zae ?_
      refine zaw rfl (fun c5 => ?_) (fun c5 => ?_)
      · try simp only [yg, ya, beq_iff_eq, bne_iff_ne, yb, yc, yf, ye, yh, yi, yd, ne_eq, yj, Int.not_lt, Int.not_le] at c5
        refine zaf ?_
        refine zac ?_
        refine zab rfl rfl rfl (zad (.inr rfl) (ev1 rfl)) ?_
        refine zae ?_
        refine zau ?_
        refine kend0 (rs1 rfl (rv_t rfl)) rfl ?_
        have hb : opB o = false := by
          unfold opB
          rcases hk8 with hk | hk | hk | hk | hk | hk | hk | hk <;> simp_all [sameO, plM, drB]
          all_goals (intros; omega)
        rw [hb]
      · try simp only [yg, ya, beq_iff_eq, bne_iff_ne, yb, yc, yf, ye, yh, yi, yd, ne_eq, yj, Int.not_lt, Int.not_le] at c5
        refine zak ?_
        refine zac ?_
        refine zab rfl rfl rfl ((op_add' rfl (ev1 rfl) (ev1 rfl) (fun _ => IntWalk.i64_in _ (by omega))).cast (d' := .val (.int .i64 2)) (by kernel_rfl)) ?_
        refine zab rfl rfl rfl (zad (.inl rfl) (ev1 rfl)) ?_
        refine zae ?_
        refine dloop_step ?_
        refine zaf ?_
        refine zac ?_
        refine zab rfl rfl rfl ((op_lss rfl (ev1 rfl) (ev1 rfl)).cast (d' := .val (.bool true)) (by kernel_rfl)) ?_
        refine zae ?_
        refine zaf ?_
        refine dwp_if_t rfl (rfl) ?_
        refine zak ?_
        refine zaf ?_
        refine zat ?_
        refine zaf ?_
        refine zac ?_
        refine zab rfl rfl rfl (op_ixsr (l := [o.x, o.y, o.x2, o.y2]) (en := inI) (j := 2) rfl sl31 (ev1 rfl) (ev1 rfl) (fun _ => rfl) (by decide) rfl (Nat.lt_of_succ_le (Nat.le_of_ble_eq_true rfl))) ?_
        refine zab rfl rfl rfl (op_ldod rfl tb3 (ev1 rfl) rfl) ?_
        refine zab rfl rfl rfl (zad (.inr rfl) (ev1 rfl)) ?_
        refine zae ?_
        refine zaf ?_
        refine zac ?_
        refine zab rfl rfl rfl (zad (.inl rfl) (ev1 rfl)) ?_
        refine zab rfl rfl rfl (op_lss rfl (ev1 rfl) (ev1 rfl)) ?_
        refine zab rfl rfl rfl (zad (.inl rfl) (ev1 rfl)) ?_
        refine zag (zan rfl rfl rfl) rfl rfl rfl (zad (.inl rfl) (ev1 rfl)) ?_
        refine zag (zan rfl rfl rfl) rfl rfl rfl (op_gtr rfl (ev2 rfl) (ev1 rfl)) ?_
        refine zab rfl rfl rfl (op_or rfl (ev1 rfl) (ev3 rfl id)) ?_
        refine zae ?_
        refine zaw rfl (fun c7 => ?_) (fun c7 => ?_)
        · try simp only [yg, ya, beq_iff_eq, bne_iff_ne, yb, yc, yf, ye, yh, yi, yd, ne_eq, yj, Int.not_lt, Int.not_le] at c7
          refine zaf ?_
          refine zac ?_
          refine zab rfl rfl rfl (zad (.inr rfl) (ev1 rfl)) ?_
          refine zae ?_
          refine zau ?_
          refine kend0 (rs1 rfl (rv_t rfl)) rfl ?_
          have hb : opB o = false := by
            unfold opB
            rcases hk8 with hk | hk | hk | hk | hk | hk | hk | hk <;> simp_all [sameO, plM, drB]
            all_goals (intros; omega)
          rw [hb]
        · try simp only [yg, ya, beq_iff_eq, bne_iff_ne, yb, yc, yf, ye, yh, yi, yd, ne_eq, yj, Int.not_lt, Int.not_le] at c7
          refine zak ?_
          refine zac ?_
          refine zab rfl rfl rfl ((op_add' rfl (ev1 rfl) (ev1 rfl) (fun _ => IntWalk.i64_in _ (by omega))).cast (d' := .val (.int .i64 3)) (by kernel_rfl)) ?_
          refine zab rfl rfl rfl (zad (.inl rfl) (ev1 rfl)) ?_
          refine zae ?_
          refine dloop_step ?_
          refine zaf ?_
          refine zac ?_
          refine zab rfl rfl rfl ((op_lss rfl (ev1 rfl) (ev1 rfl)).cast (d' := .val (.bool true)) (by kernel_rfl)) ?_
          refine zae ?_
          refine zaf ?_
          refine dwp_if_t rfl (rfl) ?_
          refine zak ?_
          refine zaf ?_
          refine zat ?_
          refine zaf ?_
          refine zac ?_
          refine zab rfl rfl rfl (op_ixsr (l := [o.x, o.y, o.x2, o.y2]) (en := inI) (j := 3) rfl sl31 (ev1 rfl) (ev1 rfl) (fun _ => rfl) (by decide) rfl (Nat.lt_of_succ_le (Nat.le_of_ble_eq_true rfl))) ?_
          refine zab rfl rfl rfl (op_ldod rfl tb3 (ev1 rfl) rfl) ?_
          refine zab rfl rfl rfl (zad (.inr rfl) (ev1 rfl)) ?_
          refine zae ?_
          refine zaf ?_
          refine zac ?_
          refine zab rfl rfl rfl (zad (.inl rfl) (ev1 rfl)) ?_
          refine zab rfl rfl rfl (op_lss rfl (ev1 rfl) (ev1 rfl)) ?_
          refine zab rfl rfl rfl (zad (.inl rfl) (ev1 rfl)) ?_
          refine zag (zan rfl rfl rfl) rfl rfl rfl (zad (.inl rfl) (ev1 rfl)) ?_
          refine zag (zan rfl rfl rfl) rfl rfl rfl (op_gtr rfl (ev2 rfl) (ev1 rfl)) ?_
          refine zab rfl rfl rfl (op_or rfl (ev1 rfl) (ev3 rfl id)) ?_
          refine zae ?_
          refine zaw rfl (fun c9 => ?_) (fun c9 => ?_)
          · try simp only [yg, ya, beq_iff_eq, bne_iff_ne, yb, yc, yf, ye, yh, yi, yd, ne_eq, yj, Int.not_lt, Int.not_le] at c9
            refine zaf ?_
            refine zac ?_
            refine zab rfl rfl rfl (zad (.inr rfl) (ev1 rfl)) ?_
            refine zae ?_
            refine zau ?_
            refine kend0 (rs1 rfl (rv_t rfl)) rfl ?_
            have hb : opB o = false := by
              unfold opB
              rcases hk8 with hk | hk | hk | hk | hk | hk | hk | hk <;> simp_all [sameO, plM, drB]
              all_goals (intros; omega)
            rw [hb]
          · try simp only [yg, ya, beq_iff_eq, bne_iff_ne, yb, yc, yf, ye, yh, yi, yd, ne_eq, yj, Int.not_lt, Int.not_le] at c9
            refine zak ?_
            refine zac ?_
            refine zab rfl rfl rfl ((op_add' rfl (ev1 rfl) (ev1 rfl) (fun _ => IntWalk.i64_in _ (by omega))).cast (d' := .val (.int .i64 4)) (by kernel_rfl)) ?_
            refine zab rfl rfl rfl (zad (.inl rfl) (ev1 rfl)) ?_
            refine zae ?_
            refine dloop_step ?_
            refine zaf ?_
            refine zac ?_
            refine zab rfl rfl rfl ((op_lss rfl (ev1 rfl) (ev1 rfl)).cast (d' := .val (.bool false)) (by kernel_rfl)) ?_
            refine zae ?_
            refine zaf ?_
            refine dwp_if_f rfl (rfl) ?_
            refine dwp_exit ?_
            refine zaf ?_
            refine zac ?_
            refine zab rfl rfl rfl (zad (.inr rfl) (ev1 rfl)) ?_
            refine zae ?_
            refine zaf ?_
            refine zaf ?_
            refine zac ?_
            refine zab rfl rfl rfl (zap rfl fo68_1 (ev1 rfl)) ?_
            refine zab rfl rfl rfl (zav rfl tb3 (ev1 rfl) rfl rfl) ?_
            refine zab rfl rfl rfl (zb rfl (ev1 rfl) (ev1 rfl)) ?_
            refine zae ?_
            refine zaw rfl (fun c11 => ?_) (fun c11 => ?_)
            · try simp only [yg, ya, beq_iff_eq, bne_iff_ne, yb, yc, yf, ye, yh, yi, yd, ne_eq, yj, Int.not_lt, Int.not_le] at c11
              refine zac ?_
              refine zab rfl rfl rfl (zad (.inr rfl) (ev1 rfl)) ?_
              refine zae ?_
              refine zaf ?_
              refine zaf ?_
              refine zac ?_
              refine zab rfl rfl rfl (zap rfl fo68_6 (ev1 rfl)) ?_
              refine zab rfl rfl rfl (zav rfl tb3 (ev1 rfl) rfl rfl) ?_
              refine zab rfl rfl rfl (op_lss rfl (ev1 rfl) (ev1 rfl)) ?_
              refine zab rfl rfl rfl (zad (.inl rfl) (ev1 rfl)) ?_
              refine zag (zan rfl rfl rfl) rfl rfl rfl (zap rfl fo68_6 (ev1 rfl)) ?_
              refine zag (zan rfl rfl rfl) rfl rfl rfl (zav rfl tb3 (ev2 rfl) rfl rfl) ?_
              refine zag (zan rfl rfl rfl) rfl rfl rfl (zad (.inl rfl) (ev1 rfl)) ?_
              refine zag (zan rfl rfl rfl) rfl rfl rfl (op_gtr rfl (ev2 rfl) (ev2 rfl)) ?_
              refine zab rfl rfl rfl (op_or rfl (ev1 rfl) (ev3 rfl id)) ?_
              refine zab rfl rfl rfl (zad (.inl rfl) (ev1 rfl)) ?_
              refine zag (zan rfl rfl rfl) rfl rfl rfl (zap rfl fo68_1 (ev1 rfl)) ?_
              refine zag (zan rfl rfl rfl) rfl rfl rfl (zav rfl tb3 (ev2 rfl) rfl rfl) ?_
              refine zag (zan rfl rfl rfl) rfl rfl rfl (zb rfl (ev2 rfl) (ev1 rfl)) ?_
              refine zag (zan rfl rfl rfl) rfl rfl rfl (zad (.inl rfl) (ev2 rfl)) ?_
              refine zag (zay rfl rfl rfl) rfl rfl rfl (zap rfl fo68_8 (ev1 rfl)) ?_
              refine zag (zay rfl rfl rfl) rfl rfl rfl (op_ldmp rfl tb66 (ev2 rfl) rfl rfl rfl) ?_
              refine zag (zay rfl rfl rfl) rfl rfl rfl (zah [] [] [] rfl (ev1 rfl) (ec (ev2 rfl) en) rfl rfl (refSt_d _ _ _) rfl rfl rfl rfl rfl rfl) ?_
              refine zag (zay rfl rfl rfl) rfl rfl rfl (op_not rfl (ev2 rfl)) ?_
              refine zag (zan rfl rfl rfl) rfl rfl rfl (zaz rfl (ev2 rfl) (ev2 rfl)) ?_
              refine zab rfl rfl rfl (op_or rfl (ev1 rfl) (ev3 rfl id)) ?_
              refine zae ?_
              refine zaw rfl (fun c12 => ?_) (fun c12 => ?_)
              · try simp only [yg, ya, beq_iff_eq, bne_iff_ne, yb, yc, yf, ye, yh, yi, yd, ne_eq, yj, Int.not_lt, Int.not_le] at c12
                refine zaf ?_
                refine zac ?_
                refine zab rfl rfl rfl (zad (.inr rfl) (ev1 rfl)) ?_
                refine zae ?_
                refine zau ?_
                refine kend0 (rs1 rfl (rv_t rfl)) rfl ?_
                have hb : opB o = false := by
                  unfold opB
                  rcases hk8 with hk | hk | hk | hk | hk | hk | hk | hk <;> simp_all [mostK, sameO, plM, eqI_dec, drB]
                  all_goals (first | done | (intros; omega) | (intros; rcases (by assumption : _ ∨ stB o.sw o.sh o.px = false) with h | h <;> first | omega | exact h) | (intros; exact fun h => absurd h.symm (by assumption)) | (intros; exact fun h => (by assumption : ¬ zI3 = o.tg) h.symm) | (intros; simp_all [tg_ne]; done) | (intros; rw [tg_ne (by assumption)]; exact id))
                rw [hb]
              · try simp only [yg, ya, beq_iff_eq, bne_iff_ne, yb, yc, yf, ye, yh, yi, yd, ne_eq, yj, Int.not_lt, Int.not_le] at c12
                refine zak ?_
                refine zaf ?_
                refine zac ?_
                refine zab rfl rfl rfl (zap rfl fo68_1 (ev1 rfl)) ?_
                refine zab rfl rfl rfl (zav rfl tb3 (ev1 rfl) rfl rfl) ?_
                refine zab rfl rfl rfl (op_lss rfl (ev1 rfl) (ev1 rfl)) ?_
                refine zab rfl rfl rfl (zad (.inl rfl) (ev1 rfl)) ?_
                refine zag (zan rfl rfl rfl) rfl rfl rfl (zap rfl fo68_9 (ev1 rfl)) ?_
                refine zag (zan rfl rfl rfl) rfl rfl rfl (op_ldmv (R := [_, _, _]) rfl tb61 (ev2 rfl) rfl rfl rfl) ?_
                refine zag (zan rfl rfl rfl) rfl rfl rfl (zah [] [] [] rfl (ev1 rfl) (ec (ev2 rfl) en) rfl rfl (refRight_d _) rfl rfl rfl rfl rfl rfl) ?_
                refine zag (zan rfl rfl rfl) rfl rfl rfl (zad (.inl rfl) (ev2 rfl)) ?_
                refine zag (zay rfl rfl rfl) rfl rfl rfl (zap rfl fo68_9 (ev1 rfl)) ?_
                refine zag (zay rfl rfl rfl) rfl rfl rfl (op_ldmv (R := [_, _, _]) rfl tb61 (ev2 rfl) rfl rfl rfl) ?_
                refine zag (zay rfl rfl rfl) rfl rfl rfl (zap rfl fo68_0 (ev1 rfl)) ?_
                refine zag (zay rfl rfl rfl) rfl rfl rfl (op_ldmv (R := [_, _, _]) rfl tb61 (ev2 rfl) rfl rfl rfl) ?_
                refine zag (zay rfl rfl rfl) rfl rfl rfl (zah [] [] [] rfl (ev1 rfl) (ec (ev2 rfl) (ec (ev2 rfl) en)) rfl rfl (refLess_d _ _) rfl rfl rfl rfl rfl rfl) ?_
                refine zag (zan rfl rfl rfl) rfl rfl rfl (zaz rfl (ev2 rfl) (ev2 rfl)) ?_
                refine zab rfl rfl rfl (op_or rfl (ev1 rfl) (ev3 rfl id)) ?_
                refine zab rfl rfl rfl (zad (.inr rfl) (ev1 rfl)) ?_
                refine zae ?_
                refine zau ?_
                refine kend0 (rs1 rfl (rv_t rfl)) rfl ?_
                have hb : opB o = (decide (o.kd < 7) || (mayR o.tg && lessR o.tg o.id)) := by
                  unfold opB
                  rcases hk8 with hk | hk | hk | hk | hk | hk | hk | hk <;> simp_all [mostK, sameO, plM, eqI_dec, drB]
                  all_goals (first | done | (intros; omega) | (intros; rcases (by assumption : _ ∨ stB o.sw o.sh o.px = false) with h | h <;> first | omega | exact h) | (intros; exact fun h => absurd h.symm (by assumption)) | (intros; exact fun h => (by assumption : ¬ zI3 = o.tg) h.symm) | (intros; simp_all [tg_ne]; done) | (intros; rw [tg_ne (by assumption)]; exact id))
                rw [hb]
            · try simp only [yg, ya, beq_iff_eq, bne_iff_ne, yb, yc, yf, ye, yh, yi, yd, ne_eq, yj, Int.not_lt, Int.not_le] at c11
              refine zak ?_
              refine zaf ?_
              refine zaf ?_
              refine zac ?_
              refine zab rfl rfl rfl (zap rfl fo68_6 (ev1 rfl)) ?_
              refine zab rfl rfl rfl (zav rfl tb3 (ev1 rfl) rfl rfl) ?_
              refine zab rfl rfl rfl (op_lss rfl (ev1 rfl) (ev1 rfl)) ?_
              refine zab rfl rfl rfl (zad (.inl rfl) (ev1 rfl)) ?_
              refine zag (zan rfl rfl rfl) rfl rfl rfl (zap rfl fo68_6 (ev1 rfl)) ?_
              refine zag (zan rfl rfl rfl) rfl rfl rfl (zav rfl tb3 (ev2 rfl) rfl rfl) ?_
              refine zag (zan rfl rfl rfl) rfl rfl rfl (zad (.inl rfl) (ev1 rfl)) ?_
              refine zag (zan rfl rfl rfl) rfl rfl rfl (op_gtr rfl (ev2 rfl) (ev2 rfl)) ?_
              refine zab rfl rfl rfl (op_or rfl (ev1 rfl) (ev3 rfl id)) ?_
              refine zab rfl rfl rfl (zad (.inl rfl) (ev1 rfl)) ?_
              refine zag (zan rfl rfl rfl) rfl rfl rfl (zap rfl fo68_1 (ev1 rfl)) ?_
              refine zag (zan rfl rfl rfl) rfl rfl rfl (zav rfl tb3 (ev2 rfl) rfl rfl) ?_
              refine zag (zan rfl rfl rfl) rfl rfl rfl (zb rfl (ev2 rfl) (ev1 rfl)) ?_
              refine zag (zan rfl rfl rfl) rfl rfl rfl (zad (.inl rfl) (ev2 rfl)) ?_
              refine zag (zay rfl rfl rfl) rfl rfl rfl (zap rfl fo68_8 (ev1 rfl)) ?_
              refine zag (zay rfl rfl rfl) rfl rfl rfl (op_ldmp rfl tb66 (ev2 rfl) rfl rfl rfl) ?_
              refine zag (zay rfl rfl rfl) rfl rfl rfl (zah [] [] [] rfl (ev1 rfl) (ec (ev2 rfl) en) rfl rfl (refSt_d _ _ _) rfl rfl rfl rfl rfl rfl) ?_
              refine zag (zay rfl rfl rfl) rfl rfl rfl (op_not rfl (ev2 rfl)) ?_
              refine zag (zan rfl rfl rfl) rfl rfl rfl (zaz rfl (ev2 rfl) (ev2 rfl)) ?_
              refine zab rfl rfl rfl (op_or rfl (ev1 rfl) (ev3 rfl id)) ?_
              refine zae ?_
              refine zaw rfl (fun c13 => ?_) (fun c13 => ?_)
              · try simp only [yg, ya, beq_iff_eq, bne_iff_ne, yb, yc, yf, ye, yh, yi, yd, ne_eq, yj, Int.not_lt, Int.not_le] at c13
                refine zaf ?_
                refine zac ?_
                refine zab rfl rfl rfl (zad (.inr rfl) (ev1 rfl)) ?_
                refine zae ?_
                refine zau ?_
                refine kend0 (rs1 rfl (rv_t rfl)) rfl ?_
                have hb : opB o = false := by
                  unfold opB
                  rcases hk8 with hk | hk | hk | hk | hk | hk | hk | hk <;> simp_all [mostK, sameO, plM, eqI_dec, drB]
                  all_goals (first | done | (intros; omega) | (intros; rcases (by assumption : _ ∨ stB o.sw o.sh o.px = false) with h | h <;> first | omega | exact h) | (intros; exact fun h => absurd h.symm (by assumption)) | (intros; exact fun h => (by assumption : ¬ zI3 = o.tg) h.symm) | (intros; simp_all [tg_ne]; done) | (intros; rw [tg_ne (by assumption)]; exact id))
                rw [hb]
              · try simp only [yg, ya, beq_iff_eq, bne_iff_ne, yb, yc, yf, ye, yh, yi, yd, ne_eq, yj, Int.not_lt, Int.not_le] at c13
                refine zak ?_
                refine zaf ?_
                refine zac ?_
                refine zab rfl rfl rfl (zap rfl fo68_1 (ev1 rfl)) ?_
                refine zab rfl rfl rfl (zav rfl tb3 (ev1 rfl) rfl rfl) ?_
                refine zab rfl rfl rfl (op_lss rfl (ev1 rfl) (ev1 rfl)) ?_
                refine zab rfl rfl rfl (zad (.inl rfl) (ev1 rfl)) ?_
                refine zag (zan rfl rfl rfl) rfl rfl rfl (zap rfl fo68_9 (ev1 rfl)) ?_
                refine zag (zan rfl rfl rfl) rfl rfl rfl (op_ldmv (R := [_, _, _]) rfl tb61 (ev2 rfl) rfl rfl rfl) ?_
                refine zag (zan rfl rfl rfl) rfl rfl rfl (zah [] [] [] rfl (ev1 rfl) (ec (ev2 rfl) en) rfl rfl (refRight_d _) rfl rfl rfl rfl rfl rfl) ?_
                refine zag (zan rfl rfl rfl) rfl rfl rfl (zad (.inl rfl) (ev2 rfl)) ?_
                refine zag (zay rfl rfl rfl) rfl rfl rfl (zap rfl fo68_9 (ev1 rfl)) ?_
                refine zag (zay rfl rfl rfl) rfl rfl rfl (op_ldmv (R := [_, _, _]) rfl tb61 (ev2 rfl) rfl rfl rfl) ?_
                refine zag (zay rfl rfl rfl) rfl rfl rfl (zap rfl fo68_0 (ev1 rfl)) ?_
                refine zag (zay rfl rfl rfl) rfl rfl rfl (op_ldmv (R := [_, _, _]) rfl tb61 (ev2 rfl) rfl rfl rfl) ?_
                refine zag (zay rfl rfl rfl) rfl rfl rfl (zah [] [] [] rfl (ev1 rfl) (ec (ev2 rfl) (ec (ev2 rfl) en)) rfl rfl (refLess_d _ _) rfl rfl rfl rfl rfl rfl) ?_
                refine zag (zan rfl rfl rfl) rfl rfl rfl (zaz rfl (ev2 rfl) (ev2 rfl)) ?_
                refine zab rfl rfl rfl (op_or rfl (ev1 rfl) (ev3 rfl id)) ?_
                refine zab rfl rfl rfl (zad (.inr rfl) (ev1 rfl)) ?_
                refine zae ?_
                refine zau ?_
                refine kend0 (rs1 rfl (rv_t rfl)) rfl ?_
                have hb : opB o = (decide (o.kd < 7) || (mayR o.tg && lessR o.tg o.id)) := by
                  unfold opB
                  rcases hk8 with hk | hk | hk | hk | hk | hk | hk | hk <;> simp_all [mostK, sameO, plM, eqI_dec, drB]
                  all_goals (first | done | (intros; omega) | (intros; rcases (by assumption : _ ∨ stB o.sw o.sh o.px = false) with h | h <;> first | omega | exact h) | (intros; exact fun h => absurd h.symm (by assumption)) | (intros; exact fun h => (by assumption : ¬ zI3 = o.tg) h.symm) | (intros; simp_all [tg_ne]; done) | (intros; rw [tg_ne (by assumption)]; exact id))
                rw [hb]
set_option maxRecDepth 4000 in
set_option maxHeartbeats 1000000 in
theorem refo_bad (o : OpM) (hi : mayR o.id = false) : DFun Tryz.prog 71 [.agg (opD o)] [] (.val (.bool (opB o))) [] := by
  refine zba (N := 86) 0 (by kernel_rfl) Tryz.func71 rfl rfl rfl (by simp only [fr0, Nat.zero_add, Nat.reduceAdd]; exact rfl) rfl fun s0 hs0 => ?_
  refine zaf ?_
  refine zaj 1 (by simp only [holes, List.cons_append, List.nil_append]; exact rfl) ?_
  refine zac ?_
  refine zam rfl rfl rfl (op_boxam 0 rfl (ev1 rfl) rfl) (by simp only [upd, za, zaa]; exact rfl) ?_
  refine zab rfl rfl rfl (zad (.inr rfl) (ev1 rfl)) ?_
  refine zae ?_
  refine zaf ?_
  refine zaf ?_
  refine dwp_draw [([], []), ([0], []), ([], []), ([], []), ([], []), ([], []), ([], []), ([], []), ([], []), ([], []), ([], []), ([], []), ([], []), ([], []), ([], []), ([], []), ([], []), ([], []), ([], []), ([], []), ([], [])] mixed (by kernel_rfl) ?_
  refine lex_r rfl rfl (zap rfl fo68_0 (ev1 rfl)) ?_
  refine lex_r rfl rfl (op_ldmv (R := [_, _, _]) rfl tb61 (ev1 rfl) rfl rfl rfl) ?_
  refine lex_r rfl rfl (zah [] [] [] rfl (ev1 rfl) (ec (ev1 rfl) en) rfl rfl (refRight_d _) rfl rfl rfl rfl rfl rfl) ?_
  refine lex_r rfl rfl ((op_not rfl (ev1 rfl)).cast (d' := .val (.bool true)) (by rw [hi]; rfl)) ?_
  refine lex_r rfl rfl (zad (.inl rfl) (ev1 rfl)) ?_
  refine lex_gr (zan (b := true) rfl rfl rfl) rfl rfl (zal (d := .junk)) ?_
  refine lex_gr (zan (b := true) rfl rfl rfl) rfl rfl (zal (d := .junk)) ?_
  refine lex_gr (zan (b := true) rfl rfl rfl) rfl rfl (zal (d := .val (.bool false))) ?_
  refine lex_r rfl rfl ((op_or rfl (ev1 rfl) (ev3 rfl id)).cast (d' := .val (.bool true)) (by rfl)) ?_
  refine lex_r rfl rfl (zad (.inl rfl) (ev1 rfl)) ?_
  refine lex_gr (zan (b := true) rfl rfl rfl) rfl rfl (zal (d := .junk)) ?_
  refine lex_gr (zan (b := true) rfl rfl rfl) rfl rfl (zal (d := .junk)) ?_
  refine lex_gr (zan (b := true) rfl rfl rfl) rfl rfl (zal (d := .val (.bool false))) ?_
  refine lex_r rfl rfl ((op_or rfl (ev1 rfl) (ev3 rfl id)).cast (d' := .val (.bool true)) (by rfl)) ?_
  refine lex_r rfl rfl (zad (.inl rfl) (ev1 rfl)) ?_
  refine lex_gr (zan (b := true) rfl rfl rfl) rfl rfl (zal (d := .junk)) ?_
  refine lex_gr (zan (b := true) rfl rfl rfl) rfl rfl (zal (d := .junk)) ?_
  refine lex_gr (zan (b := true) rfl rfl rfl) rfl rfl (zal (d := .junk)) ?_
  refine lex_gr (zan (b := true) rfl rfl rfl) rfl rfl (zal (d := .val (.bool false))) ?_
  refine lex_gr (zan (b := true) rfl rfl rfl) rfl rfl (zal (d := .val (.bool false))) ?_
  refine lex_r rfl rfl ((op_or rfl (ev1 rfl) (ev3 rfl id)).cast (d' := .val (.bool true)) (by rfl)) ?_
  refine lex_nil ?_
  refine dwp_if_t rfl (rfl) ?_
  refine zaf ?_
  refine zac ?_
  refine zab rfl rfl rfl (zad (.inr rfl) (ev1 rfl)) ?_
  refine zae ?_
  refine zau ?_
  refine kend0 (rs1 rfl (rv_t rfl)) rfl ?_
  have hb : opB o = false := by
    unfold opB
    simp [hi]
  rw [hb]
set_option maxRecDepth 4000 in
set_option maxHeartbeats 1000000 in
theorem refo_lo (o : OpM) (hi : mayR o.id = true) (hk : o.kd < 1) : DFun Tryz.prog 71 [.agg (opD o)] [] (.val (.bool (opB o))) [] := by
  refine zba (N := 86) 0 (by kernel_rfl) Tryz.func71 rfl rfl rfl (by simp only [fr0, Nat.zero_add, Nat.reduceAdd]; exact rfl) rfl fun s0 hs0 => ?_
  refine zaf ?_
  refine zaj 1 (by simp only [holes, List.cons_append, List.nil_append]; exact rfl) ?_
  refine zac ?_
  refine zam rfl rfl rfl (op_boxam 0 rfl (ev1 rfl) rfl) (by simp only [upd, za, zaa]; exact rfl) ?_
  refine zab rfl rfl rfl (zad (.inr rfl) (ev1 rfl)) ?_
  refine zae ?_
  refine zaf ?_
  refine zaf ?_
  refine dwp_draw [([], []), ([0], []), ([], []), ([], []), ([], []), ([], []), ([0], []), ([], []), ([], []), ([], []), ([], []), ([], []), ([], []), ([], []), ([], []), ([], []), ([], []), ([], []), ([], []), ([], []), ([], [])] mixed (by kernel_rfl) ?_
  refine lex_r rfl rfl (zap rfl fo68_0 (ev1 rfl)) ?_
  refine lex_r rfl rfl (op_ldmv (R := [_, _, _]) rfl tb61 (ev1 rfl) rfl rfl rfl) ?_
  refine lex_r rfl rfl (zah [] [] [] rfl (ev1 rfl) (ec (ev1 rfl) en) rfl rfl (refRight_d _) rfl rfl rfl rfl rfl rfl) ?_
  refine lex_r rfl rfl ((op_not rfl (ev1 rfl)).cast (d' := .val (.bool false)) (by rw [hi]; rfl)) ?_
  refine lex_r rfl rfl (zad (.inl rfl) (ev1 rfl)) ?_
  refine lex_k (zan (b := false) rfl rfl rfl) rfl rfl (zap rfl fo68_1 (ev1 rfl)) rfl (by simp only [upd, za, zaa]; exact rfl) ?_
  refine lex_k (zan (b := false) rfl rfl rfl) rfl rfl (zav rfl tb3 (ev2 rfl) rfl rfl) rfl (by simp only [upd, za, zaa]; exact rfl) ?_
  refine lex_k (zan (b := false) rfl rfl rfl) rfl rfl ((op_lss rfl (ev2 rfl) (ev1 rfl)).cast (d' := .val (.bool true)) (by rw [decide_eq_true hk])) rfl (by simp only [upd, za, zaa]; exact rfl) ?_
  refine lex_r rfl rfl ((op_or rfl (ev1 rfl) (ev3 rfl (fun _ => rfl))).cast (d' := .val (.bool true)) (by rfl)) ?_
  refine lex_r rfl rfl (zad (.inl rfl) (ev1 rfl)) ?_
  refine lex_gr (zan (b := true) rfl rfl rfl) rfl rfl (zal (d := .junk)) ?_
  refine lex_gr (zan (b := true) rfl rfl rfl) rfl rfl (zal (d := .junk)) ?_
  refine lex_gr (zan (b := true) rfl rfl rfl) rfl rfl (zal (d := .val (.bool false))) ?_
  refine lex_r rfl rfl ((op_or rfl (ev1 rfl) (ev3 rfl id)).cast (d' := .val (.bool true)) (by rfl)) ?_
  refine lex_r rfl rfl (zad (.inl rfl) (ev1 rfl)) ?_
  refine lex_gr (zan (b := true) rfl rfl rfl) rfl rfl (zal (d := .junk)) ?_
  refine lex_gr (zan (b := true) rfl rfl rfl) rfl rfl (zal (d := .junk)) ?_
  refine lex_gr (zan (b := true) rfl rfl rfl) rfl rfl (zal (d := .junk)) ?_
  refine lex_gr (zan (b := true) rfl rfl rfl) rfl rfl (zal (d := .val (.bool false))) ?_
  refine lex_gr (zan (b := true) rfl rfl rfl) rfl rfl (zal (d := .val (.bool false))) ?_
  refine lex_r rfl rfl ((op_or rfl (ev1 rfl) (ev3 rfl id)).cast (d' := .val (.bool true)) (by rfl)) ?_
  refine lex_nil ?_
  refine dwp_if_t rfl (rfl) ?_
  refine zaf ?_
  refine zac ?_
  refine zab rfl rfl rfl (zad (.inr rfl) (ev1 rfl)) ?_
  refine zae ?_
  refine zau ?_
  refine kend0 (rs1 rfl (rv_t rfl)) rfl ?_
  have hb : opB o = false := by
    unfold opB
    rw [show decide (1 ≤ o.kd) = false from decide_eq_false (by omega)]
    simp
  rw [hb]
set_option maxRecDepth 4000 in
set_option maxHeartbeats 1000000 in
theorem refo_hi (o : OpM) (hi : mayR o.id = true) (hk : ¬ o.kd < 1) (hk2 : 8 < o.kd) : DFun Tryz.prog 71 [.agg (opD o)] [] (.val (.bool (opB o))) [] := by
  refine zba (N := 86) 0 (by kernel_rfl) Tryz.func71 rfl rfl rfl (by simp only [fr0, Nat.zero_add, Nat.reduceAdd]; exact rfl) rfl fun s0 hs0 => ?_
  refine zaf ?_
  refine zaj 1 (by simp only [holes, List.cons_append, List.nil_append]; exact rfl) ?_
  refine zac ?_
  refine zam rfl rfl rfl (op_boxam 0 rfl (ev1 rfl) rfl) (by simp only [upd, za, zaa]; exact rfl) ?_
  refine zab rfl rfl rfl (zad (.inr rfl) (ev1 rfl)) ?_
  refine zae ?_
  refine zaf ?_
  refine zaf ?_
  refine dwp_draw [([], []), ([0], []), ([], []), ([], []), ([], []), ([], []), ([0], []), ([], []), ([], []), ([], []), ([], []), ([0], []), ([], []), ([], []), ([], []), ([], []), ([], []), ([], []), ([], []), ([], []), ([], [])] mixed (by kernel_rfl) ?_
  refine lex_r rfl rfl (zap rfl fo68_0 (ev1 rfl)) ?_
  refine lex_r rfl rfl (op_ldmv (R := [_, _, _]) rfl tb61 (ev1 rfl) rfl rfl rfl) ?_
  refine lex_r rfl rfl (zah [] [] [] rfl (ev1 rfl) (ec (ev1 rfl) en) rfl rfl (refRight_d _) rfl rfl rfl rfl rfl rfl) ?_
  refine lex_r rfl rfl ((op_not rfl (ev1 rfl)).cast (d' := .val (.bool false)) (by rw [hi]; rfl)) ?_
  refine lex_r rfl rfl (zad (.inl rfl) (ev1 rfl)) ?_
  refine lex_k (zan (b := false) rfl rfl rfl) rfl rfl (zap rfl fo68_1 (ev1 rfl)) rfl (by simp only [upd, za, zaa]; exact rfl) ?_
  refine lex_k (zan (b := false) rfl rfl rfl) rfl rfl (zav rfl tb3 (ev2 rfl) rfl rfl) rfl (by simp only [upd, za, zaa]; exact rfl) ?_
  refine lex_k (zan (b := false) rfl rfl rfl) rfl rfl ((op_lss rfl (ev2 rfl) (ev1 rfl)).cast (d' := .val (.bool false)) (by rw [decide_eq_false hk])) rfl (by simp only [upd, za, zaa]; exact rfl) ?_
  refine lex_r rfl rfl ((op_or rfl (ev1 rfl) (ev3 rfl (fun _ => rfl))).cast (d' := .val (.bool false)) (by rfl)) ?_
  refine lex_r rfl rfl (zad (.inl rfl) (ev1 rfl)) ?_
  refine lex_k (zan (b := false) rfl rfl rfl) rfl rfl (zap rfl fo68_1 (ev1 rfl)) rfl (by simp only [upd, za, zaa]; exact rfl) ?_
  refine lex_k (zan (b := false) rfl rfl rfl) rfl rfl (zav rfl tb3 (ev2 rfl) rfl rfl) rfl (by simp only [upd, za, zaa]; exact rfl) ?_
  refine lex_k (zan (b := false) rfl rfl rfl) rfl rfl ((op_gtr rfl (ev2 rfl) (ev1 rfl)).cast (d' := .val (.bool true)) (by rw [decide_eq_true hk2])) rfl (by simp only [upd, za, zaa]; exact rfl) ?_
  refine lex_r rfl rfl ((op_or rfl (ev1 rfl) (ev3 rfl (fun _ => rfl))).cast (d' := .val (.bool true)) (by rfl)) ?_
  refine lex_r rfl rfl (zad (.inl rfl) (ev1 rfl)) ?_
  refine lex_gr (zan (b := true) rfl rfl rfl) rfl rfl (zal (d := .junk)) ?_
  refine lex_gr (zan (b := true) rfl rfl rfl) rfl rfl (zal (d := .junk)) ?_
  refine lex_gr (zan (b := true) rfl rfl rfl) rfl rfl (zal (d := .junk)) ?_
  refine lex_gr (zan (b := true) rfl rfl rfl) rfl rfl (zal (d := .val (.bool false))) ?_
  refine lex_gr (zan (b := true) rfl rfl rfl) rfl rfl (zal (d := .val (.bool false))) ?_
  refine lex_r rfl rfl ((op_or rfl (ev1 rfl) (ev3 rfl id)).cast (d' := .val (.bool true)) (by rfl)) ?_
  refine lex_nil ?_
  refine dwp_if_t rfl (rfl) ?_
  refine zaf ?_
  refine zac ?_
  refine zab rfl rfl rfl (zad (.inr rfl) (ev1 rfl)) ?_
  refine zae ?_
  refine zau ?_
  refine kend0 (rs1 rfl (rv_t rfl)) rfl ?_
  have hb : opB o = false := by
    unfold opB
    rw [show decide (o.kd ≤ 8) = false from decide_eq_false (by omega)]
    simp
  rw [hb]
theorem refOp_d (o : OpM) : DFun Tryz.prog 71 [.agg (opD o)] [] (.val (.bool (opB o))) [] := by
  cases hi : mayR o.id
  · exact refo_bad o hi
  · by_cases h0 : o.kd < 1
    · exact refo_lo o hi h0
    · by_cases h9 : 8 < o.kd
      · exact refo_hi o hi h0 h9
      · have : o.kd = 1 ∨ o.kd = 2 ∨ o.kd = 3 ∨ o.kd = 4 ∨ o.kd = 5 ∨ o.kd = 6 ∨ o.kd = 7 ∨ o.kd = 8 := by omega
        refine refo_gen o ?_ this hi
        rcases this with h | h | h | h | h | h | h | h <;> rw [h]
        · exact plain_1 o h
        · exact plain_2 o h
        · exact plain_3 o h
        · exact plain_4 o h
        · exact plain_5 o h
        · exact plain_6 o h
        · exact plain_7 o h
        · exact plain_8 o h
section
variable {P : Program} {s0 : St} {n : Cx}
variable {ops : Array Oper}
/-- is a row of structs with rows nil? -/
theorem walk_nilm? {o : Oper} {rest : List Oper} {F : Fr} {M : List Blk} {K : Cont} {T T' e : TypeId} {sz by' m t : Nat} {L : List D} {x : Operand} (hg : o.guard = none) (hd : o.dst = some t) (ht : Nat.blt t n.n = true) (ho : o.op = .binOp .eql T x (.const (.slice none 0 0)) T') (hT : slE P T = some (e, sz, by')) (hx : Ev true F x (.slm sz m L))
    (hk : ∀ b, (b = true → m = 0 ∧ L = []) → Walk P s0 n ops rest ((t, .val (.bool b)) :: F) M K) : Walk P s0 n ops (o :: rest) F M K := by
  intro a w hi
  have hi' := hi
  obtain ⟨h0, s, h1, h2, h3, h4, h5, h6⟩ := hi
  obtain ⟨dx, ex1, ex2⟩ := hx
  have hrx := ex2 s _ rfl (ev_rep h4 ex1)
  generalize hvx : a.eval x = vx at hrx
  cases hrx with
  | @slm _ _ cap ad _ vs hnl hl hn hc ha hvl hel hm =>
    obtain ⟨hu, _⟩ := slE_spec hT
    have hrun : (execOp a.eval o).run P w = .ok (.value (.bool ad.isNone)) w := by
      unfold execOp
      simp only [ho]
      have hv : a.eval (.const (.slice none 0 0)) = .slice none 0 0 := rfl
      rw [hv, hvx]
      refine run_v ?_
      simp only [eqGuard, binOp, Sem.run_bind]
      have heq : ∀ d, (Op.equalIn (d + 1) T (.slice ad m cap) (.slice none 0 0)).run P w = .ok ad.isNone w := fun d => by
        unfold Op.equalIn
        rw [Sem.run_bind, run_underlying hu]
        cases ad <;> simp
      have heq' : (Op.equalIn Op.maxDepth T (.slice ad m cap) (.slice none 0 0)).run P w = .ok ad.isNone w := heq 9999
      simp [Op.equal, heq', Sem.run_bind, go_sem]
    have hfin := hk ad.isNone (fun hb => by
      cases ad with
      | none => have := ha rfl; exact ⟨by omega, List.eq_nil_of_length_eq_zero (by rw [hl, show m = 0 by omega]; simp)⟩
      | some q => cases hb) (a.put o.dst (.bool ad.isNone)) w (by
        obtain ⟨h0, s, h1, h2, h3, h4, h5, h6⟩ := hi'
        refine ⟨h0, s, h1, h2, h3, ?_, by rw [put_size]; exact h5, by rw [put_def]; exact h6⟩
        rw [hd]
        exact h4.put (by rw [h5]; exact Nat.blt_eq.mp ht) (.val _))
    show if Region.wanted o (yielded ops a.tmps) then _ else _
    have hw : Region.wanted o (yielded ops a.tmps) = true := by unfold Region.wanted; rw [hg]
    rw [if_pos hw]
    refine ⟨fun _ _ => trivial, ?_⟩
    rw [semAt_noDef (by rw [ho]; rfl), hrun]
    exact hfin
end
theorem opD_oc (o : OpM) : (opD o).all D.oc2 = true := rfl
theorem ops_oc (l : List OpM) : (l.flatMap opD).all D.oc2 = true := by
  induction l with
  | nil => rfl
  | cons a l ih => rw [List.flatMap_cons, List.all_append, opD_oc, ih]; rfl
theorem ops_nl (l : List OpM) : D.nlL ([] ++ l.flatMap opD) = true := by
  rw [List.nil_append]
  induction l with
  | nil => rfl
  | cons a l ih => exact ih
def cntO (l : List OpM) (s : Int) : Nat := l.countP fun o => decide (o.id.s = s)
theorem cntO_step {l : List OpM} {s : Int} {k : Nat} (h : k < l.length) : cntO (l.take (k + 1)) s = cntO (l.take k) s + if (l[k]).id.s = s then 1 else 0 := by
  unfold cntO
  rw [List.take_succ_eq_append_getElem h, List.countP_append, List.countP_singleton]
  by_cases e : (l[k]).id.s = s <;> simp [e]
theorem cntO_le (l : List OpM) (s : Int) (k : Nat) : cntO (l.take k) s ≤ k := Nat.le_trans (List.countP_le_length) (by rw [List.length_take]; omega)
theorem cntO_full {l : List OpM} {s : Int} {k : Nat} (h : l.length ≤ k) : cntO (l.take k) s = cntO l s := by rw [List.take_of_length_le h]
set_option maxRecDepth 4000 in
set_option maxHeartbeats 1000000 in
theorem cloneO (l : List OpM) (h : l.length ≤ 5000) : DFun Tryz.prog 31 [.slm 19 l.length (l.flatMap opD)] [] (.slm 19 l.length (l.flatMap opD)) [] := by
  refine zba (N := 8) 0 (by kernel_rfl) Tryz.func31 rfl rfl rfl (by simp only [fr0, Nat.zero_add, Nat.reduceAdd]; exact rfl) rfl fun s0 hs0 => ?_
  refine dwp_lenm (t := 0) rfl fun hl0 hL0 => ?_
  refine zaf ?_
  refine zac ?_
  refine zab rfl rfl rfl (zad (.inr rfl) (ev1 rfl)) ?_
  refine zae ?_
  refine zaf ?_
  refine zaf ?_
  refine zac ?_
  refine zab rfl rfl rfl (zad (.inl rfl) (ev1 rfl)) ?_
  refine walk_nilm? rfl rfl rfl rfl sl56 (ev1 rfl) fun nb4 hnb4 => ?_
  refine zae ?_
  refine zaw rfl (fun c1 => ?_) (fun c1 => ?_)
  · try simp only [yg, ya, beq_iff_eq, bne_iff_ne, yb, yc, yf, ye, yh, yi, yd, ne_eq, yj, Int.not_lt, Int.not_le] at c1
    refine zaf ?_
    refine zac ?_
    refine zab rfl rfl rfl (zad (.inr rfl) (ev1 rfl)) ?_
    refine zae ?_
    refine dwp_wk 2 rfl (Wk.slm0 19) ?_
    refine zau ?_
    refine kend0 (rs1 rfl (rv_t rfl)) rfl ?_
    obtain ⟨e1, e2⟩ := hnb4 c1
    rw [e1, e2]
  · try simp only [yg, ya, beq_iff_eq, bne_iff_ne, yb, yc, yf, ye, yh, yi, yd, ne_eq, yj, Int.not_lt, Int.not_le] at c1
    refine zak ?_
    refine zaf ?_
    refine zaj 2 (by simp only [holes, List.cons_append, List.nil_append]; exact rfl) ?_
    refine zac ?_
    refine zam rfl rfl rfl (op_bsxs (ps := []) 0 rfl sl56 zr68 rfl en rfl rfl rfl rfl (by decide) (by decide) rfl) (by simp only [upd, za, zaa]; exact rfl) ?_
    refine zab rfl rfl rfl (zad (.inl rfl) (ev1 rfl)) ?_
    refine zam rfl rfl rfl ((op_appr (j := 1) rfl sl56 zr68 rfl (ev1 rfl) (ev1 rfl) rfl rfl (ops_oc _) (fun _ => ⟨by omega, by omega⟩)).giveX2 (ops_nl _) rfl rfl) (by simp only [upd, za, zaa]; exact rfl) ?_
    refine zab rfl rfl rfl (zad (.inr rfl) (ev1 rfl)) ?_
    refine zae ?_
    refine zau ?_
    refine kend0 (rs1 rfl (rv_t rfl)) rfl ?_
    rw [Nat.zero_add]; rfl
set_option maxRecDepth 4000 in
set_option maxHeartbeats 1000000 in
theorem count_d (l : List OpM) (s : Int) : DFun Tryz.prog 73 [.slm 19 l.length (l.flatMap opD), .val (.int .i64 s)] [] (.val (.int .u64 (cntO l s : Int))) [] := by
  refine zba (N := 23) 0 (by kernel_rfl) Tryz.func73 rfl rfl rfl (by simp only [fr0, Nat.zero_add, Nat.reduceAdd]; exact rfl) rfl fun s0 hs0 => ?_
  refine dwp_lenm (t := 0) rfl fun hl0 hL0 => ?_
  refine zaf ?_
  refine zac ?_
  refine zab rfl rfl rfl (zad (.inr rfl) (ev1 rfl)) ?_
  refine zae ?_
  refine zaf ?_
  refine zac ?_
  refine zab rfl rfl rfl (zad (.inr rfl) (ev1 rfl)) ?_
  refine zae ?_
  refine zaf ?_
  refine zaf ?_
  refine zac ?_
  refine zab rfl rfl rfl (zad (.inl rfl) (ev1 rfl)) ?_
  refine zab rfl rfl rfl (op_lenm rfl sl56 (ev1 rfl)) ?_
  refine zab rfl rfl rfl (zad (.inl rfl) (ev1 rfl)) ?_
  refine zae ?_
  refine zat ?_
  refine dwp_loopS ⟨hs0, rfl⟩ (α := Nat) (fun k => [(5, .val (.int .u64 ((cntO (l.take k) s : Nat) : Int))), (10, .val (.int .i64 (k : Int)))]) [(1, _), (8, _), (9, _)] (fun k => []) [] (fun k => k ≤ l.length) (fun k => l.length - k) 0 [] (by omega) rfl ⟨rfl, rfl, rfl, trivial⟩ ⟨rfl, rfl, trivial⟩ trivial ?_
  intro k hx
  simp only [upd, za, zaa, List.cons_append, List.nil_append]
  have hk := hx
  have hle := cntO_le l s k
  refine zaf ?_
  refine zac ?_
  refine zab rfl rfl rfl (op_lss rfl (ev1 rfl) (ev1 rfl)) ?_
  refine zae ?_
  refine zaf ?_
  refine zaw rfl (fun c1 => ?_) (fun c1 => ?_)
  · try simp only [yg, ya, beq_iff_eq, bne_iff_ne, yb, yc, yf, ye, yh, yi, yd, ne_eq, yj, Int.not_lt, Int.not_le] at c1
    refine zak ?_
    refine zaf ?_
    refine zat ?_
    refine zaf ?_
    refine zaj 1 (by simp only [holes, List.cons_append, List.nil_append]; exact rfl) ?_
    refine zac ?_
    refine zab rfl rfl rfl (op_ixmr (k) (by decide) rfl sl56 (ev1 rfl) (ev1 rfl) (fun _ => rfl) (by omega) (fun _ => rfl)) ?_
    refine zab rfl rfl rfl (op_lddr rfl tb68 (ev1 rfl) rfl rfl) ?_
    refine zam rfl rfl rfl (zaq 0 rfl zr68 rfl) (by simp only [upd, za, zaa]; exact rfl) ?_
    refine zax rfl rfl (op_stam rfl tb68 (ev1 rfl) (ev1 rfl) rfl rfl rfl rfl) (by simp only [upd, za, zaa]; exact rfl) ?_
    refine zae ?_
    refine zaf ?_
    refine zac ?_
    refine zab rfl rfl rfl (zap rfl fo68_0 (ev1 rfl)) ?_
    refine zab rfl rfl rfl (zap rfl fo61_1 (ev1 rfl)) ?_
    refine zab rfl rfl rfl (zav rfl tb3 (ev1 rfl) rfl rfl) ?_
    refine zab rfl rfl rfl (zad (.inl rfl) (ev1 rfl)) ?_
    refine zab rfl rfl rfl (zb rfl (ev1 rfl) (ev1 rfl)) ?_
    refine zae ?_
    refine zaw rfl (fun c2 => ?_) (fun c2 => ?_)
    · try simp only [yg, ya, beq_iff_eq, bne_iff_ne, yb, yc, yf, ye, yh, yi, yd, ne_eq, yj, Int.not_lt, Int.not_le] at c2
      refine zac ?_
      refine zab rfl rfl rfl (zad (.inl rfl) (ev1 rfl)) ?_
      refine zab rfl rfl rfl (op_add' rfl (ev1 rfl) (ev1 rfl) (fun _ => IntWalk.u64_in _ (by omega))) ?_
      refine zab rfl rfl rfl (zad (.inr rfl) (ev1 rfl)) ?_
      refine zae ?_
      refine zac ?_
      refine zab rfl rfl rfl (op_add' rfl (ev1 rfl) (ev1 rfl) (fun _ => IntWalk.i64_in _ (by omega))) ?_
      refine zab rfl rfl rfl (zad (.inl rfl) (ev1 rfl)) ?_
      refine zae ?_
      refine ⟨k + 1, [], by omega, by simp only []; omega, rfl, ⟨by rw [cntO_step (by omega), if_pos c2]; rfl, rfl, rfl, rfl, rfl, trivial⟩, trivial⟩
    · try simp only [yg, ya, beq_iff_eq, bne_iff_ne, yb, yc, yf, ye, yh, yi, yd, ne_eq, yj, Int.not_lt, Int.not_le] at c2
      refine zak ?_
      refine zac ?_
      refine zab rfl rfl rfl (op_add' rfl (ev1 rfl) (ev1 rfl) (fun _ => IntWalk.i64_in _ (by omega))) ?_
      refine zab rfl rfl rfl (zad (.inl rfl) (ev1 rfl)) ?_
      refine zae ?_
      refine ⟨k + 1, [], by omega, by simp only []; omega, rfl, ⟨by rw [cntO_step (by omega), if_neg c2]; rfl, rfl, rfl, rfl, rfl, trivial⟩, trivial⟩
  · try simp only [yg, ya, beq_iff_eq, bne_iff_ne, yb, yc, yf, ye, yh, yi, yd, ne_eq, yj, Int.not_lt, Int.not_le] at c1
    refine dwp_exit ?_
    refine zaf ?_
    refine zac ?_
    refine zab rfl rfl rfl (zad (.inl rfl) (ev1 rfl)) ?_
    refine zab rfl rfl rfl (zad (.inr rfl) (ev1 rfl)) ?_
    refine zae ?_
    refine zau ?_
    refine kend0 (rs1 rfl (rv_t rfl)) rfl ?_
    rw [cntO_full (by omega)]
def refE (l : LogM) (k : Nat) (o : OpM) : Bool := opB o && decide ((l.fo : Int) < o.id.t) && (decide (k = 0) || lessR ((l.ops.getD (k - 1) zOp).id) o.id) && decide (o.id.q = (l.bs o.id.s.toNat : Int) + (cntO (l.ops.take k) o.id.s : Int) + 1)
def refLg (l : LogM) : Bool := decide (l.fo ≤ LAST) && vB l.bs && (List.range l.ops.length).all fun k => refE l k (l.ops.getD k zOp)
def refTo (l : LogM) (k : Nat) : Bool := (List.range k).all fun j => refE l j (l.ops.getD j zOp)
theorem refTo_step {l : LogM} {k : Nat} (h : k < l.ops.length) (h1 : refTo l k = true) (h2 : refE l k l.ops[k] = true) : refTo l (k + 1) = true := by
  unfold refTo at *
  rw [List.range_succ, List.all_append, h1]
  simp [List.getD_eq_getElem?_getD, List.getElem?_eq_getElem h, h2]
theorem refLg_no {l : LogM} {k : Nat} (h : k < l.ops.length) (h2 : refE l k l.ops[k] = false) : refLg l = false := by
  unfold refLg
  rw [show ((List.range l.ops.length).all fun k => refE l k (l.ops.getD k zOp)) = false from ?_, Bool.and_false]
  rw [List.all_eq_false]
  exact ⟨k, List.mem_range.2 h, by simp [List.getD_eq_getElem?_getD, List.getElem?_eq_getElem h, h2]⟩
theorem refLg_bad {l : LogM} (h : (decide (l.fo ≤ LAST) && vB l.bs) = false) : refLg l = false := by
  unfold refLg
  rw [h, Bool.false_and]
theorem refLg_yes {l : LogM} (hb : (decide (l.fo ≤ LAST) && vB l.bs) = true) (h : refTo l l.ops.length = true) : refLg l = true := by
  unfold refLg
  rw [hb, Bool.true_and]
  exact h
theorem ref1_t (l : LogM) (h : (decide ((4611686018427387904 : Int) < (l.fo : Int)) || !vB l.bs) = true) : (decide (l.fo ≤ LAST) && vB l.bs) = false := by
  rw [natover] at h
  cases h1 : decide (l.fo ≤ LAST) <;> cases h2 : vB l.bs <;> simp_all
theorem ref1_f (l : LogM) (h : (decide ((4611686018427387904 : Int) < (l.fo : Int)) || !vB l.bs) = false) : (decide (l.fo ≤ LAST) && vB l.bs) = true := by
  rw [natover] at h
  cases h1 : decide (l.fo ≤ LAST) <;> cases h2 : vB l.bs <;> simp_all
theorem opAt_d {l : List OpM} {k : Nat} (h : k < l.length) : l.getD k zOp = l[k] := by rw [List.getD_eq_getElem?_getD, List.getElem?_eq_getElem h]; rfl
theorem rst_t {l : LogM} {k : Nat} (h : k < l.ops.length) (c : ((!opB l.ops[k] || decide ((l.ops[k]).id.t ≤ (l.fo : Int))) || (decide ((0 : Int) < (k : Int)) && !lessR (l.ops[k - 1]).id (l.ops[k]).id)) = true) : refE l k l.ops[k] = false := by
  unfold refE
  rw [opAt_d (show k - 1 < l.ops.length by omega)]
  cases h1 : opB l.ops[k] <;> cases h2 : lessR (l.ops[k - 1]).id (l.ops[k]).id <;> simp_all
  · rcases c with c | c
    · intro h; omega
    · intro _ h; omega
  · intro h; omega
theorem rst_f {l : LogM} {k : Nat} (h : k < l.ops.length) (c : ((!opB l.ops[k] || decide ((l.ops[k]).id.t ≤ (l.fo : Int))) || (decide ((0 : Int) < (k : Int)) && !lessR (l.ops[k - 1]).id (l.ops[k]).id)) = false) : mayR (l.ops[k]).id = true ∧ refE l k l.ops[k] = decide ((l.ops[k]).id.q = (l.bs (l.ops[k]).id.s.toNat : Int) + (cntO (l.ops.take k) (l.ops[k]).id.s : Int) + 1) := by
  unfold refE
  rw [opAt_d (show k - 1 < l.ops.length by omega)]
  have hop : opB l.ops[k] = true := by
    cases h1 : opB l.ops[k]
    · rw [h1] at c; simp at c
    · rfl
  refine ⟨opB_id hop, ?_⟩
  rw [hop]
  have ht : (l.fo : Int) < (l.ops[k]).id.t := by simp_all
  rw [decide_eq_true ht]
  have hl : (decide (k = 0) || lessR (l.ops[k - 1]).id (l.ops[k]).id) = true := by
    cases h2 : lessR (l.ops[k - 1]).id (l.ops[k]).id
    · rw [h2] at c
      simp at c
      simp
      omega
    · simp
  rw [hl]
  rfl
theorem logD_bs' (l : LogM) : ∀ j, j < 9 → (logD l)[1 + j]? = some (.val (.int .u64 (l.bs j : Int))) := lt9 rfl rfl rfl rfl rfl rfl rfl rfl rfl
theorem logD_bs {l : LogM} {p j : Nat} (hp : p = 1 + j) (hj : j < 9) : (logD l)[p]? = some (.val (.int .u64 (l.bs j : Int))) := by rw [hp]; exact logD_bs' l j hj
set_option maxRecDepth 4000 in
set_option maxHeartbeats 1000000 in
theorem refLog_d (l : LogM) : DFun Tryz.prog 33 [.agg (logD l)] [] (.val (.bool (refLg l))) [] := by
  refine zba (N := 71) 0 (by kernel_rfl) Tryz.func33 rfl rfl rfl (by simp only [fr0, Nat.zero_add, Nat.reduceAdd]; exact rfl) rfl fun s0 hs0 => ?_
  refine zaf ?_
  refine zaj 1 (by simp only [holes, List.cons_append, List.nil_append]; exact rfl) ?_
  refine zac ?_
  refine zam rfl rfl rfl (op_boxam 0 rfl (ev1 rfl) rfl) (by simp only [upd, za, zaa]; exact rfl) ?_
  refine zab rfl rfl rfl (zad (.inr rfl) (ev1 rfl)) ?_
  refine zae ?_
  refine zaf ?_
  refine zaf ?_
  refine zac ?_
  refine zab rfl rfl rfl (zap rfl fo58_0 (ev1 rfl)) ?_
  refine zab rfl rfl rfl (zav rfl tb22 (ev1 rfl) rfl rfl) ?_
  refine zab rfl rfl rfl (op_gtr rfl (ev1 rfl) (ev1 rfl)) ?_
  refine zab rfl rfl rfl (zad (.inl rfl) (ev1 rfl)) ?_
  refine zag (zan rfl rfl rfl) rfl rfl rfl (zap rfl fo58_1 (ev1 rfl)) ?_
  refine zag (zan rfl rfl rfl) rfl rfl rfl (op_ldmv (R := [_, _, _, _, _, _, _, _, _]) rfl tb24 (ev2 rfl) rfl rfl rfl) ?_
  refine zag (zan rfl rfl rfl) rfl rfl rfl (zah [] [] [] rfl (ev1 rfl) (ec (ev2 rfl) en) rfl rfl (refVR_d _) rfl rfl rfl rfl rfl rfl) ?_
  refine zag (zan rfl rfl rfl) rfl rfl rfl (op_not rfl (ev2 rfl)) ?_
  refine zab rfl rfl rfl (op_or rfl (ev1 rfl) (ev3 rfl id)) ?_
  refine zae ?_
  refine zaw rfl (fun c1 => ?_) (fun c1 => ?_)
  · have hb := ref1_t l c1
    refine zaf ?_
    refine zac ?_
    refine zab rfl rfl rfl (zad (.inr rfl) (ev1 rfl)) ?_
    refine zae ?_
    refine zau ?_
    refine kend0 (rs1 rfl (rv_t rfl)) rfl ?_
    rw [refLg_bad hb]
  · have hb := ref1_f l c1
    have hv : vB l.bs = true := (Bool.and_eq_true _ _ ▸ hb).2
    refine zak ?_
    refine zaf ?_
    refine zaf ?_
    refine zac ?_
    refine zab rfl rfl rfl (zap rfl fo58_2 (ev1 rfl)) ?_
    refine zab rfl rfl rfl (zav rfl tb56 (ev1 rfl) rfl rfl) ?_
    refine zab rfl rfl rfl (op_lenm rfl sl56 (ev1 rfl)) ?_
    refine zab rfl rfl rfl (zad (.inl rfl) (ev1 rfl)) ?_
    refine zae ?_
    refine zat ?_
    refine dwp_loopS ⟨hs0, rfl⟩ (α := Nat) (fun k => [(17, .val (.int .i64 (k : Int)))]) [(1, _), (15, _), (16, _)] (fun k => []) [_] (fun k => k ≤ l.ops.length ∧ refTo l k = true) (fun k => l.ops.length - k) 0 [0] (⟨by omega, rfl⟩) rfl ⟨rfl, rfl, rfl, trivial⟩ ⟨rfl, trivial⟩ ⟨rfl, trivial⟩ ?_
    intro k hx
    simp only [upd, za, zaa, List.cons_append, List.nil_append]
    obtain ⟨hk, he⟩ := hx
    refine zaf ?_
    refine dwp_lenm (t := 15) rfl fun hl15 hL15 => ?_
    refine zac ?_
    refine zab rfl rfl rfl (op_lss rfl (ev1 rfl) (ev1 rfl)) ?_
    refine zae ?_
    refine zaf ?_
    refine zaw rfl (fun c2 => ?_) (fun c2 => ?_)
    · try simp only [yg, ya, beq_iff_eq, bne_iff_ne, yb, yc, yf, ye, yh, yi, yd, ne_eq, yj, Int.not_lt, Int.not_le] at c2
      refine zak ?_
      refine zaf ?_
      refine zat ?_
      refine zaf ?_
      refine zaj 1 (by simp only [holes, List.cons_append, List.nil_append]; exact rfl) ?_
      refine zac ?_
      refine zab rfl rfl rfl (zad (.inl rfl) (ev1 rfl)) ?_
      refine zab rfl rfl rfl (op_ixmr (k) (by decide) rfl sl56 (ev1 rfl) (ev1 rfl) (fun _ => rfl) (by omega) (fun _ => rfl)) ?_
      refine zab rfl rfl rfl (op_lddr rfl tb68 (ev1 rfl) rfl rfl) ?_
      refine zam rfl rfl rfl (zaq 1 rfl zr68 rfl) (by simp only [upd, za, zaa]; exact rfl) ?_
      refine zab rfl rfl rfl (zad (.inr rfl) (ev1 rfl)) ?_
      refine zax rfl rfl (op_stam rfl tb68 (ev1 rfl) (ev1 rfl) rfl rfl rfl rfl) (by simp only [upd, za, zaa]; exact rfl) ?_
      refine zae ?_
      refine zaf ?_
      refine zaf ?_
      refine dwp_draw [([1], []), ([], []), ([], []), ([], []), ([], []), ([], []), ([1], []), ([], []), ([0], []), ([], []), ([], []), ([], []), ([], []), ([], []), ([], []), ([], []), ([0], []), ([], []), ([], []), ([], []), ([], []), ([], []), ([], []), ([1], []), ([], []), ([], []), ([], []), ([], [])] mixed (by kernel_rfl) ?_
      refine lex_r rfl rfl (op_ldmw rfl tb68 (ev1 rfl) rfl rfl) ?_
      refine lex_r rfl rfl (zah [] [] [] rfl (ev1 rfl) (ec (ev1 rfl) en) rfl rfl (refOp_d _) rfl rfl rfl rfl rfl rfl) ?_
      refine lex_r rfl rfl (op_not rfl (ev1 rfl)) ?_
      refine lex_r rfl rfl (zad (.inl rfl) (ev1 rfl)) ?_
      refine lex_gr (zan rfl rfl rfl) rfl rfl (zap rfl fo68_0 (ev1 rfl)) ?_
      refine lex_gr (zan rfl rfl rfl) rfl rfl (zap rfl fo61_0 (ev2 rfl)) ?_
      refine lex_gr (zan rfl rfl rfl) rfl rfl (zav rfl tb22 (ev2 rfl) rfl rfl) ?_
      refine lex_gr (zan rfl rfl rfl) rfl rfl (zap rfl fo58_0 (ev1 rfl)) ?_
      refine lex_gr (zan rfl rfl rfl) rfl rfl (zav rfl tb22 (ev2 rfl) rfl rfl) ?_
      refine lex_gr (zan rfl rfl rfl) rfl rfl (op_leq rfl (ev2 rfl) (ev2 rfl)) ?_
      refine lex_r rfl rfl (op_or rfl (ev1 rfl) (ev3 rfl id)) ?_
      refine lex_r rfl rfl (zad (.inl rfl) (ev1 rfl)) ?_
      refine lex_gr (zan rfl rfl rfl) rfl rfl (zad (.inl rfl) (ev1 rfl)) ?_
      refine lex_gr (zan rfl rfl rfl) rfl rfl (op_gtr rfl (ev2 rfl) (ev1 rfl)) ?_
      refine lex_gr (zan rfl rfl rfl) rfl rfl (zad (.inl rfl) (ev2 rfl)) ?_
      refine lex_gr (zay rfl rfl rfl) rfl rfl (zap rfl fo58_2 (ev1 rfl)) ?_
      refine lex_gr (zay rfl rfl rfl) rfl rfl (zav rfl tb56 (ev2 rfl) rfl rfl) ?_
      refine lex_gr (zay rfl rfl rfl) rfl rfl (zad (.inl rfl) (ev1 rfl)) ?_
      refine lex_gr (zay rfl rfl rfl) rfl rfl (op_sub' rfl (ev2 rfl) (ev1 rfl) (fun hp => IntWalk.i64_in _ (by first | omega | (simp at hp; omega)))) ?_
      refine lex_gr (zay rfl rfl rfl) rfl rfl (op_ixmr (k - 1) (by decide) rfl sl56 (ev2 rfl) (ev2 rfl) (fun hp => by simp at hp; omega) (by omega) (fun _ => rfl)) ?_
      refine lex_gr (zay rfl rfl rfl) rfl rfl (op_fadm rfl fo68_0 (ev2 rfl)) ?_
      refine lex_gr (zay rfl rfl rfl) rfl rfl (op_lddv (idc (l.ops[k - 1]).id) rfl tb61 (ev2 rfl) rfl rfl) ?_
      refine lex_gr (zay rfl rfl rfl) rfl rfl (zap rfl fo68_0 (ev1 rfl)) ?_
      refine lex_gr (zay rfl rfl rfl) rfl rfl (op_ldmv (R := [_, _, _]) rfl tb61 (ev2 rfl) rfl rfl rfl) ?_
      refine lex_gr (zay rfl rfl rfl) rfl rfl (zah [] [] [] rfl (ev1 rfl) (ec (ev2 rfl) (ec (ev2 rfl) en)) rfl rfl (refLess_d _ _) rfl rfl rfl rfl rfl rfl) ?_
      refine lex_gr (zay rfl rfl rfl) rfl rfl (op_not rfl (ev2 rfl)) ?_
      refine lex_gr (zan rfl rfl rfl) rfl rfl (zaz rfl (ev2 rfl) (ev2 rfl)) ?_
      refine lex_r rfl rfl (op_or rfl (ev1 rfl) (ev3 rfl id)) ?_
      refine lex_nil ?_
      refine zaw rfl (fun c2 => ?_) (fun c2 => ?_)
      · have hst := rst_t (l := l) (k := k) (by omega) c2
        refine zaf ?_
        refine zac ?_
        refine zab rfl rfl rfl (zad (.inr rfl) (ev1 rfl)) ?_
        refine zae ?_
        refine zau ?_
        refine kend0 (rs1 rfl (rv_t rfl)) rfl ?_
        rw [refLg_no (k := k) (by omega) hst]
      · obtain ⟨hid, hre⟩ := rst_f (l := l) (k := k) (by omega) c2
        have hs8 := mayR_iff.1 hid
        have hbs : l.bs (l.ops[k]).id.s.toNat ≤ 4611686018427387904 := (vB_iff.1 hv).2 _ (by omega)
        have hcn := cntO_le l.ops (l.ops[k]).id.s k
        refine zak ?_
        refine zaf ?_
        refine dwp_draw [([], []), ([], []), ([1], []), ([], []), ([], []), ([1], []), ([], []), ([], []), ([0], []), ([], []), ([0], []), ([], []), ([], []), ([], []), ([], []), ([1], []), ([], []), ([], []), ([], []), ([], [])] mixed (by kernel_rfl) ?_
        refine lex_r rfl rfl (zap rfl fo68_0 (ev1 rfl)) ?_
        refine lex_r rfl rfl (zap rfl fo61_2 (ev1 rfl)) ?_
        refine lex_r rfl rfl (zav rfl tb22 (ev1 rfl) rfl rfl) ?_
        refine lex_r rfl rfl (zap rfl fo68_0 (ev1 rfl)) ?_
        refine lex_r rfl rfl (zap rfl fo61_1 (ev1 rfl)) ?_
        refine lex_r rfl rfl (zav rfl tb3 (ev1 rfl) rfl rfl) ?_
        refine lex_r rfl rfl (zap rfl fo58_1 (ev1 rfl)) ?_
        refine lex_r rfl rfl (op_ixl rfl ar24 (ev1 rfl) (ev1 rfl) (fun _ => by omega)) ?_
        refine lex_r rfl rfl (zav rfl tb22 (ev1 rfl) rfl ((logD_bs (j := (l.ops[k]).id.s.toNat) (by omega) (by omega)))) ?_
        refine lex_r rfl rfl (zap rfl fo58_2 (ev1 rfl)) ?_
        refine lex_r rfl rfl (zav rfl tb56 (ev1 rfl) rfl rfl) ?_
        refine lex_r rfl rfl (zad (.inl rfl) (ev1 rfl)) ?_
        refine lex_r rfl rfl (op_slmtk (j := k) rfl sl56 (ev1 rfl) (bd_some (ev1 rfl)) (fun _ => rfl) (fun _ => by omega) (fun _ => rfl)) ?_
        refine lex_r rfl rfl (zap rfl fo68_0 (ev1 rfl)) ?_
        refine lex_r rfl rfl (zap rfl fo61_1 (ev1 rfl)) ?_
        refine lex_r rfl rfl (zav rfl tb3 (ev1 rfl) rfl rfl) ?_
        refine lex_r rfl rfl (zah [] [] [] rfl (ev1 rfl) (ec (ev1 rfl) (ec (ev1 rfl) en)) rfl rfl (count_d _ _) rfl rfl rfl rfl rfl rfl) ?_
        refine lex_r rfl rfl (op_add' rfl (ev1 rfl) (ev1 rfl) (fun _ => IntWalk.u64_in _ (by omega))) ?_
        refine lex_r rfl rfl (op_add' rfl (ev1 rfl) (ev1 rfl) (fun _ => IntWalk.u64_in _ (by omega))) ?_
        refine lex_r rfl rfl (op_neq rfl (ev1 rfl) (ev1 rfl)) ?_
        refine lex_nil ?_
        refine zaw rfl (fun c3 => ?_) (fun c3 => ?_)
        · have hst : refE l k l.ops[k] = false := by rw [hre]; exact decide_eq_false (by simpa using c3)
          refine zaf ?_
          refine zac ?_
          refine zab rfl rfl rfl (zad (.inr rfl) (ev1 rfl)) ?_
          refine zae ?_
          refine zau ?_
          refine kend0 (rs1 rfl (rv_t rfl)) rfl ?_
          rw [refLg_no (k := k) (by omega) hst]
        · have hst : refE l k l.ops[k] = true := by rw [hre]; exact decide_eq_true (by simpa using c3)
          refine zak ?_
          refine zac ?_
          refine zab rfl rfl rfl (op_add' rfl (ev1 rfl) (ev1 rfl) (fun _ => IntWalk.i64_in _ (by omega))) ?_
          refine zab rfl rfl rfl (zad (.inl rfl) (ev1 rfl)) ?_
          refine zae ?_
          refine ⟨k + 1, [0], ⟨by omega, refTo_step (by omega) he hst⟩, by simp only []; omega, rfl, ⟨rfl, rfl, rfl, rfl, trivial⟩, ⟨rfl, trivial⟩⟩
    · try simp only [yg, ya, beq_iff_eq, bne_iff_ne, yb, yc, yf, ye, yh, yi, yd, ne_eq, yj, Int.not_lt, Int.not_le] at c2
      refine dwp_exit ?_
      refine zaf ?_
      refine zac ?_
      refine zab rfl rfl rfl (zad (.inr rfl) (ev1 rfl)) ?_
      refine zae ?_
      refine zau ?_
      refine kend0 (rs1 rfl (rv_t rfl)) rfl ?_
      have hke : k = l.ops.length := by omega
      rw [refLg_yes hb (by rw [← hke]; exact he)]
theorem lessR_z {i : I3} (h : mayR i = true) : lessR zI3 i = true := by
  have h := mayR_iff.1 h
  unfold lessR zI3
  rw [if_pos (show (0 : Int) ≠ i.t by omega)]
  exact decide_eq_true (show (0 : Int) < i.t by omega)
theorem endE_cond {l : LogM} {k : Nat} {la : Nat → I3} {ah : I3} (h : k < l.ops.length) (hq : ∀ s : Nat, 1 ≤ s → s < 9 → (la s).q = (l.bs s : Int) + (cntO (l.ops.take k) (s : Int) : Int)) (ha : ah = if k = 0 then zI3 else (l.ops.getD (k - 1) zOp).id) :
    (opB l.ops[k] && lessR ah (l.ops[k]).id && decide ((l.fo : Int) < (l.ops[k]).id.t) && decide ((l.ops[k]).id.q = (la (l.ops[k]).id.s.toNat).q + 1)) = refE l k l.ops[k] := by
  unfold refE
  cases hb : opB l.ops[k]
  · rfl
  · have hid := opB_id hb
    have hm := mayR_iff.1 hid
    have h1 := hq (l.ops[k]).id.s.toNat (by omega) (by omega)
    rw [show (((l.ops[k]).id.s.toNat : Nat) : Int) = (l.ops[k]).id.s by omega] at h1
    rw [h1]
    have h2 : lessR ah (l.ops[k]).id = (decide (k = 0) || lessR ((l.ops.getD (k - 1) zOp).id) (l.ops[k]).id) := by
      by_cases e : k = 0
      · rw [ha, if_pos e, lessR_z hid, decide_eq_true e, Bool.true_or]
      · rw [ha, if_neg e, decide_eq_false e, Bool.false_or]
    rw [h2, Bool.true_and, Bool.true_and, Bool.and_comm (decide (k = 0) || _)]
theorem endE_ref (l : LogM) : ∀ (n k : Nat) (la : Nat → I3) (ah : I3), k + n = l.ops.length → (∀ s : Nat, 1 ≤ s → s < 9 → (la s).q = (l.bs s : Int) + (cntO (l.ops.take k) (s : Int) : Int)) → (ah = if k = 0 then zI3 else (l.ops.getD (k - 1) zOp).id) → (endE l.fo (la, ah) (l.ops.drop k)).isSome = (List.range' k n).all fun j => refE l j (l.ops.getD j zOp)
  | 0, k, la, ah, hk, _, _ => by rw [List.drop_of_length_le (by omega)]; rfl
  | n + 1, k, la, ah, hk, hq, ha => by
    have h : k < l.ops.length := by omega
    have hc := endE_cond h hq ha
    rw [endE_drop h, List.range'_succ, List.all_cons, opAt_d h]
    cases hr : refE l k l.ops[k]
    · rw [show stepE l.fo (la, ah) l.ops[k] = none from by unfold stepE; rw [if_neg (by rw [hc, hr]; decide)]]
      rfl
    · rw [show stepE l.fo (la, ah) l.ops[k] = some (upV la (l.ops[k]).id.s.toNat (l.ops[k]).id, (l.ops[k]).id) from by unfold stepE; rw [if_pos (by rw [hc, hr])]]
      rw [Bool.true_and]
      have hb : opB l.ops[k] = true := by
        cases hb : opB l.ops[k]
        · unfold refE at hr
          rw [hb] at hr
          cases hr
        · rfl
      have hm := mayR_iff.1 (opB_id hb)
      have hqq : (l.ops[k]).id.q = (l.bs (l.ops[k]).id.s.toNat : Int) + (cntO (l.ops.take k) (l.ops[k]).id.s : Int) + 1 := by
        unfold refE at hr
        simp only [Bool.and_eq_true, decide_eq_true_eq] at hr
        exact hr.2
      refine endE_ref l n (k + 1) _ _ (by omega) (fun s h1 h9 => ?_) (by rw [if_neg (by omega)]; show _ = (l.ops.getD k zOp).id; rw [opAt_d h])
      rw [cntO_step h]
      unfold upV
      by_cases e : s = (l.ops[k]).id.s.toNat
      · rw [if_pos e, if_pos (by omega), hqq, ← e, show (l.ops[k]).id.s = (s : Int) by omega]
        omega
      · rw [if_neg e, if_neg (by omega), hq s h1 h9]
        omega
theorem refLg_logB (l : LogM) : refLg l = logB l := by
  unfold refLg logB
  have h := endE_ref l l.ops.length 0 (la0 l.fo l.bs) zI3 (by omega) (fun s _ _ => by unfold la0 cntO; simp) (by rw [if_pos rfl])
  rw [List.drop_zero] at h
  rw [h, List.range_eq_range']
theorem refLogB_d (l : LogM) : DFun Tryz.prog 33 [.agg (logD l)] [] (.val (.bool (logB l))) [] := by
  rw [← refLg_logB]
  exact refLog_d l
def refP (f : FrM) (l : List OpM) (n : Int) : FrM × Int := if n < 0 then (zF, 2) else if f.pr ≠ 0 then (zF, 5) else if ¬ n < (l.length : Int) then (zF, 4) else if ¬ (f.fo : Int) < tmL ⟨0, z9, l⟩ n then (zF, 4) else ({ f with pr := (tmL ⟨0, z9, l⟩ n).toNat }, 0)
theorem tm_at {l : List OpM} {n : Int} {j : Nat} (hj : j < l.length) (e : l.length - 1 - n.toNat = j) : (l[j]).id.t = tmL ⟨0, z9, l⟩ n := tmL_at (l := ⟨0, z9, l⟩) hj e
theorem proF_ref {f : FrM} {l : LogM} {n : Int} (hf : frB f = true) (hl : logB l = true) : proF f l n = refP f l.ops n := by
  unfold proF refP
  rw [hf, hl, if_neg (by decide), if_neg (by decide)]
  rfl
theorem proF_nof {f : FrM} {l : LogM} {n : Int} (hf : frB f = false) : proF f l n = (zF, 280) := by
  unfold proF
  rw [hf, if_pos rfl]
theorem proF_nol {f : FrM} {l : LogM} {n : Int} (hf : frB f = true) (hl : logB l = false) : proF f l n = (zF, 240) := by
  unfold proF
  rw [hf, hl, if_neg (by decide), if_pos rfl]
set_option maxRecDepth 4000 in
set_option maxHeartbeats 1000000 in
theorem refP_arg (f : FrM) (l : List OpM) (n : Int) (hn : n < 0) : DFun Tryz.prog 34 [.val (.agg (frC f).toArray), .slm 19 l.length (l.flatMap opD), .val (.int .i64 n)] [] (.tup [.val (.agg (frC zF).toArray), .val (.int .i64 2)]) [] := by
  refine zba (N := 47) 0 (by kernel_rfl) Tryz.func34 rfl rfl rfl (by simp only [fr0, Nat.zero_add, Nat.reduceAdd]; exact rfl) rfl fun s0 hs0 => ?_
  refine dwp_lenm (t := 1) rfl fun hl1 hL1 => ?_
  refine zaf ?_
  refine zaj 2 (by simp only [holes, List.cons_append, List.nil_append]; exact rfl) ?_
  refine zac ?_
  refine zam rfl rfl rfl (op_boxa 0 rfl (ev1 rfl) rfl) (by simp only [upd, za, zaa]; exact rfl) ?_
  refine zam rfl rfl rfl (zaq 1 rfl zr29 rfl) (by simp only [upd, za, zaa]; exact rfl) ?_
  refine zab rfl rfl rfl (zad (.inr rfl) (ev1 rfl)) ?_
  refine zae ?_
  refine zaf ?_
  refine zaf ?_
  refine zac ?_
  refine zab rfl rfl rfl (zad (.inl rfl) (ev1 rfl)) ?_
  refine zab rfl rfl rfl (op_lss rfl (ev1 rfl) (ev1 rfl)) ?_
  refine zae ?_
  refine dwp_if_t rfl (decide_eq_true hn) ?_
  refine zaf ?_
  refine zac ?_
  refine zab rfl rfl rfl (op_build0 rfl fl29 zr29) ?_
  refine zax rfl rfl (op_stwa rfl tb29 (ev1 rfl) (ev1 rfl) rfl (zao _) (frC_oc _) rfl) (by simp only [upd, za, zaa]; exact rfl) ?_
  refine zab rfl rfl rfl (zad (.inr rfl) (ev1 rfl)) ?_
  refine zae ?_
  refine zau ?_
  refine kend0 (rs2 rfl (rv_w tb29 rfl rfl (zao _)) (rv_t rfl)) rfl ?_
  rfl
set_option maxRecDepth 4000 in
set_option maxHeartbeats 1000000 in
theorem refP_there (f : FrM) (l : List OpM) (n : Int) (hn : ¬ n < 0) (hp : f.pr ≠ 0) : DFun Tryz.prog 34 [.val (.agg (frC f).toArray), .slm 19 l.length (l.flatMap opD), .val (.int .i64 n)] [] (.tup [.val (.agg (frC zF).toArray), .val (.int .i64 5)]) [] := by
  refine zba (N := 47) 0 (by kernel_rfl) Tryz.func34 rfl rfl rfl (by simp only [fr0, Nat.zero_add, Nat.reduceAdd]; exact rfl) rfl fun s0 hs0 => ?_
  refine dwp_lenm (t := 1) rfl fun hl1 hL1 => ?_
  refine zaf ?_
  refine zaj 2 (by simp only [holes, List.cons_append, List.nil_append]; exact rfl) ?_
  refine zac ?_
  refine zam rfl rfl rfl (op_boxa 0 rfl (ev1 rfl) rfl) (by simp only [upd, za, zaa]; exact rfl) ?_
  refine zam rfl rfl rfl (zaq 1 rfl zr29 rfl) (by simp only [upd, za, zaa]; exact rfl) ?_
  refine zab rfl rfl rfl (zad (.inr rfl) (ev1 rfl)) ?_
  refine zae ?_
  refine zaf ?_
  refine zaf ?_
  refine zac ?_
  refine zab rfl rfl rfl (zad (.inl rfl) (ev1 rfl)) ?_
  refine zab rfl rfl rfl (op_lss rfl (ev1 rfl) (ev1 rfl)) ?_
  refine zae ?_
  refine dwp_if_f rfl (decide_eq_false hn) ?_
  refine zak ?_
  refine zaf ?_
  refine zaf ?_
  refine zac ?_
  refine zab rfl rfl rfl (zap rfl fo29_2 (ev1 rfl)) ?_
  refine zab rfl rfl rfl (op_ldo rfl tb22 (ev1 rfl) rfl (frC_pr _)) ?_
  refine zab rfl rfl rfl (op_gtr rfl (ev1 rfl) (ev1 rfl)) ?_
  refine zae ?_
  refine dwp_if_t rfl (decide_eq_true (by omega)) ?_
  refine zaf ?_
  refine zac ?_
  refine zab rfl rfl rfl (op_build0 rfl fl29 zr29) ?_
  refine zax rfl rfl (op_stwa rfl tb29 (ev1 rfl) (ev1 rfl) rfl (zao _) (frC_oc _) rfl) (by simp only [upd, za, zaa]; exact rfl) ?_
  refine zab rfl rfl rfl (zad (.inr rfl) (ev1 rfl)) ?_
  refine zae ?_
  refine zau ?_
  refine kend0 (rs2 rfl (rv_w tb29 rfl rfl (zao _)) (rv_t rfl)) rfl ?_
  rfl
set_option maxRecDepth 4000 in
set_option maxHeartbeats 1000000 in
theorem refP_few (f : FrM) (l : List OpM) (n : Int) (hn : ¬ n < 0) (hp : f.pr = 0) (hm : ¬ n < (l.length : Int)) : DFun Tryz.prog 34 [.val (.agg (frC f).toArray), .slm 19 l.length (l.flatMap opD), .val (.int .i64 n)] [] (.tup [.val (.agg (frC zF).toArray), .val (.int .i64 4)]) [] := by
  refine zba (N := 47) 0 (by kernel_rfl) Tryz.func34 rfl rfl rfl (by simp only [fr0, Nat.zero_add, Nat.reduceAdd]; exact rfl) rfl fun s0 hs0 => ?_
  refine dwp_lenm (t := 1) rfl fun hl1 hL1 => ?_
  refine zaf ?_
  refine zaj 2 (by simp only [holes, List.cons_append, List.nil_append]; exact rfl) ?_
  refine zac ?_
  refine zam rfl rfl rfl (op_boxa 0 rfl (ev1 rfl) rfl) (by simp only [upd, za, zaa]; exact rfl) ?_
  refine zam rfl rfl rfl (zaq 1 rfl zr29 rfl) (by simp only [upd, za, zaa]; exact rfl) ?_
  refine zab rfl rfl rfl (zad (.inr rfl) (ev1 rfl)) ?_
  refine zae ?_
  refine zaf ?_
  refine zaf ?_
  refine zac ?_
  refine zab rfl rfl rfl (zad (.inl rfl) (ev1 rfl)) ?_
  refine zab rfl rfl rfl (op_lss rfl (ev1 rfl) (ev1 rfl)) ?_
  refine zae ?_
  refine dwp_if_f rfl (decide_eq_false hn) ?_
  refine zak ?_
  refine zaf ?_
  refine zaf ?_
  refine zac ?_
  refine zab rfl rfl rfl (zap rfl fo29_2 (ev1 rfl)) ?_
  refine zab rfl rfl rfl (op_ldo rfl tb22 (ev1 rfl) rfl (frC_pr _)) ?_
  refine zab rfl rfl rfl (op_gtr rfl (ev1 rfl) (ev1 rfl)) ?_
  refine zae ?_
  refine dwp_if_f rfl (decide_eq_false (by omega)) ?_
  refine zak ?_
  refine zaf ?_
  refine zaf ?_
  refine dwp_draw [([], []), ([], []), ([], []), ([], []), ([], []), ([], []), ([], []), ([], []), ([], []), ([], []), ([], []), ([], []), ([], []), ([], []), ([], []), ([], []), ([], []), ([], []), ([], [])] mixed (by kernel_rfl) ?_
  refine lex_r rfl rfl (zad (.inl rfl) (ev1 rfl)) ?_
  refine lex_r rfl rfl (zad (.inl rfl) (ev1 rfl)) ?_
  refine lex_r rfl rfl (op_lenm rfl sl56 (ev1 rfl)) ?_
  refine lex_r rfl rfl ((op_geq rfl (ev1 rfl) (ev1 rfl)).cast (d' := .val (.bool true)) (by rw [decide_eq_true (show (l.length : Int) ≤ n by omega)])) ?_
  refine lex_r rfl rfl (zad (.inl rfl) (ev1 rfl)) ?_
  refine lex_gr (zan (b := true) rfl rfl rfl) rfl rfl (zal (d := .junk)) ?_
  refine lex_gr (zan (b := true) rfl rfl rfl) rfl rfl (zal (d := .junk)) ?_
  refine lex_gr (zan (b := true) rfl rfl rfl) rfl rfl (zal (d := .junk)) ?_
  refine lex_gr (zan (b := true) rfl rfl rfl) rfl rfl (zal (d := .val (.bool false))) ?_
  refine lex_gr (zan (b := true) rfl rfl rfl) rfl rfl (zal (d := .junk)) ?_
  refine lex_gr (zan (b := true) rfl rfl rfl) rfl rfl (zal (d := .val (.bool false))) ?_
  refine lex_gr (zan (b := true) rfl rfl rfl) rfl rfl (zal (d := .junk)) ?_
  refine lex_gr (zan (b := true) rfl rfl rfl) rfl rfl (zal (d := .junk)) ?_
  refine lex_gr (zan (b := true) rfl rfl rfl) rfl rfl (zal (d := .junk)) ?_
  refine lex_gr (zan (b := true) rfl rfl rfl) rfl rfl (zal (d := .junk)) ?_
  refine lex_gr (zan (b := true) rfl rfl rfl) rfl rfl (zal (d := .junk)) ?_
  refine lex_gr (zan (b := true) rfl rfl rfl) rfl rfl (zal (d := .junk)) ?_
  refine lex_gr (zan (b := true) rfl rfl rfl) rfl rfl (zal (d := .val (.bool false))) ?_
  refine lex_r rfl rfl ((op_or rfl (ev1 rfl) (ev3 rfl id)).cast (d' := .val (.bool true)) (by rfl)) ?_
  refine lex_nil ?_
  refine dwp_if_t rfl (rfl) ?_
  refine zaf ?_
  refine zac ?_
  refine zab rfl rfl rfl (op_build0 rfl fl29 zr29) ?_
  refine zax rfl rfl (op_stwa rfl tb29 (ev1 rfl) (ev1 rfl) rfl (zao _) (frC_oc _) rfl) (by simp only [upd, za, zaa]; exact rfl) ?_
  refine zab rfl rfl rfl (zad (.inr rfl) (ev1 rfl)) ?_
  refine zae ?_
  refine zau ?_
  refine kend0 (rs2 rfl (rv_w tb29 rfl rfl (zao _)) (rv_t rfl)) rfl ?_
  rfl
set_option maxRecDepth 4000 in
set_option maxHeartbeats 1000000 in
theorem refP_low (f : FrM) (l : List OpM) (n : Int) (hn : ¬ n < 0) (hp : f.pr = 0) (hm : n < (l.length : Int)) (ht : ¬ (f.fo : Int) < tmL ⟨0, z9, l⟩ n) : DFun Tryz.prog 34 [.val (.agg (frC f).toArray), .slm 19 l.length (l.flatMap opD), .val (.int .i64 n)] [] (.tup [.val (.agg (frC zF).toArray), .val (.int .i64 4)]) [] := by
  refine zba (N := 47) 0 (by kernel_rfl) Tryz.func34 rfl rfl rfl (by simp only [fr0, Nat.zero_add, Nat.reduceAdd]; exact rfl) rfl fun s0 hs0 => ?_
  refine dwp_lenm (t := 1) rfl fun hl1 hL1 => ?_
  refine zaf ?_
  refine zaj 2 (by simp only [holes, List.cons_append, List.nil_append]; exact rfl) ?_
  refine zac ?_
  refine zam rfl rfl rfl (op_boxa 0 rfl (ev1 rfl) rfl) (by simp only [upd, za, zaa]; exact rfl) ?_
  refine zam rfl rfl rfl (zaq 1 rfl zr29 rfl) (by simp only [upd, za, zaa]; exact rfl) ?_
  refine zab rfl rfl rfl (zad (.inr rfl) (ev1 rfl)) ?_
  refine zae ?_
  refine zaf ?_
  refine zaf ?_
  refine zac ?_
  refine zab rfl rfl rfl (zad (.inl rfl) (ev1 rfl)) ?_
  refine zab rfl rfl rfl (op_lss rfl (ev1 rfl) (ev1 rfl)) ?_
  refine zae ?_
  refine dwp_if_f rfl (decide_eq_false hn) ?_
  refine zak ?_
  refine zaf ?_
  refine zaf ?_
  refine zac ?_
  refine zab rfl rfl rfl (zap rfl fo29_2 (ev1 rfl)) ?_
  refine zab rfl rfl rfl (op_ldo rfl tb22 (ev1 rfl) rfl (frC_pr _)) ?_
  refine zab rfl rfl rfl (op_gtr rfl (ev1 rfl) (ev1 rfl)) ?_
  refine zae ?_
  refine dwp_if_f rfl (decide_eq_false (by omega)) ?_
  refine zak ?_
  refine zaf ?_
  refine zaf ?_
  refine dwp_draw [([], []), ([], []), ([], []), ([], []), ([], []), ([], []), ([], []), ([], []), ([], []), ([], []), ([], []), ([], []), ([], []), ([], []), ([], []), ([], []), ([0], []), ([], []), ([], [])] mixed (by kernel_rfl) ?_
  refine lex_r rfl rfl (zad (.inl rfl) (ev1 rfl)) ?_
  refine lex_r rfl rfl (zad (.inl rfl) (ev1 rfl)) ?_
  refine lex_r rfl rfl (op_lenm rfl sl56 (ev1 rfl)) ?_
  refine lex_r rfl rfl ((op_geq rfl (ev1 rfl) (ev1 rfl)).cast (d' := .val (.bool false)) (by rw [decide_eq_false (show ¬ (l.length : Int) ≤ n by omega)])) ?_
  refine lex_r rfl rfl (zad (.inl rfl) (ev1 rfl)) ?_
  refine lex_k (zan (b := false) rfl rfl rfl) rfl rfl (zad (.inl rfl) (ev1 rfl)) rfl (by simp only [upd, za, zaa]; exact rfl) ?_
  refine lex_k (zan (b := false) rfl rfl rfl) rfl rfl (zad (.inl rfl) (ev1 rfl)) rfl (by simp only [upd, za, zaa]; exact rfl) ?_
  refine lex_k (zan (b := false) rfl rfl rfl) rfl rfl (op_lenm rfl sl56 (ev2 rfl)) rfl (by simp only [upd, za, zaa]; exact rfl) ?_
  refine lex_k (zan (b := false) rfl rfl rfl) rfl rfl (op_sub' rfl (ev2 rfl) (ev1 rfl) (fun _ => IntWalk.i64_in _ (by omega))) rfl (by simp only [upd, za, zaa]; exact rfl) ?_
  refine lex_k (zan (b := false) rfl rfl rfl) rfl rfl (zad (.inl rfl) (ev1 rfl)) rfl (by simp only [upd, za, zaa]; exact rfl) ?_
  refine lex_k (zan (b := false) rfl rfl rfl) rfl rfl (op_sub' rfl (ev2 rfl) (ev2 rfl) (fun _ => IntWalk.i64_in _ (by omega))) rfl (by simp only [upd, za, zaa]; exact rfl) ?_
  refine lex_k (zan (b := false) rfl rfl rfl) rfl rfl (op_ixmr (l.length - 1 - n.toNat) (by decide) rfl sl56 (ev2 rfl) (ev2 rfl) (fun _ => by omega) (by omega) (fun _ => rfl)) rfl (by simp only [upd, za, zaa]; exact rfl) ?_
  refine lex_k (zan (b := false) rfl rfl rfl) rfl rfl (op_fadm rfl fo68_0 (ev2 rfl)) rfl (by simp only [upd, za, zaa]; exact rfl) ?_
  refine lex_k (zan (b := false) rfl rfl rfl) rfl rfl (op_fadm rfl fo61_0 (ev2 rfl)) rfl (by simp only [upd, za, zaa]; exact rfl) ?_
  refine lex_k (zan (b := false) rfl rfl rfl) rfl rfl ((op_lddm rfl tb22 (ev2 rfl) rfl).cast (d' := .val (.int .u64 (tmL ⟨0, z9, l⟩ n))) (by rw [tm_at (n := n) (j := l.length - 1 - n.toNat) (by omega) rfl])) rfl (by simp only [upd, za, zaa]; exact rfl) ?_
  refine lex_k (zan (b := false) rfl rfl rfl) rfl rfl (zap rfl fo29_0 (ev1 rfl)) rfl (by simp only [upd, za, zaa]; exact rfl) ?_
  refine lex_k (zan (b := false) rfl rfl rfl) rfl rfl (op_ldo rfl tb22 (ev2 rfl) rfl rfl) rfl (by simp only [upd, za, zaa]; exact rfl) ?_
  refine lex_k (zan (b := false) rfl rfl rfl) rfl rfl (op_leq rfl (ev2 rfl) (ev2 rfl)) rfl (by simp only [upd, za, zaa]; exact rfl) ?_
  refine lex_r rfl rfl (op_or rfl (ev1 rfl) (ev3 rfl (fun _ => rfl))) ?_
  refine lex_nil ?_
  refine dwp_if_t rfl (by simp; omega) ?_
  refine zaf ?_
  refine zac ?_
  refine zab rfl rfl rfl (op_build0 rfl fl29 zr29) ?_
  refine zax rfl rfl (op_stwa rfl tb29 (ev1 rfl) (ev1 rfl) rfl (zao _) (frC_oc _) rfl) (by simp only [upd, za, zaa]; exact rfl) ?_
  refine zab rfl rfl rfl (zad (.inr rfl) (ev1 rfl)) ?_
  refine zae ?_
  refine zau ?_
  refine kend0 (rs2 rfl (rv_w tb29 rfl rfl (zao _)) (rv_t rfl)) rfl ?_
  rfl
set_option maxRecDepth 4000 in
set_option maxHeartbeats 1000000 in
theorem refP_ok (f : FrM) (l : List OpM) (n : Int) (hn : ¬ n < 0) (hp : f.pr = 0) (hm : n < (l.length : Int)) (ht : (f.fo : Int) < tmL ⟨0, z9, l⟩ n) : DFun Tryz.prog 34 [.val (.agg (frC f).toArray), .slm 19 l.length (l.flatMap opD), .val (.int .i64 n)] [] (.tup [.val (.agg (frC { f with pr := (tmL ⟨0, z9, l⟩ n).toNat }).toArray), .val (.int .i64 0)]) [] := by
  refine zba (N := 47) 0 (by kernel_rfl) Tryz.func34 rfl rfl rfl (by simp only [fr0, Nat.zero_add, Nat.reduceAdd]; exact rfl) rfl fun s0 hs0 => ?_
  refine dwp_lenm (t := 1) rfl fun hl1 hL1 => ?_
  refine zaf ?_
  refine zaj 2 (by simp only [holes, List.cons_append, List.nil_append]; exact rfl) ?_
  refine zac ?_
  refine zam rfl rfl rfl (op_boxa 0 rfl (ev1 rfl) rfl) (by simp only [upd, za, zaa]; exact rfl) ?_
  refine zam rfl rfl rfl (zaq 1 rfl zr29 rfl) (by simp only [upd, za, zaa]; exact rfl) ?_
  refine zab rfl rfl rfl (zad (.inr rfl) (ev1 rfl)) ?_
  refine zae ?_
  refine zaf ?_
  refine zaf ?_
  refine zac ?_
  refine zab rfl rfl rfl (zad (.inl rfl) (ev1 rfl)) ?_
  refine zab rfl rfl rfl (op_lss rfl (ev1 rfl) (ev1 rfl)) ?_
  refine zae ?_
  refine dwp_if_f rfl (decide_eq_false hn) ?_
  refine zak ?_
  refine zaf ?_
  refine zaf ?_
  refine zac ?_
  refine zab rfl rfl rfl (zap rfl fo29_2 (ev1 rfl)) ?_
  refine zab rfl rfl rfl (op_ldo rfl tb22 (ev1 rfl) rfl (frC_pr _)) ?_
  refine zab rfl rfl rfl (op_gtr rfl (ev1 rfl) (ev1 rfl)) ?_
  refine zae ?_
  refine dwp_if_f rfl (decide_eq_false (by omega)) ?_
  refine zak ?_
  refine zaf ?_
  refine zaf ?_
  refine dwp_draw [([], []), ([], []), ([], []), ([], []), ([], []), ([], []), ([], []), ([], []), ([], []), ([], []), ([], []), ([], []), ([], []), ([], []), ([], []), ([], []), ([0], []), ([], []), ([], [])] mixed (by kernel_rfl) ?_
  refine lex_r rfl rfl (zad (.inl rfl) (ev1 rfl)) ?_
  refine lex_r rfl rfl (zad (.inl rfl) (ev1 rfl)) ?_
  refine lex_r rfl rfl (op_lenm rfl sl56 (ev1 rfl)) ?_
  refine lex_r rfl rfl ((op_geq rfl (ev1 rfl) (ev1 rfl)).cast (d' := .val (.bool false)) (by rw [decide_eq_false (show ¬ (l.length : Int) ≤ n by omega)])) ?_
  refine lex_r rfl rfl (zad (.inl rfl) (ev1 rfl)) ?_
  refine lex_k (zan (b := false) rfl rfl rfl) rfl rfl (zad (.inl rfl) (ev1 rfl)) rfl (by simp only [upd, za, zaa]; exact rfl) ?_
  refine lex_k (zan (b := false) rfl rfl rfl) rfl rfl (zad (.inl rfl) (ev1 rfl)) rfl (by simp only [upd, za, zaa]; exact rfl) ?_
  refine lex_k (zan (b := false) rfl rfl rfl) rfl rfl (op_lenm rfl sl56 (ev2 rfl)) rfl (by simp only [upd, za, zaa]; exact rfl) ?_
  refine lex_k (zan (b := false) rfl rfl rfl) rfl rfl (op_sub' rfl (ev2 rfl) (ev1 rfl) (fun _ => IntWalk.i64_in _ (by omega))) rfl (by simp only [upd, za, zaa]; exact rfl) ?_
  refine lex_k (zan (b := false) rfl rfl rfl) rfl rfl (zad (.inl rfl) (ev1 rfl)) rfl (by simp only [upd, za, zaa]; exact rfl) ?_
  refine lex_k (zan (b := false) rfl rfl rfl) rfl rfl (op_sub' rfl (ev2 rfl) (ev2 rfl) (fun _ => IntWalk.i64_in _ (by omega))) rfl (by simp only [upd, za, zaa]; exact rfl) ?_
  refine lex_k (zan (b := false) rfl rfl rfl) rfl rfl (op_ixmr (l.length - 1 - n.toNat) (by decide) rfl sl56 (ev2 rfl) (ev2 rfl) (fun _ => by omega) (by omega) (fun _ => rfl)) rfl (by simp only [upd, za, zaa]; exact rfl) ?_
  refine lex_k (zan (b := false) rfl rfl rfl) rfl rfl (op_fadm rfl fo68_0 (ev2 rfl)) rfl (by simp only [upd, za, zaa]; exact rfl) ?_
  refine lex_k (zan (b := false) rfl rfl rfl) rfl rfl (op_fadm rfl fo61_0 (ev2 rfl)) rfl (by simp only [upd, za, zaa]; exact rfl) ?_
  refine lex_k (zan (b := false) rfl rfl rfl) rfl rfl ((op_lddm rfl tb22 (ev2 rfl) rfl).cast (d' := .val (.int .u64 (tmL ⟨0, z9, l⟩ n))) (by rw [tm_at (n := n) (j := l.length - 1 - n.toNat) (by omega) rfl])) rfl (by simp only [upd, za, zaa]; exact rfl) ?_
  refine lex_k (zan (b := false) rfl rfl rfl) rfl rfl (zap rfl fo29_0 (ev1 rfl)) rfl (by simp only [upd, za, zaa]; exact rfl) ?_
  refine lex_k (zan (b := false) rfl rfl rfl) rfl rfl (op_ldo rfl tb22 (ev2 rfl) rfl rfl) rfl (by simp only [upd, za, zaa]; exact rfl) ?_
  refine lex_k (zan (b := false) rfl rfl rfl) rfl rfl (op_leq rfl (ev2 rfl) (ev2 rfl)) rfl (by simp only [upd, za, zaa]; exact rfl) ?_
  refine lex_r rfl rfl (op_or rfl (ev1 rfl) (ev3 rfl (fun _ => rfl))) ?_
  refine lex_nil ?_
  refine dwp_if_f rfl (by simp; omega) ?_
  refine zak ?_
  refine zaf ?_
  refine zac ?_
  refine zab rfl rfl rfl (zad (.inl rfl) (ev1 rfl)) ?_
  refine zab rfl rfl rfl (zad (.inl rfl) (ev1 rfl)) ?_
  refine zab rfl rfl rfl (op_lenm rfl sl56 (ev1 rfl)) ?_
  refine zab rfl rfl rfl (op_sub' rfl (ev1 rfl) (ev1 rfl) (fun _ => IntWalk.i64_in _ (by omega))) ?_
  refine zab rfl rfl rfl (zad (.inl rfl) (ev1 rfl)) ?_
  refine zab rfl rfl rfl (op_sub' rfl (ev1 rfl) (ev1 rfl) (fun _ => IntWalk.i64_in _ (by omega))) ?_
  refine zab rfl rfl rfl (op_ixmr (l.length - 1 - n.toNat) (by decide) rfl sl56 (ev1 rfl) (ev1 rfl) (fun _ => by omega) (by omega) (fun _ => rfl)) ?_
  refine zab rfl rfl rfl (op_fadm rfl fo68_0 (ev1 rfl)) ?_
  refine zab rfl rfl rfl (op_fadm rfl fo61_0 (ev1 rfl)) ?_
  refine zab rfl rfl rfl ((op_lddm rfl tb22 (ev1 rfl) rfl).cast (d' := .val (.int .u64 (tmL ⟨0, z9, l⟩ n))) (by rw [tm_at (n := n) (j := l.length - 1 - n.toNat) (by omega) rfl])) ?_
  refine zab rfl rfl rfl (zap rfl fo29_2 (ev1 rfl)) ?_
  refine zax rfl rfl (op_st1 rfl tb22 (ev1 rfl) (ev1 rfl) rfl (by simp only [zao]; omega) (frC_wprx _ (by omega))) (by simp only [upd, za, zaa]; exact rfl) ?_
  refine zae ?_
  refine zaf ?_
  refine zac ?_
  refine zab rfl rfl rfl (zas rfl tb29 (ev1 rfl) rfl (zao _)) ?_
  refine zax rfl rfl (op_stwa rfl tb29 (ev1 rfl) (ev1 rfl) rfl (zao _) (frC_oc _) rfl) (by simp only [upd, za, zaa]; exact rfl) ?_
  refine zab rfl rfl rfl (zad (.inr rfl) (ev1 rfl)) ?_
  refine zae ?_
  refine zau ?_
  refine kend0 (rs2 rfl (rv_w tb29 rfl rfl (zao _)) (rv_t rfl)) rfl ?_
  rfl
theorem refP_d (f : FrM) (l : List OpM) (n : Int) : DFun Tryz.prog 34 [.val (.agg (frC f).toArray), .slm 19 l.length (l.flatMap opD), .val (.int .i64 n)] [] (.tup [.val (.agg (frC (refP f l n).1).toArray), .val (.int .i64 (refP f l n).2)]) [] := by
  unfold refP
  by_cases hn : n < 0
  · rw [if_pos hn]; exact refP_arg f l n hn
  · rw [if_neg hn]
    by_cases hp : f.pr = 0
    · rw [if_neg (fun h => h hp)]
      by_cases hm : n < (l.length : Int)
      · rw [if_neg (fun h => h hm)]
        by_cases ht : (f.fo : Int) < tmL ⟨0, z9, l⟩ n
        · rw [if_neg (fun h => h ht)]; exact refP_ok f l n hn hp hm ht
        · rw [if_pos ht]; exact refP_low f l n hn hp hm ht
      · rw [if_pos hm]; exact refP_few f l n hn hp hm
    · rw [if_pos hp]; exact refP_there f l n hn hp
end Go.Proofs.YtnjnhghafjlmbaaGreat
