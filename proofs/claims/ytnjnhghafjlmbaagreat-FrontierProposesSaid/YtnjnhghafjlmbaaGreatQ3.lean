/- Rows of families that grow by append; a row that a variable's cell names joins a family; what types are; numbers of sites: which may be; rows of numbers of sites; which one covers which; numbers of sites, joined; frontiers: which may be; frontiers that register sites, and hear; frontiers that hear; the sites that are registered, told; what is asked for; who is waited for; who is waited for. No condition. -/
import Derived.Test.YtnjnhghafjlmbaaGreatQ2
import Derived.Test.YtnjnhghafjlmbaaGreatRows
import Derived.Test.YtnjnhghafjlmbaaGreatProg
import Derived.OpenShut
import Derived.ChangeArms
import Derived.DataReads
import Derived.Below
import Derived.Deep.Slices
import Derived.JoinedOf
import Derived.JoinedAt
import Derived.Lib.SmallJoins
import Derived.Carry
import Derived.ProofKit
import Derived.RowKit3
import Derived.WalkKit
import Derived.Laws.AppendOwn
import Derived.RangeFuncRecord
import Derived.RangeFuncLeaves
import Derived.OrdersIn
import Derived.Deep.MidRow
import Derived.Laws.MakeOwn
import Derived.IntWalk
import Derived.Laws.OwnMore
import Derived.OwnWalk
import Derived.Recover
import Derived.RangeFuncIn
import Derived.Laws.StructEq
import Derived.LaidMore
import Derived.Handed
import Derived.LaidHandle
import Derived.Stop.Joined
import Derived.Laws.IdiomCopy
import Derived.Laws.Pointers
import Derived.Laws.LoneSync
namespace Go.Proofs.YtnjnhghafjlmbaaGreat
set_option linter.unusedVariables false
set_option linter.unusedSimpArgs false
open Go.RowKit
theorem DGives.of_tr {P : Program} {s s1 : St} {post : St → Value → Prop} {r : Result Next} (t : Tr s s1) (hw : s1.w = s.w) (h : DGives P s1 post r) : DGives P s post r := by
  have key : ∀ {w' : World} {v : Value}, (∃ s', s'.w = w' ∧ Tr s1 s' ∧ post s' v) → ∃ s', s'.w = w' ∧ Tr s s' ∧ post s' v := by
    rintro w' v ⟨s', rfl, a2, a3⟩
    exact ⟨s', rfl, t.trans a2, a3⟩
  cases r with
  | halt x w => exact h.elim
  | ok x w =>
    cases x with
    | value v => exact key h
    | skip => exact key h
    | enter f args =>
      obtain ⟨h1, h2⟩ := h
      refine ⟨h1.trans hw, ?_⟩
      rw [← hw]
      refine h2.mono ?_
      rintro e w'' ⟨s', v, e1, e2, e3, e4⟩
      exact ⟨s', v, e1, e2, t.trans e3, e4⟩
    | round l f tmps asg body =>
      obtain ⟨h1, h2⟩ := h
      refine ⟨h1.trans hw, ?_⟩
      rw [← hw]
      refine RoundIn.mono h2 ?_
      rintro e w'' ⟨s', v, e1, e2, e3, e4⟩
      exact ⟨s', v, e1, e2, t.trans e3, e4⟩
    | _ => exact h.elim
section
variable {P : Program} {pc : Bool} {o : Oper} {F : Fr} {M : List Blk}
/-- a row of a family, appended to: the row that comes is a new member -/
theorem op_appF {T e : TypeId} {sz by' n m f j1 j2 k t t2 : Nat} {Bs : List Mem} {L L2 Z : List Value} (ho : o.op = .call { callee := .builtin .append, args := #[.tmp t, .tmp t2], argTypes := #[T, T] }) (ht : (t == t2) = false) (hT : slE P T = some (e, sz, by')) (hZ : zrC P e = some Z) (hZl : Z.length = sz)
    (hx : Ev pc F (.tmp t) (.farr f k)) (hy : Ev pc F (.tmp t2) (.slf sz m L2)) (hM : M[f]? = some (.fam Bs)) (hB : Bs[k]? = some (.arr e sz n L)) (hj1 : M[j1]? = some .hole) (hj2 : M[j2]? = some .hole) (hne : (j1 == j2) = false) (h1 : pc = true → L2.all (·.oneCell') = true) (hbd : pc = true → (n + m) * by' ≤ 140737488355328 ∧ n + m ≤ 140737488355328) :
    DOp P pc o F M [f, j1, j2] (.farr f Bs.length) [(f, .fam (Bs.set k .gone ++ [.arr e sz (n + m) (L ++ L2)])), (j1, .gone), (j2, .gone)] := by
  intro hp a s hok hops hfp
  have ht : t ≠ t2 := by simpa using ht
  have hne : j1 ≠ j2 := by simpa using hne
  have hmem : o.op.operands = #[.tmp t, .tmp t2] := by rw [ho]; rfl
  have rx := ev_at hp hx (by rw [hmem]; simp) hops
  have ry := ev_at hp hy (by rw [hmem]; simp) hops
  have hM' : s.M[f]? = some (.fam Bs) := by rw [hfp f (by simp)]; exact hM
  have g1 : s.M[j1]? = some .hole := by rw [hfp j1 (by simp)]; exact hj1
  have g2 : s.M[j2]? = some .hole := by rw [hfp j2 (by simp)]; exact hj2
  have hf1 : f ≠ j1 := fun e => by subst e; rw [hM'] at g1; cases g1
  have hf2 : f ≠ j2 := fun e => by subst e; rw [hM'] at g2; cases g2
  have hfl := (List.getElem?_eq_some_iff.1 hM').1
  have hl1 := (List.getElem?_eq_some_iff.1 g1).1
  have hl2 := (List.getElem?_eq_some_iff.1 g2).1
  generalize hvx : a.eval (.tmp t) = vx at rx
  cases rx with
  | @farr _ _ ad n' c hs q1 q2 =>
    have tt := tr_rel (B := .arr e sz n L) hok hM' g1 hB rfl q1 q2
    obtain ⟨s1, e1⟩ : ∃ s1 : St, s1 = ⟨s.β.set j1 (.slice ad n' c), s.I, (s.M.set f (.fam (Bs.set k .gone))).set j1 (.arr e sz n L), s.w⟩ := ⟨_, rfl⟩
    have tt : Tr s s1 := by rw [e1]; exact tt
    have hM1 : s1.M = (s.M.set f (.fam (Bs.set k .gone))).set j1 (.arr e sz n L) := by rw [e1]
    have hw1 : s1.w = s.w := by rw [e1]
    have hβ1 : s1.β[j1]? = some (.slice ad n' c) := by rw [e1]; show (s.β.set j1 _)[j1]? = _; rw [List.getElem?_set_self (by rw [hok.len]; exact hl1)]
    have m1 : s1.M[j1]? = some (.arr e sz n L) := by rw [hM1, List.getElem?_set_self (by simpa using hl1)]
    have m2 : s1.M[j2]? = some .hole := by rw [hM1, List.getElem?_set_ne hne, List.getElem?_set_ne hf2]; exact g2
    have m3 : s1.M[f]? = some (.fam (Bs.set k .gone)) := by rw [hM1, List.getElem?_set_ne (Ne.symm hf1), List.getElem?_set_self hfl]
    have ra : Rep s1 (.arr j1) (a.eval (.tmp t)) := by rw [hvx]; exact .arr hβ1
    have hl : ∀ x ∈ o.op.operands, ∀ d, ev [(t, D.arr j1), (t2, .slf sz m L2)] x = some d → Rep s1 d (a.eval x) := by
      intro x hx' d hd
      rw [hmem] at hx'
      simp at hx'
      rcases hx' with rfl | rfl
      · simp only [ev, lk, Nat.beq_refl, cond_true] at hd
        cases hd
        exact ra
      · have hb : Nat.beq t t2 = false := by
          cases hbb : Nat.beq t t2
          · rfl
          · exact absurd (Nat.eq_of_beq_eq_true hbb) ht
        simp only [ev, lk, hb, Nat.beq_refl, cond_true, cond_false] at hd
        cases hd
        exact ry.mono hok tt
    have hb : Nat.beq t t2 = false := by
      cases hbb : Nat.beq t t2
      · rfl
      · exact absurd (Nat.eq_of_beq_eq_true hbb) ht
    have hD := op_app (P := P) (pc := true) (F := [(t, D.arr j1), (t2, .slf sz m L2)]) (M := s1.M) (i := j1) (j := j2) (d := .slf sz m L2) (fp := []) ho hT hZ hZl (ev1 (by simp only [ev, lk, Nat.beq_refl, cond_true])) (ev1 (by simp only [ev, lk, hb, Nat.beq_refl, cond_true, cond_false])) src_slf m1 m2 (fun _ => h1 hp) (fun _ => hbd hp) rfl a s1 tt.ok hl (fun _ _ => rfl)
    rw [hw1] at hD
    refine (DGives.of_tr tt hw1 hD).map fun s' v ho' ⟨u1, u2⟩ => ?_
    have hs'M : s'.M = (s1.M.set j1 .gone).set j2 (.arr e sz (n + m) (L ++ L2)) := u1
    have k2 : s'.M[j2]? = some (.arr e sz (n + m) (L ++ L2)) := by rw [hs'M, List.getElem?_set_self (by rw [List.length_set, hM1]; simpa using hl2)]
    have k3 : s'.M[f]? = some (.fam (Bs.set k .gone)) := by rw [hs'M, List.getElem?_set_ne (Ne.symm hf2), List.getElem?_set_ne (Ne.symm hf1)]; exact m3
    have hlen' := ho'.len
    have kf := (List.getElem?_eq_some_iff.1 k3).1
    have kj := (List.getElem?_eq_some_iff.1 k2).1
    obtain ⟨x, hx2⟩ : ∃ x, s'.β[f]? = some x := ⟨_, List.getElem?_eq_getElem (by omega)⟩
    obtain ⟨y, hy2⟩ : ∃ y, s'.β[j2]? = some y := ⟨_, List.getElem?_eq_getElem (by omega)⟩
    obtain ⟨hs2, rfl, hfo⟩ := ho'.blk f _ x k3 hx2
    have t3 := tr_abs (B := .arr e sz (n + m) (L ++ L2)) ho' k3 k2 rfl hx2 hy2
    refine ⟨⟨s'.β.set f (.tuple (hs2 ++ [y]).toArray), s'.I, (s'.M.set j2 .gone).set f (.fam (Bs.set k .gone ++ [.arr e sz (n + m) (L ++ L2)])), s'.w⟩, rfl, t3, ?_, ?_⟩
    · show (s'.M.set j2 .gone).set f _ = ((s.M.set f _).set j1 .gone).set j2 .gone
      rw [hs'M, hM1]
      apply List.ext_getElem?
      intro i
      simp only [List.getElem?_set, List.length_set]
      by_cases a1 : f = i
      · subst a1
        simp [hf1.symm, hf2.symm, hfl]
      · by_cases a2 : j1 = i
        · subst a2
          simp [a1, hne.symm, hl1]
        · by_cases a3 : j2 = i
          · subst a3
            simp [a1, a2, hl2]
          · simp [a1, a2, a3]
    · cases u2 with
      | @arr _ ad' n'' c' hβ =>
        rw [hy2] at hβ
        obtain rfl := Option.some.inj hβ
        refine .farr (hs := hs2 ++ [.slice ad' n'' c']) (by show (s'.β.set f _)[f]? = _; rw [List.getElem?_set_self (by omega)]) ?_
        have : hs2.length = Bs.length := by rw [hfo.len]; simp
        rw [List.getElem?_append_right (by omega), show Bs.length - hs2.length = 0 by omega]
        rfl
end
section
variable {P : Program} {s0 : St} {n : Cx}
/-- a row of one's own that a variable's cell names joins a family -/
theorem inv_absc {F : Fr} {M : List Blk} {a : Act} {w : World} {p q j f : Nat} {T e : TypeId} {l : List D} {sz m : Nat} {L : List Value} {Bs : List Mem} (h : Inv s0 n F M a w) (hM : M[p]? = some (.mix T l)) (hq : l[q]? = some (.arr j)) (hj : M[j]? = some (.arr e sz m L)) (hf : M[f]? = some (.fam Bs)) : Inv s0 n F (((M.set j .gone).set f (.fam (Bs ++ [.arr e sz m L]))).set p (.mix T (l.set q (.farr f Bs.length)))) a w := by
  obtain ⟨h0, s, rfl, rfl, h3, h4, h5, h6⟩ := h
  have hlen := h3.ok.len
  have hfl := (List.getElem?_eq_some_iff.1 hf).1
  have hjl := (List.getElem?_eq_some_iff.1 hj).1
  have hpl := (List.getElem?_eq_some_iff.1 hM).1
  have hpj : p ≠ j := fun e => by subst e; rw [hM] at hj; cases hj
  have hpf : p ≠ f := fun e => by subst e; rw [hM] at hf; cases hf
  obtain ⟨x, hx⟩ : ∃ x, s.β[f]? = some x := ⟨_, List.getElem?_eq_getElem (by omega)⟩
  obtain ⟨y, hy⟩ : ∃ y, s.β[j]? = some y := ⟨_, List.getElem?_eq_getElem (by omega)⟩
  obtain ⟨z, hz⟩ : ∃ z, s.β[p]? = some z := ⟨_, List.getElem?_eq_getElem (by omega)⟩
  obtain ⟨hs, rfl, hfo⟩ := h3.ok.blk f _ x hf hx
  have tt := tr_abs (B := .arr e sz m L) h3.ok hf hj rfl hx hy
  obtain ⟨s1, e1⟩ : ∃ s1 : St, s1 = ⟨s.β.set f (.tuple (hs ++ [y]).toArray), s.I, (s.M.set j .gone).set f (.fam (Bs ++ [.arr e sz m L])), s.w⟩ := ⟨_, rfl⟩
  have tt : Tr s s1 := by rw [e1]; exact tt
  have hM1 : s1.M = (s.M.set j .gone).set f (.fam (Bs ++ [.arr e sz m L])) := by rw [e1]
  have hw1 : s1.w = s.w := by rw [e1]
  have hp1 : s1.M[p]? = some (.mix T l) := by rw [hM1, List.getElem?_set_ne (Ne.symm hpf), List.getElem?_set_ne (Ne.symm hpj)]; exact hM
  have hz1 : s1.β[p]? = some z := by rw [e1]; show (s.β.set f _)[p]? = _; rw [List.getElem?_set_ne (Ne.symm hpf)]; exact hz
  have hpl1 : p < s1.M.length := (List.getElem?_eq_some_iff.1 hp1).1
  have hset : s1.β.set p z = s1.β := by
    have h1 : p < s1.β.length := by rw [tt.ok.len]; exact hpl1
    have h2 : s1.β[p] = z := by
      have := List.getElem?_eq_getElem h1
      rw [hz1] at this
      exact (Option.some.inj this).symm
    rw [← h2]
    exact List.set_getElem_self ..
  obtain ⟨b, vs, k1, k2, k3, k4⟩ := tt.ok.blk p _ z hp1 hz1
  have hql := (List.getElem?_eq_some_iff.1 hq).1
  have t2 : Tr s1 ⟨s1.β, s1.I, s1.M.set p (.mix T (l.set q (.farr f Bs.length))), s1.w⟩ := by
    have hst := step_set tt.ok p s1.M z (.mix T (l.set q (.farr f Bs.length))) s1.w rfl (fun i k h => .inl h) hpl1 (.inr (.inl hz1)) (by rw [k1]; simp) ?_ (fun b' hb' j' kj hj' hne h1 h2 h3' h4' => ?_) (fun b' hb' => .inr (live_of hp1 rfl hz1 hb')) (fun b' hb' => (tt.ok.lt b' (live_of hp1 rfl hz1 hb')).1) (fun _ => False) (fun _ h => h.elim) (fun b' hlt hne _ => rfl) rfl rfl rfl (Nat.le_refl _)
    · rw [hset] at hst
      exact hst
    · refine ⟨b, vs, k1, k2, by simp [k3], fun j' d v g1 g2 => ?_⟩
      rw [hset]
      have lift : ∀ {d v}, Rep s1 d v → Rep ⟨s1.β, s1.I, s1.M.set p (.mix T (l.set q (.farr f Bs.length))), s1.w⟩ d v := fun hr =>
        Rep.mono' (s := s1) (s' := ⟨s1.β, s1.I, s1.M.set p (.mix T (l.set q (.farr f Bs.length))), s1.w⟩) (fun _ _ h _ => h) (fun _ h => h) (fun _ _ => rfl) hr
      by_cases e : q = j'
      · subst e
        rw [List.getElem?_set_self hql] at g1
        cases g1
        refine lift ?_
        have hr := k4 q _ v hq g2
        have hy1 : s1.β[j]? = some y := by
          have hjf : f ≠ j := fun e => by subst e; rw [hf] at hj; cases hj
          rw [e1]; show (s.β.set f _)[j]? = _; rw [List.getElem?_set_ne hjf]; exact hy
        cases hr with
        | @arr _ ad n' c hβ =>
          rw [hy1] at hβ
          obtain rfl := Option.some.inj hβ
          refine .farr (hs := hs ++ [.slice ad n' c]) (by rw [e1]; show (s.β.set f _)[f]? = _; rw [List.getElem?_set_self (by omega)]) ?_
          rw [List.getElem?_append_right (by rw [hfo.len]; exact Nat.le_refl _), hfo.len, Nat.sub_self]
          rfl
      · rw [List.getElem?_set_ne e] at g1
        exact lift (k4 j' d v g1 g2)
    · exact hne (tt.ok.inj j' p kj _ hj' _ b' h1 h2 h3' h4' hp1 rfl hz1 hb')
  refine ⟨h0, ⟨s1.β, s1.I, s1.M.set p (.mix T (l.set q (.farr f Bs.length))), s1.w⟩, by rw [hM1], hw1, (h3.trans tt).trans t2, fun x d hd => ((h4 x d hd).mono h3.ok tt).mono tt.ok t2, h5, (h6.mono h3.ok tt).mono tt.ok t2⟩
theorem dwp_absc {c : Code} {F : Fr} {M M' : List Blk} {K : Cont} (p q f : Nat) {j : Nat} {T e : TypeId} {l : List D} {sz m : Nat} {L : List Value} {Bs : List Mem} (hM : M[p]? = some (.mix T l)) (hq : l[q]? = some (.arr j)) (hj : M[j]? = some (.arr e sz m L)) (hf : M[f]? = some (.fam Bs)) (hM' : ((M.set j .gone).set f (.fam (Bs ++ [.arr e sz m L]))).set p (.mix T (l.set q (.farr f Bs.length))) = M') (h : dwp P s0 n c F M' K) : dwp P s0 n c F M K := by
  subst hM'
  exact fun a w hh => h a w (inv_absc hh hM hq hj hf)
end
section
variable {P : Program} {pc : Bool} {o : Oper} {F : Fr} {M : List Blk} {T : TypeId} {x y : Operand} {k : IntKind} {z : Int} {n sz : Nat}
/-- an array of structs that is a value with addresses, at a place -/
theorem op_ixwr {ds : List D} (j : Nat) (ho : o.op = .index T x y) (hT : arV P T = some (n, sz)) (hx : Ev pc F x (.agg ds)) (hy : Ev pc F y (.val (.int k z))) (hz : pc = true → z = (j : Int)) (hj : pc = true → j < n) (hl : j * sz + sz ≤ ds.length) : DOp P pc o F M [] (.agg ((ds.drop (j * sz)).take sz)) [] := by
  intro hp a s hok hops _
  have hr := ev_at hp hx (by simp [ho, Op.operands]) hops
  have e2 := (ev_at hp hy (by simp [ho, Op.operands]) hops).val_eq
  rw [hz hp] at e2
  obtain ⟨e, hu, he⟩ := arV_spec hT
  obtain ⟨dd, i, h1, h2, h3, h4⟩ := tyB_spec he
  have hj := hj hp
  generalize hv : a.eval x = vx at hr
  cases hr with
  | @agg _ vs hvl hel =>
    refine dg_val (v := .agg ((vs.drop (j * sz)).take sz).toArray) hok ?_ (.agg (by simp [hvl]) fun j' d v g1 g2 => ?_)
    · unfold execOp
      simp only [ho, hv, e2]
      refine run_v ?_
      have hagg : (isAgg e).run P s.w = .ok true s.w := by
        unfold isAgg
        rw [Sem.run_bind, run_underlying h1]
        cases dd <;> first | rfl | cases h3
      have hsz : (sizeOf e).run P s.w = .ok sz s.w := by simp [sizeOf, typeInfo, h2, h4]
      have hb : (0 : Int) ≤ (j : Int) ∧ (j : Int) < (n : Int) := by omega
      unfold Instr.index
      simp only [Sem.run_bind, asIntOf, Sem.run_pure, Result.andThen_ok, run_underlying hu, hb, and_self, if_true, hsz, part, hagg, Int.toNat_natCast]
      simp only [List.extract_toArray, List.extract_eq_take_drop, Nat.add_sub_cancel_left]
    · have hj' : j' < sz := by
        have := (List.getElem?_eq_some_iff.1 g1).1
        rw [List.length_take] at this
        omega
      rw [List.getElem?_take_of_lt hj', List.getElem?_drop] at g1 g2
      exact hel _ _ _ g1 g2
end
/-- plain cells, told as a plain struct -/
theorem Wk.aggv (l : List Value) : Wk (.agg (l.map D.val)) (.val (.agg l.toArray)) := fun s v hr => by
  cases hr with
  | @agg _ vs hl h =>
    have : vs = l := by
      apply List.ext_getElem
      · simpa using hl
      · intro j h1 h2
        exact (h j (.val l[j]) vs[j] (by rw [List.getElem?_map, List.getElem?_eq_getElem h2]; rfl) (List.getElem?_eq_getElem h1)).val_eq
    subst this
    exact .val _
/-- a plain struct behind a pointer into memory that stays -/
theorem op_lddv {P : Program} {pc : Bool} {o : Oper} {F : Fr} {M : List Blk} {T : TypeId} {x : Operand} {k : Nat} {l : List D} (L : List Value) (ho : o.op = .load T x) (hT : tyB P T = some (true, k)) (hx : Ev pc F x (.dpm l)) (hL : l.take k = L.map D.val) (hk : L.length = k) : DOp P pc o F M [] (.val (.agg L.toArray)) [] :=
  (op_lddr (R := L.map D.val) ho hT hx hL (by simpa using hk)).wk (Wk.aggv L)
end Go.Proofs.YtnjnhghafjlmbaaGreat
namespace Go.Proofs.YtnjnhghafjlmbaaGreat
set_option linter.unusedVariables false
set_option linter.unusedSimpArgs false
open Go.RowKit
theorem mixed : Tryz.prog.follows .mixedOrders = true := by kernel_rfl
structure I3 where
  t : Int
  s : Int
  q : Int
deriving DecidableEq
def idc (i : I3) : List Value := [.int .u64 i.t, .int .i64 i.s, .int .u64 i.q]
def isNum (n : Int) : Bool := decide (1 ≤ n) && decide (n ≤ 4611686018427387904)
def isSt (n : Int) : Bool := decide (1 ≤ n) && decide (n ≤ 8)
def mayR (i : I3) : Bool := isNum i.t && (isSt i.s && isNum i.q)
def errOr (b : Bool) (n : Int) : Int := match b with | true => 0 | false => n
def lessR (a b : I3) : Bool := if a.t ≠ b.t then decide (a.t < b.t) else if a.s ≠ b.s then decide (a.s < b.s) else decide (a.q < b.q)
def cmpI (x y : Int) : Int := if x < y then -1 else if y < x then 1 else 0
def orL : List Int → Int
  | [] => 0
  | a :: l => if a ≠ 0 then a else orL l
theorem orL_drop {l : List Int} {k : Nat} (h : k < l.length) : orL (l.drop k) = if l[k] ≠ 0 then l[k] else orL (l.drop (k + 1)) := by
  rw [List.drop_eq_getElem_cons h, orL]
def eqI (a b : I3) : Bool := (a.t == b.t) && ((a.s == b.s) && ((a.q == b.q) && true))
theorem eqI_iff {a b : I3} : eqI a b = true ↔ a = b := by
  obtain ⟨t, s, q⟩ := a
  obtain ⟨t', s', q'⟩ := b
  simp [eqI]
def cmpR (a b : I3) : Int := if eqI a b then 0 else orL [cmpI a.t b.t, cmpI a.s b.s, cmpI a.q b.q]
def lessC (a b : I3) : Bool := decide (cmpR a b < 0)
theorem lessC_R (a b : I3) : lessC a b = lessR a b := by
  obtain ⟨t, s, q⟩ := a
  obtain ⟨t', s', q'⟩ := b
  unfold lessC lessR cmpR
  simp only [eqI, orL, cmpI]
  by_cases h1 : t = t' <;> by_cases h2 : s = s' <;> by_cases h3 : q = q' <;> simp_all <;> (repeat' split) <;> simp_all <;> omega
def inI (n : Int) : List Value := [.int .i64 n]
structure C4 where
  r : Int
  g : Int
  b : Int
  a : Int
deriving DecidableEq
def c4 (c : C4) : List Value := [.int .u8 c.r, .int .u8 c.g, .int .u8 c.b, .int .u8 c.a]
def zC4 : C4 := ⟨0, 0, 0, 0⟩
def zI3 : I3 := ⟨0, 0, 0⟩
def eqC (u v : C4) : Bool := (u.r == v.r) && ((u.g == v.g) && ((u.b == v.b) && ((u.a == v.a) && true)))
theorem eqC_iff {u v : C4} : eqC u v = decide (u = v) := by
  obtain ⟨r, g, b, a⟩ := u
  obtain ⟨r', g', b', a'⟩ := v
  rw [Bool.eq_iff_iff]
  simp [eqC]
/-- an operation -/
structure OpM where
  id : I3
  kd : Int
  x : Int
  y : Int
  x2 : Int
  y2 : Int
  sz : Int
  co : C4
  sw : Int
  sh : Int
  px : List C4
  tg : I3
deriving DecidableEq
def iD (n : Int) : D := .val (.int .i64 n)
abbrev pxD (l : List C4) : D := .slf 4 l.length (l.flatMap c4)
def opD (o : OpM) : List D := [.val (.int .u64 o.id.t), .val (.int .i64 o.id.s), .val (.int .u64 o.id.q), .val (.int .i64 o.kd), .val (.int .i64 o.x), .val (.int .i64 o.y), .val (.int .i64 o.x2), .val (.int .i64 o.y2), .val (.int .i64 o.sz),
  .val (.int .u8 o.co.r), .val (.int .u8 o.co.g), .val (.int .u8 o.co.b), .val (.int .u8 o.co.a), .val (.int .i64 o.sw), .val (.int .i64 o.sh), pxD o.px, .val (.int .u64 o.tg.t), .val (.int .i64 o.tg.s), .val (.int .u64 o.tg.q)]
def drB (n : Int) : Bool := decide (-64 ≤ n) && decide (n ≤ 127)
def siD (n : Int) : Bool := decide (1 ≤ n) && decide (n ≤ 8)
def stB (w h : Int) (l : List C4) : Bool := siD w && siD h && decide ((l.length : Int) = w * h)
def mostK (k : Int) : Int := if k = 5 then 1020 else if k = 1 ∨ k = 2 then 15 else 0
def opB (o : OpM) : Bool :=
  (decide (1 ≤ o.kd) && decide (o.kd ≤ 8)) && mayR o.id
  && (if o.kd ≤ 6 then drB o.x && drB o.y else decide (o.x = 0) && decide (o.y = 0))
  && (if o.kd ≤ 4 then drB o.x2 && drB o.y2 else decide (o.x2 = 0) && decide (o.y2 = 0))
  && (if o.kd = 1 ∨ o.kd = 2 ∨ o.kd = 5 then decide (0 ≤ o.sz) && decide (o.sz ≤ mostK o.kd) else decide (o.sz = 0))
  && (decide (o.kd ≤ 5) || decide (o.co = zC4))
  && (if o.kd = 6 then stB o.sw o.sh o.px else decide (o.sw = 0) && decide (o.sh = 0) && decide (o.px = []))
  && (if 7 ≤ o.kd then mayR o.tg && lessR o.tg o.id else decide (o.tg = zI3))
/-- numbers of sites, by their numbers -/
abbrev Vec := Nat → Nat
def c9 (v : Vec) : List Value := [.int .u64 (v 0), .int .u64 (v 1), .int .u64 (v 2), .int .u64 (v 3), .int .u64 (v 4), .int .u64 (v 5), .int .u64 (v 6), .int .u64 (v 7), .int .u64 (v 8)]
def upV {α : Type} (v : Nat → α) (j : Nat) (x : α) : Nat → α := fun i => if i = j then x else v i
theorem lt9 {P : Nat → Prop} (h0 : P 0) (h1 : P 1) (h2 : P 2) (h3 : P 3) (h4 : P 4) (h5 : P 5) (h6 : P 6) (h7 : P 7) (h8 : P 8) : ∀ j, j < 9 → P j
  | 0, _ => h0 | 1, _ => h1 | 2, _ => h2 | 3, _ => h3 | 4, _ => h4 | 5, _ => h5 | 6, _ => h6 | 7, _ => h7 | 8, _ => h8
  | n + 9, h => absurd h (by omega)
theorem c9_len (v : Vec) : (c9 v).length = 9 := rfl
theorem c9_at (v : Vec) : ∀ j, j < 9 → (c9 v)[j]? = some (.int .u64 (v j)) := lt9 rfl rfl rfl rfl rfl rfl rfl rfl rfl
theorem c9_set (v : Vec) (x : Nat) : ∀ j, j < 9 → (c9 v).set j (.int .u64 x) = c9 (upV v j x) := lt9 rfl rfl rfl rfl rfl rfl rfl rfl rfl
def z9 : Vec := fun _ => 0
/-- a pledge -/
structure Pl where
  inn : Bool
  fl : Nat
  fs : Nat
  has : Vec
def plC (p : Pl) : List Value := .bool p.inn :: .int .u64 p.fl :: .int .u64 p.fs :: c9 p.has
theorem plC_len (p : Pl) : (plC p).length = 12 := rfl
def zP : Pl := ⟨false, 0, 0, z9⟩
/-- a frontier -/
structure FrM where
  fo : Nat
  bv : Vec
  pr : Nat
  st : Nat → Pl
def stC (s : Nat → Pl) : List Value := plC (s 0) ++ (plC (s 1) ++ (plC (s 2) ++ (plC (s 3) ++ (plC (s 4) ++ (plC (s 5) ++ (plC (s 6) ++ (plC (s 7) ++ plC (s 8))))))))
def frC (f : FrM) : List Value := .int .u64 f.fo :: (c9 f.bv ++ (.int .u64 f.pr :: stC f.st))
theorem zao (f : FrM) : (frC f).length = 119 := rfl
theorem stC_at (s : Nat → Pl) : ∀ j, j < 9 → ((stC s).drop (j * 12)).take 12 = plC (s j) := lt9 (by kernel_rfl) (by kernel_rfl) (by kernel_rfl) (by kernel_rfl) (by kernel_rfl) (by kernel_rfl) (by kernel_rfl) (by kernel_rfl) (by kernel_rfl)
theorem frC_at (f : FrM) : ∀ j, j < 9 → ((frC f).drop (11 + j * 12)).take 12 = plC (f.st j) := lt9 (by kernel_rfl) (by kernel_rfl) (by kernel_rfl) (by kernel_rfl) (by kernel_rfl) (by kernel_rfl) (by kernel_rfl) (by kernel_rfl) (by kernel_rfl)
theorem frC_in (f : FrM) : ∀ j, j < 9 → (frC f)[11 + j * 12]? = some (.bool (f.st j).inn) := lt9 (by kernel_rfl) (by kernel_rfl) (by kernel_rfl) (by kernel_rfl) (by kernel_rfl) (by kernel_rfl) (by kernel_rfl) (by kernel_rfl) (by kernel_rfl)
theorem frC_fl (f : FrM) : ∀ j, j < 9 → (frC f)[11 + j * 12 + 1]? = some (.int .u64 (f.st j).fl) := lt9 (by kernel_rfl) (by kernel_rfl) (by kernel_rfl) (by kernel_rfl) (by kernel_rfl) (by kernel_rfl) (by kernel_rfl) (by kernel_rfl) (by kernel_rfl)
theorem frC_has (f : FrM) : ∀ j, j < 9 → ((frC f).drop (11 + j * 12 + 3)).take 9 = c9 (f.st j).has := lt9 (by kernel_rfl) (by kernel_rfl) (by kernel_rfl) (by kernel_rfl) (by kernel_rfl) (by kernel_rfl) (by kernel_rfl) (by kernel_rfl) (by kernel_rfl)
def FrM.sw (f : FrM) (j : Nat) (p : Pl) : FrM := { f with st := upV f.st j p }
theorem frC_sw (f : FrM) (p : Pl) : ∀ j, j < 9 → setL (frC f) (11 + j * 12) (plC p) = frC (f.sw j p) := lt9 (by kernel_rfl) (by kernel_rfl) (by kernel_rfl) (by kernel_rfl) (by kernel_rfl) (by kernel_rfl) (by kernel_rfl) (by kernel_rfl) (by kernel_rfl)
theorem frC_wfl (f : FrM) (x : Nat) : ∀ j, j < 9 → (frC f).set (11 + j * 12 + 1) (.int .u64 x) = frC (f.sw j { f.st j with fl := x }) := lt9 (by kernel_rfl) (by kernel_rfl) (by kernel_rfl) (by kernel_rfl) (by kernel_rfl) (by kernel_rfl) (by kernel_rfl) (by kernel_rfl) (by kernel_rfl)
theorem frC_wfs (f : FrM) (x : Nat) : ∀ j, j < 9 → (frC f).set (11 + j * 12 + 2) (.int .u64 x) = frC (f.sw j { f.st j with fs := x }) := lt9 (by kernel_rfl) (by kernel_rfl) (by kernel_rfl) (by kernel_rfl) (by kernel_rfl) (by kernel_rfl) (by kernel_rfl) (by kernel_rfl) (by kernel_rfl)
theorem frC_whas (f : FrM) (v : Vec) : ∀ j, j < 9 → setL (frC f) (11 + j * 12 + 3) (c9 v) = frC (f.sw j { f.st j with has := v }) := lt9 (by kernel_rfl) (by kernel_rfl) (by kernel_rfl) (by kernel_rfl) (by kernel_rfl) (by kernel_rfl) (by kernel_rfl) (by kernel_rfl) (by kernel_rfl)
def zF : FrM := ⟨0, z9, 0, fun _ => zP⟩
def eqV (v w : Vec) : Bool := (List.range 9).all fun i => v i == w i
theorem eqV_iff {v w : Vec} : eqV v w = true ↔ c9 v = c9 w := by
  unfold eqV c9
  simp [List.range, List.range.loop]
  omega
theorem all9 {P : Nat → Bool} : (List.range 9).all P = true ↔ ∀ i, i < 9 → P i = true := by
  simp
def eqP (p q : Pl) : Bool := (p.inn == q.inn) && (p.fl == q.fl) && (p.fs == q.fs) && eqV p.has q.has
theorem eqP_iff {p q : Pl} : eqP p q = true ↔ plC p = plC q := by
  unfold eqP plC
  simp only [Bool.and_eq_true, eqV_iff, beq_iff_eq]
  constructor
  · rintro ⟨⟨⟨h1, h2⟩, h3⟩, h4⟩
    rw [h1, h2, h3, h4]
  · intro h
    have h1 := List.cons.inj h
    have h2 := List.cons.inj h1.2
    have h3 := List.cons.inj h2.2
    refine ⟨⟨⟨?_, ?_⟩, ?_⟩, h3.2⟩
    · have := h1.1; simpa using this
    · have := h2.1; simp at this; omega
    · have := h3.1; simp at this; omega
def eqS (s t : Nat → Pl) : Bool := (List.range 9).all fun i => eqP (s i) (t i)
theorem eqS_iff {s t : Nat → Pl} : eqS s t = true ↔ stC s = stC t := by
  unfold eqS
  rw [all9]
  constructor
  · intro h
    unfold stC
    rw [eqP_iff.1 (h 0 (by omega)), eqP_iff.1 (h 1 (by omega)), eqP_iff.1 (h 2 (by omega)), eqP_iff.1 (h 3 (by omega)), eqP_iff.1 (h 4 (by omega)), eqP_iff.1 (h 5 (by omega)), eqP_iff.1 (h 6 (by omega)), eqP_iff.1 (h 7 (by omega)), eqP_iff.1 (h 8 (by omega))]
  · intro h i hi
    rw [eqP_iff, ← stC_at s i hi, ← stC_at t i hi, h]
def eqF (f g : FrM) : Bool := (f.fo == g.fo) && eqV f.bv g.bv && (f.pr == g.pr) && eqS f.st g.st
theorem eqF_iff {f g : FrM} : eqF f g = true ↔ frC f = frC g := by
  unfold eqF
  simp only [Bool.and_eq_true, eqV_iff, eqS_iff, beq_iff_eq]
  unfold frC
  constructor
  · rintro ⟨⟨⟨h1, h2⟩, h3⟩, h4⟩
    rw [h1, h2, h3, h4]
  · intro h
    have h1 := List.cons.inj h
    have h2 := List.append_inj h1.2 rfl
    have h3 := List.cons.inj h2.2
    refine ⟨⟨⟨?_, h2.1⟩, ?_⟩, h3.2⟩
    · have := h1.1; simp at this; omega
    · have := h3.1; simp at this; omega
theorem eqF_refl (f : FrM) : eqF f f = true := eqF_iff.2 rfl
theorem eqV_refl (f : Vec) : eqV f f = true := eqV_iff.2 rfl
abbrev LAST : Nat := 4611686018427387904
def vB (v : Vec) : Bool := decide (v 0 = 0) && (List.range 9).all fun i => decide (v i ≤ LAST)
def plB (p : Pl) : Bool := p.inn && decide (p.fl ≤ LAST) && decide (p.fs ≤ LAST) && vB p.has
/-- may a site's pledge be? -/
def siB (fo i : Nat) (p : Pl) : Bool := eqP p zP || (decide (i ≠ 0) && plB p && decide (fo ≤ p.fl))
def frB (f : FrM) : Bool := decide (f.fo ≤ LAST) && vB f.bv && decide (f.pr ≤ LAST) && (decide (f.pr = 0) || decide (f.fo < f.pr)) && (List.range 9).all fun i => siB f.fo i (f.st i)
def coB (a b : Vec) : Bool := vB a && vB b && (List.range 9).all fun i => decide (b i ≤ a i)
def maxV (a b : Vec) : Vec := fun i => max (a i) (b i)
def isS (s : Int) : Bool := decide (1 ≤ s) && decide (s ≤ 8)
/-- register: the frontier, the error -/
def regF (f : FrM) (s : Int) : FrM × Int :=
  if frB f = false then (zF, 280) else if isS s = false then (zF, 2) else if (f.st s.toNat).inn = true then (zF, 5) else (f.sw s.toNat ⟨true, max f.fo f.pr, 0, z9⟩, 0)
def heP (p q : Pl) : Pl := if p.fl < q.fl then ⟨p.inn, q.fl, q.fs, maxV p.has q.has⟩ else ⟨p.inn, p.fl, p.fs, maxV p.has q.has⟩
def heaF (f : FrM) (s : Int) (p : Pl) : FrM × Int :=
  if frB f = false then (zF, 280) else if (isS s && plB p) = false then (zF, 2) else if (f.st s.toNat).inn = false then (zF, 4) else (f.sw s.toNat (heP (f.st s.toNat) p), 0)
def askV (f : FrM) : Vec := fun i => (f.st i).fs
def waitB (f : FrM) (v : Vec) (i : Nat) : Bool := (f.st i).inn && (decide ((f.st i).fl < f.pr) || decide (v i < (f.st i).fs) || !coB (f.st i).has (askV f))
def waitL (f : FrM) (v : Vec) : List Int := ((List.range 9).filter (waitB f v)).map fun i : Nat => (i : Int)
def readyB (f : FrM) (v : Vec) : Bool := decide (0 < f.pr) && (waitL f v).isEmpty
def folF (f : FrM) (v : Vec) : FrM × Int :=
  if frB f = false then (zF, 280) else if vB v = false then (zF, 2) else if readyB f v = false then (zF, 4) else (⟨f.pr, askV f, 0, f.st⟩, 0)
def rdyF (f : FrM) (v : Vec) : Vec × Bool := if (frB f && vB v && readyB f v) = true then (askV f, true) else (z9, false)
def waiF (f : FrM) (v : Vec) : List Int := if (frB f && vB v && decide (0 < f.pr)) = true then waitL f v else []
def risP (fo : Nat) (p : Pl) : Pl := if p.inn = true then ⟨true, fo, 0, z9⟩ else p
def risF (f : FrM) : FrM × Int := if frB f = false then (zF, 280) else (⟨f.fo, f.bv, 0, fun i => risP f.fo (f.st i)⟩, 0)
def sitL (f : FrM) : List Int := ((List.range 9).filter fun i => (f.st i).inn).map fun i : Nat => (i : Int)
def inS (f : FrM) (s : Int) : Bool := isS s && (f.st s.toNat).inn
def sitF (f : FrM) (l : List Int) : List Int := if frB f = false then [] else if l.isEmpty = true then sitL f else l.filter (inS f)
theorem vB_z9 : vB z9 = true := by decide
theorem vB_iff {v : Vec} : vB v = true ↔ v 0 = 0 ∧ ∀ i, i < 9 → v i ≤ LAST := by
  unfold vB
  rw [Bool.and_eq_true, all9]
  simp
theorem plB_iff {p : Pl} : plB p = true ↔ p.inn = true ∧ p.fl ≤ LAST ∧ p.fs ≤ LAST ∧ vB p.has = true := by
  unfold plB
  simp [Bool.and_eq_true, and_assoc]
theorem eqP_zP {p : Pl} : eqP p zP = true ↔ p.inn = false ∧ p.fl = 0 ∧ p.fs = 0 ∧ ∀ i, i < 9 → p.has i = 0 := by
  unfold eqP eqV
  simp [Bool.and_eq_true, and_assoc, zP, z9]
theorem siB_iff {fo i : Nat} {p : Pl} : siB fo i p = true ↔ eqP p zP = true ∨ (i ≠ 0 ∧ plB p = true ∧ fo ≤ p.fl) := by
  unfold siB
  simp [Bool.and_eq_true, Bool.or_eq_true, and_assoc]
theorem frB_iff {f : FrM} : frB f = true ↔ f.fo ≤ LAST ∧ vB f.bv = true ∧ f.pr ≤ LAST ∧ (f.pr = 0 ∨ f.fo < f.pr) ∧ ∀ i, i < 9 → siB f.fo i (f.st i) = true := by
  unfold frB
  rw [Bool.and_eq_true, all9]
  simp [and_assoc]
theorem siB_in {fo i : Nat} {p : Pl} (h : siB fo i p = true) (hi : p.inn = true) : i ≠ 0 ∧ plB p = true ∧ fo ≤ p.fl := by
  rcases siB_iff.1 h with h | h
  · rw [(eqP_zP.1 h).1] at hi; cases hi
  · exact h
theorem siB_out {fo i : Nat} {p : Pl} (h : siB fo i p = true) (hi : p.inn = false) : eqP p zP = true := by
  rcases siB_iff.1 h with h | h
  · exact h
  · rw [(plB_iff.1 h.2.1).1] at hi; cases hi
theorem isS_iff {s : Int} : isS s = true ↔ 1 ≤ s ∧ s ≤ 8 := by
  unfold isS
  simp
theorem sw_st (f : FrM) (j : Nat) (p : Pl) (i : Nat) : (f.sw j p).st i = if i = j then p else f.st i := rfl
theorem risF_ok {f : FrM} (h : frB f = true) : frB (risF f).1 = true := by
  unfold risF
  rw [h, if_neg (by decide)]
  obtain ⟨h1, h2, h3, h4, h5⟩ := frB_iff.1 h
  refine frB_iff.2 ⟨h1, h2, Nat.zero_le _, .inl rfl, fun i hi => ?_⟩
  show siB f.fo i (risP f.fo (f.st i)) = true
  have := h5 i hi
  unfold risP
  split
  · rename_i hin
    exact siB_iff.2 (.inr ⟨(siB_in this hin).1, plB_iff.2 ⟨rfl, h1, Nat.zero_le _, vB_z9⟩, Nat.le_refl _⟩)
  · exact this
theorem risP_in (fo : Nat) (p : Pl) : (risP fo p).inn = p.inn := by
  unfold risP
  split
  · rename_i h; exact h.symm
  · rfl
theorem sitL_ris {f : FrM} (h : frB f = true) : sitL (risF f).1 = sitL f := by
  unfold risF
  rw [h, if_neg (by decide)]
  unfold sitL
  simp only [risP_in]
theorem sw_sw (f : FrM) (j : Nat) (p q : Pl) : (f.sw j p).sw j q = f.sw j q := by
  unfold FrM.sw upV
  congr 1
  funext i
  dsimp only
  split <;> simp_all
theorem sw_at (f : FrM) (j : Nat) (p : Pl) : (f.sw j p).st j = p := by rw [sw_st, if_pos rfl]
def flL (n : Nat) (l : List Pl) : Nat := l.foldl (fun m q => max m q.fl) n
def vOne (v : Vec) (i : Nat) : Prop := v i ≤ 4611686018427387904 ∧ (i = 0 → v i = 0)
theorem vB_all {v : Vec} : vB v = true ↔ ∀ i, i < 9 → vOne v i := by
  rw [vB_iff]
  constructor
  · intro h i hi
    exact ⟨h.2 i hi, fun e => by rw [e]; exact h.1⟩
  · intro h
    exact ⟨(h 0 (by omega)).2 rfl, fun i hi => (h i hi).1⟩
theorem vB_no {v : Vec} {i : Nat} (hi : i < 9) (h : ¬ vOne v i) : vB v = false := by
  rw [← Bool.not_eq_true, vB_all]
  exact fun e => h (e i hi)
theorem vOne_step {v : Vec} {k : Nat} (h : ∀ i, i < k → vOne v i) (hk : vOne v k) : ∀ i, i < k + 1 → vOne v i := fun i hi => by
  by_cases e : i = k
  · rw [e]; exact hk
  · exact h i (by omega)
theorem vB_eq0 {v : Vec} (h : ∀ i, i < 9 → v i = 0) : vB v = true := vB_all.2 fun i hi => ⟨by rw [h i hi]; omega, fun _ => h i hi⟩
def sL (s : Nat → Pl) : List Pl := [s 0, s 1, s 2, s 3, s 4, s 5, s 6, s 7, s 8]
theorem sL_len (s : Nat → Pl) : (sL s).length = 9 := rfl
theorem sL_at (s : Nat → Pl) : ∀ j, j < 9 → (sL s).getD j zP = s j := lt9 rfl rfl rfl rfl rfl rfl rfl rfl rfl
theorem sL_flat (s : Nat → Pl) : (sL s).flatMap plC = stC s := by
  unfold sL stC
  simp only [List.flatMap_cons, List.flatMap_nil, List.append_nil]
theorem frC_drop (f : FrM) : (frC f).drop 11 = stC f.st := by kernel_rfl
theorem coB_iff {a b : Vec} : coB a b = true ↔ vB a = true ∧ vB b = true ∧ ∀ i, i < 9 → b i ≤ a i := by
  unfold coB
  rw [Bool.and_eq_true, Bool.and_eq_true, all9]
  simp [and_assoc]
theorem badE {b : Bool} {n : Int} (h : ¬ errOr b n = 0) : b = false := by
  cases b
  · rfl
  · exact absurd rfl h
theorem okE {b : Bool} {n : Int} (hn : n ≠ 0) (h : errOr b n = 0) : b = true := by
  cases b
  · exact absurd h hn
  · rfl
theorem c9_atp {v : Vec} {p j : Nat} (hp : p = j) (hj : j < 9) : (c9 v)[p]? = some (.int .u64 (v j)) := by rw [hp]; exact c9_at v j hj
theorem c9_setp {v : Vec} {x p j : Nat} (hp : p = j) (hj : j < 9) : (c9 v).set p (.int .u64 x) = c9 (upV v j x) := by rw [hp]; exact c9_set v x j hj
theorem c9_congr {v w : Vec} (h : ∀ i, i < 9 → v i = w i) : c9 v = c9 w := by
  unfold c9
  rw [h 0 (by omega), h 1 (by omega), h 2 (by omega), h 3 (by omega), h 4 (by omega), h 5 (by omega), h 6 (by omega), h 7 (by omega), h 8 (by omega)]
/-- merged up to a site -/
def mxTo (v w : Vec) (k : Nat) : Vec := fun i => if 1 ≤ i ∧ i < k then max (v i) (w i) else v i
theorem mxTo_1 (v w : Vec) : mxTo v w 1 = v := by
  funext i
  unfold mxTo
  rw [if_neg (by omega)]
theorem mxTo_step (v w : Vec) {k : Nat} (hk : 1 ≤ k) : upV (mxTo v w k) k (max (mxTo v w k k) (w k)) = mxTo v w (k + 1) := by
  funext i
  unfold upV mxTo
  by_cases e : i = k
  · subst e
    rw [if_pos rfl, if_neg (by omega), if_pos (by omega)]
  · rw [if_neg e]
    by_cases h : 1 ≤ i ∧ i < k
    · rw [if_pos h, if_pos (by omega)]
    · rw [if_neg h, if_neg (by omega)]
theorem mxTo_end {v w : Vec} (hv : v 0 = 0) (hw : w 0 = 0) : c9 (mxTo v w 9) = c9 (maxV v w) := c9_congr fun i hi => by
  unfold mxTo maxV
  by_cases h : 1 ≤ i ∧ i < 9
  · rw [if_pos h]
  · have : i = 0 := by omega
    subst this
    rw [if_neg h, hv, hw]
    rfl
theorem vB_0 {v : Vec} (h : vB v = true) : v 0 = 0 := (vB_iff.1 h).1
def cvF (v w : Vec) (k : Nat) : Bool := (List.range' k (9 - k)).all fun i => decide (w i ≤ v i)
theorem cvF_step (v w : Vec) {k : Nat} (hk : k < 9) : cvF v w k = (decide (w k ≤ v k) && cvF v w (k + 1)) := by
  unfold cvF
  rw [show 9 - k = (9 - (k + 1)) + 1 by omega, List.range'_succ, List.all_cons]
theorem cvF_end (v w : Vec) : cvF v w 9 = true := by
  unfold cvF
  rfl
theorem cvF_iff {v w : Vec} {k : Nat} : cvF v w k = true ↔ ∀ i, k ≤ i → i < 9 → w i ≤ v i := by
  unfold cvF
  rw [List.all_eq_true]
  constructor
  · intro h i h1 h2
    exact of_decide_eq_true (h i (List.mem_range'_1.2 ⟨h1, by omega⟩))
  · intro h i hi
    have := List.mem_range'_1.1 hi
    exact decide_eq_true (h i this.1 (by omega))
theorem coB_cv {v w : Vec} : ((vB v && (vB w && true)) && cvF v w 1) = coB v w := by
  rw [Bool.eq_iff_iff, coB_iff]
  simp only [Bool.and_eq_true, Bool.and_true, cvF_iff]
  constructor
  · rintro ⟨⟨h1, h2⟩, h3⟩
    refine ⟨h1, h2, fun i hi => ?_⟩
    by_cases e : i = 0
    · subst e
      rw [vB_0 h2]
      exact Nat.zero_le _
    · exact h3 i (by omega) hi
  · rintro ⟨h1, h2, h3⟩
    exact ⟨⟨h1, h2⟩, fun i _ hi => h3 i hi⟩
theorem dpF (f : FrM) : D.dpf ((frC f).drop 11) = D.dpf ((sL f.st).flatMap plC) := by rw [sL_flat, frC_drop]
/-- as the code asks it: a site's pledge, wherever it is -/
def siC (fo : Nat) (p : Pl) : Bool := eqP p zP || (plB p && decide (fo ≤ p.fl))
theorem sL_all (s : Nat → Pl) (h : Pl → Bool) : (sL s).all h = (List.range 9).all fun i => h (s i) := rfl
theorem frB_code (f : FrM) : frB f = (decide (f.fo ≤ LAST) && vB f.bv && eqP (f.st 0) zP && (decide (f.pr = 0) || (decide (f.fo < f.pr) && decide (f.pr ≤ LAST))) && (sL f.st).all (siC f.fo)) := by
  rw [Bool.eq_iff_iff, frB_iff, sL_all]
  simp only [Bool.and_eq_true, Bool.or_eq_true, decide_eq_true_eq, all9]
  constructor
  · rintro ⟨h1, h2, h3, h4, h5⟩
    refine ⟨⟨⟨⟨h1, h2⟩, ?_⟩, ?_⟩, fun i hi => ?_⟩
    · rcases siB_iff.1 (h5 0 (by omega)) with e | e
      · exact e
      · exact absurd rfl e.1
    · rcases h4 with e | e
      · exact .inl e
      · exact .inr ⟨e, h3⟩
    · unfold siC
      rcases siB_iff.1 (h5 i hi) with e | e
      · rw [e]; rfl
      · rw [e.2.1, decide_eq_true e.2.2, Bool.and_true, Bool.or_true]
  · rintro ⟨⟨⟨⟨h1, h2⟩, h3⟩, h4⟩, h5⟩
    refine ⟨h1, h2, ?_, ?_, fun i hi => ?_⟩
    · rcases h4 with e | e
      · rw [e]; exact Nat.zero_le _
      · exact e.2
    · rcases h4 with e | e
      · exact .inl e
      · exact .inr e.1
    · have := h5 i hi
      unfold siC at this
      rw [Bool.or_eq_true, Bool.and_eq_true] at this
      refine siB_iff.2 ?_
      by_cases e : i = 0
      · subst e; exact .inl h3
      · rcases this with h | h
        · exact .inl h
        · exact .inr ⟨e, h.1, of_decide_eq_true h.2⟩
def eqn (a b : Nat) : Bool := (a : Int) == (b : Int)
theorem eqn_eq (a b : Nat) : eqn a b = (a == b) := by
  unfold eqn
  rw [Bool.eq_iff_iff]
  simp
  omega
def eqVx (v w : Vec) : Bool := eqn (v 0) (w 0) && (eqn (v 1) (w 1) && (eqn (v 2) (w 2) && (eqn (v 3) (w 3) && (eqn (v 4) (w 4) && (eqn (v 5) (w 5) && (eqn (v 6) (w 6) && (eqn (v 7) (w 7) && (eqn (v 8) (w 8) && true))))))))
theorem eqVx_eq (v w : Vec) : eqVx v w = eqV v w := by
  unfold eqVx eqV
  simp only [eqn_eq, List.range, List.range.loop, List.all_cons, List.all_nil]
def eqPx (p q : Pl) : Bool := (p.inn == q.inn) && (eqn p.fl q.fl && (eqn p.fs q.fs && (eqVx p.has q.has && true)))
theorem eqPx_eq (p q : Pl) : eqPx p q = eqP p q := by
  unfold eqPx eqP
  rw [eqVx_eq, eqn_eq, eqn_eq, Bool.and_true, Bool.and_assoc, Bool.and_assoc]
def eqSx (s t : Nat → Pl) : Bool := eqPx (s 0) (t 0) && (eqPx (s 1) (t 1) && (eqPx (s 2) (t 2) && (eqPx (s 3) (t 3) && (eqPx (s 4) (t 4) && (eqPx (s 5) (t 5) && (eqPx (s 6) (t 6) && (eqPx (s 7) (t 7) && (eqPx (s 8) (t 8) && true))))))))
theorem eqSx_eq (s t : Nat → Pl) : eqSx s t = eqS s t := by
  unfold eqSx eqS
  simp only [eqPx_eq, List.range, List.range.loop, List.all_cons, List.all_nil]
def eqFx (f g : FrM) : Bool := eqn f.fo g.fo && (eqVx f.bv g.bv && (eqn f.pr g.pr && (eqSx f.st g.st && true)))
theorem eqFx_eq (f g : FrM) : eqFx f g = eqF f g := by
  unfold eqFx eqF
  rw [eqVx_eq, eqn_eq, eqn_eq, eqSx_eq, Bool.and_true, Bool.and_assoc, Bool.and_assoc]
theorem eqV_z9 {v : Vec} (h : eqV v z9 = true) : vB v = true := vB_eq0 fun i hi => by
  unfold eqV at h
  rw [all9] at h
  simpa [z9] using h i hi
theorem errz (b : Bool) {n : Int} (hn : n ≠ 0) : (errOr b n == 0) = b := by
  cases b
  · exact beq_eq_false_iff_ne.2 hn
  · rfl
theorem errnz (b : Bool) {n : Int} (hn : n ≠ 0) : (errOr b n != 0) = !b := by
  cases b
  · exact bne_iff_ne.2 hn
  · rfl
theorem natle (a b : Nat) : decide ((a : Int) ≤ (b : Int)) = decide (a ≤ b) := by
  rw [Bool.eq_iff_iff]; simp
theorem natlt (a b : Nat) : decide ((a : Int) < (b : Int)) = decide (a < b) := by
  rw [Bool.eq_iff_iff]; simp
theorem natlast (a : Nat) : decide ((a : Int) ≤ 4611686018427387904) = decide (a ≤ LAST) := natle a LAST
theorem natover (a : Nat) : decide ((4611686018427387904 : Int) < (a : Int)) = !decide (a ≤ LAST) := by
  rw [show LAST = 4611686018427387904 from rfl, Bool.eq_iff_iff]; simp; omega
theorem natnz (a : Nat) : (((a : Int)) != 0) = !decide (a = 0) := by
  rw [Bool.eq_iff_iff]; simp
theorem plB_code (p : Pl) : (((p.inn && decide ((p.fl : Int) ≤ 4611686018427387904)) && decide ((p.fs : Int) ≤ 4611686018427387904)) && (errOr (vB p.has) 230 == 0)) = plB p := by
  rw [natlast, natlast, errz _ (by decide)]; rfl
theorem frC_atp {f : FrM} {p j : Nat} (hp : p = 11 + j * 12) (hj : j < 9) : ((frC f).drop p).take 12 = plC (f.st j) := by rw [hp]; exact frC_at f j hj
theorem frC_inp {f : FrM} {p j : Nat} (hp : p = 11 + j * 12) (hj : j < 9) : (frC f)[p]? = some (.bool (f.st j).inn) := by rw [hp]; exact frC_in f j hj
theorem frC_flp {f : FrM} {p j : Nat} (hp : p = 11 + j * 12 + 1) (hj : j < 9) : (frC f)[p]? = some (.int .u64 (f.st j).fl) := by rw [hp]; exact frC_fl f j hj
theorem frC_hasp {f : FrM} {p j : Nat} (hp : p = 11 + j * 12 + 3) (hj : j < 9) : ((frC f).drop p).take 9 = c9 (f.st j).has := by rw [hp]; exact frC_has f j hj
theorem frC_bv (f : FrM) : ((frC f).drop 1).take 9 = c9 f.bv := rfl
theorem frC_pr (f : FrM) : (frC f)[10]? = some (.int .u64 f.pr) := rfl
theorem frC_st (f : FrM) : ((frC f).drop 11).take 108 = (sL f.st).flatMap plC := by rw [frC_drop, sL_flat]; rfl
theorem frC_swp {f : FrM} {q : Pl} {p j : Nat} (hp : p = 11 + j * 12) (hj : j < 9) : setL (frC f) p (plC q) = frC (f.sw j q) := by rw [hp]; exact frC_sw f q j hj
theorem frC_wflp {f : FrM} {x p j : Nat} (hp : p = 11 + j * 12 + 1) (hj : j < 9) : (frC f).set p (.int .u64 x) = frC (f.sw j { f.st j with fl := x }) := by rw [hp]; exact frC_wfl f x j hj
theorem frC_wfsp {f : FrM} {x p j : Nat} (hp : p = 11 + j * 12 + 2) (hj : j < 9) : (frC f).set p (.int .u64 x) = frC (f.sw j { f.st j with fs := x }) := by rw [hp]; exact frC_wfs f x j hj
theorem frC_whasp {f : FrM} {v : Vec} {p j : Nat} (hp : p = 11 + j * 12 + 3) (hj : j < 9) : setL (frC f) p (c9 v) = frC (f.sw j { f.st j with has := v }) := by rw [hp]; exact frC_whas f v j hj
theorem frC_oc (f : FrM) : (frC f).all (·.oneCell') = true := rfl
theorem frB_at {f : FrM} (h : frB f = true) {j : Nat} (hj : j < 9) : siB f.fo j (f.st j) = true := (frB_iff.1 h).2.2.2.2 j hj
theorem hear_sw (f : FrM) (j : Nat) (q : Pl) : heP (f.st j) q = (if (f.st j).fl < q.fl then { (f.st j) with has := maxV (f.st j).has q.has, fl := q.fl, fs := q.fs } else { (f.st j) with has := maxV (f.st j).has q.has }) := by
  unfold heP
  split <;> rfl
theorem chk1_t (f : FrM) (h : ((decide ((4611686018427387904 : Int) < (f.fo : Int)) || (errOr (vB f.bv) 230 != 0)) || !eqP (f.st 0) zP) = true) : frB f = false := by
  rw [natover, errnz _ (by decide)] at h
  rw [frB_code]
  cases h1 : decide (f.fo ≤ LAST) <;> cases h2 : vB f.bv <;> cases h3 : eqP (f.st 0) zP <;> simp_all
theorem chk1_f (f : FrM) (h : ((decide ((4611686018427387904 : Int) < (f.fo : Int)) || (errOr (vB f.bv) 230 != 0)) || !eqP (f.st 0) zP) = false) : decide (f.fo ≤ LAST) = true ∧ vB f.bv = true ∧ eqP (f.st 0) zP = true := by
  rw [natover, errnz _ (by decide)] at h
  cases h1 : decide (f.fo ≤ LAST) <;> cases h2 : vB f.bv <;> cases h3 : eqP (f.st 0) zP <;> simp_all
theorem chk2_t (f : FrM) (h : (((f.pr : Int) != 0) && (decide ((f.pr : Int) ≤ (f.fo : Int)) || decide ((4611686018427387904 : Int) < (f.pr : Int)))) = true) : frB f = false := by
  rw [natnz, natle, natover] at h
  rw [← Bool.not_eq_true, frB_iff]
  rintro ⟨h1, h2, h3, h4, h5⟩
  simp at h
  omega
theorem chk2_f (f : FrM) (h : (((f.pr : Int) != 0) && (decide ((f.pr : Int) ≤ (f.fo : Int)) || decide ((4611686018427387904 : Int) < (f.pr : Int)))) = false) : (decide (f.pr = 0) || (decide (f.fo < f.pr) && decide (f.pr ≤ LAST))) = true := by
  rw [natnz, natle, natover] at h
  simp at h ⊢
  omega
theorem chk3_t (f : FrM) (h : (sL f.st).all (siC f.fo) = false) : frB f = false := by
  rw [frB_code, h, Bool.and_false]
theorem chk3_f (f : FrM) (h1 : decide (f.fo ≤ LAST) = true ∧ vB f.bv = true ∧ eqP (f.st 0) zP = true) (h2 : (decide (f.pr = 0) || (decide (f.fo < f.pr) && decide (f.pr ≤ LAST))) = true) (h : (sL f.st).all (siC f.fo) = true) : frB f = true := by
  rw [frB_code, h, h1.1, h1.2.1, h1.2.2, h2]; rfl
theorem notT {b : Bool} (h : (!b) = true) : b = false := by cases b <;> simp_all
theorem notF {b : Bool} (h : (!b) = false) : b = true := by cases b <;> simp_all
theorem eq24 {v w : Vec} : eqT Tryz.prog 9 24 (c9 v) (c9 w) = some (eqV v w) := by
  rw [← eqVx_eq]; kernel_rfl
theorem eq26 {v w : Pl} : eqT Tryz.prog 9 26 (plC v) (plC w) = some (eqP v w) := by
  rw [← eqPx_eq]; kernel_rfl
theorem eq29 {v w : FrM} : eqT Tryz.prog 9 29 (frC v) (frC w) = some (eqF v w) := by
  rw [← eqFx_eq]; kernel_rfl
theorem gd24 : Tryz.prog.eqGuardType Tryz.prog.depth 24 = false := by kernel_rfl
theorem gd26 : Tryz.prog.eqGuardType Tryz.prog.depth 26 = false := by kernel_rfl
theorem gd29 : Tryz.prog.eqGuardType Tryz.prog.depth 29 = false := by kernel_rfl
theorem zr24 : zrC Tryz.prog 24 = some (c9 z9) := by kernel_rfl
theorem zr26 : zrC Tryz.prog 26 = some (plC zP) := by kernel_rfl
theorem zr29 : zrC Tryz.prog 29 = some (frC zF) := by kernel_rfl
end Go.Proofs.YtnjnhghafjlmbaaGreat
namespace Go.Proofs.YtnjnhghafjlmbaaGreat
set_option linter.unusedVariables false
set_option linter.unusedSimpArgs false
open Go.RowKit
theorem ar24 : arE Tryz.prog 24 = some (9, 1) := by kernel_rfl
theorem aw24 : arW Tryz.prog 24 = some 9 := by kernel_rfl
theorem tb24 : tyB Tryz.prog 24 = some (true, 9) := by kernel_rfl
set_option maxRecDepth 4000 in
set_option maxHeartbeats 1000000 in
theorem vCheck_d (v : Vec) : DFun Tryz.prog 45 [.val (.agg (c9 v).toArray)] [] (.val (.int .i64 (errOr (vB v) 230))) [] := by
  refine zba (N := 24) 0 (by kernel_rfl) Tryz.func45 rfl rfl rfl (by simp only [fr0, Nat.zero_add, Nat.reduceAdd]; exact rfl) rfl fun s0 hs0 => ?_
  refine zaf ?_
  refine zaj 1 (by simp only [holes, List.cons_append, List.nil_append]; exact rfl) ?_
  refine zac ?_
  refine zam rfl rfl rfl (op_boxa 0 rfl (ev1 rfl) rfl) (by simp only [upd, za, zaa]; exact rfl) ?_
  refine zab rfl rfl rfl (zad (.inr rfl) (ev1 rfl)) ?_
  refine zae ?_
  refine zaf ?_
  refine zaf ?_
  refine zac ?_
  refine zab rfl rfl rfl (zas rfl tb24 (ev1 rfl) rfl rfl) ?_
  refine zab rfl rfl rfl (op_build0a rfl ar24 zr24) ?_
  refine zab rfl rfl rfl (op_eqr eq24 rfl gd24 tb24 (ev1 rfl) (ev1 rfl)) ?_
  refine zae ?_
  refine zaw rfl (fun c1 => ?_) (fun c1 => ?_)
  · refine zaf ?_
    refine zac ?_
    refine zab rfl rfl rfl (zad (.inr rfl) (ev1 rfl)) ?_
    refine zae ?_
    refine zau ?_
    refine kend0 (rs1 rfl (rv_t rfl)) rfl ?_
    rw [eqV_z9 c1]
    rfl
  · refine zak ?_
    refine zaf ?_
    refine zaf ?_
    refine zac ?_
    refine zab rfl rfl rfl (zas rfl tb24 (ev1 rfl) rfl rfl) ?_
    refine zab rfl rfl rfl (zad (.inl rfl) (ev1 rfl)) ?_
    refine zae ?_
    refine zat ?_
    refine dwp_loopS ⟨hs0, rfl⟩ (α := Nat) (fun k => [(9, .val (.int .i64 (k : Int)))]) [(8, _)] (fun k => []) [_] (fun k => k ≤ 9 ∧ ∀ i, i < k → vOne v i) (fun k => 9 - k) 0 [0] (⟨by omega, fun i hi => absurd hi (by omega)⟩) rfl ⟨rfl, trivial⟩ ⟨rfl, trivial⟩ ⟨rfl, trivial⟩ ?_
    intro k hx
    simp only [upd, za, zaa, List.cons_append, List.nil_append]
    obtain ⟨hk, he⟩ := hx
    refine zaf ?_
    refine zac ?_
    refine zab rfl rfl rfl (op_lss rfl (ev1 rfl) (ev1 rfl)) ?_
    refine zae ?_
    refine zaf ?_
    refine zaw rfl (fun c2 => ?_) (fun c2 => ?_)
    · try simp only [decide_eq_true_eq, decide_eq_false_iff_not, beq_iff_eq, bne_iff_ne, beq_eq_false_iff_ne, bne_eq_false_iff_eq, Bool.not_eq_true', Bool.not_eq_false', Bool.and_eq_true, Bool.or_eq_true, Bool.or_eq_false_iff, ne_eq, Decidable.not_not, Int.not_lt, Int.not_le] at c2
      refine zak ?_
      refine zaf ?_
      refine zat ?_
      refine zaf ?_
      refine zac ?_
      refine zab rfl rfl rfl (zad (.inl rfl) (ev1 rfl)) ?_
      refine zab rfl rfl rfl (op_ixu (k) rfl aw24 (ev1 rfl) (ev1 rfl) (fun _ => rfl) (by omega) (c9_at v _ (by omega))) ?_
      refine zab rfl rfl rfl (zad (.inr rfl) (ev1 rfl)) ?_
      refine zab rfl rfl rfl (zad (.inr rfl) (ev1 rfl)) ?_
      refine zae ?_
      refine zaf ?_
      refine zac ?_
      refine zab rfl rfl rfl (zad (.inl rfl) (ev1 rfl)) ?_
      refine zab rfl rfl rfl (op_gtr rfl (ev1 rfl) (ev1 rfl)) ?_
      refine zab rfl rfl rfl (zad (.inl rfl) (ev1 rfl)) ?_
      refine zag (zan rfl rfl rfl) rfl rfl rfl (zad (.inl rfl) (ev1 rfl)) ?_
      refine zag (zan rfl rfl rfl) rfl rfl rfl (zb rfl (ev2 rfl) (ev1 rfl)) ?_
      refine zag (zan rfl rfl rfl) rfl rfl rfl (zad (.inl rfl) (ev2 rfl)) ?_
      refine zag (zay rfl rfl rfl) rfl rfl rfl (zad (.inl rfl) (ev1 rfl)) ?_
      refine zag (zay rfl rfl rfl) rfl rfl rfl (op_gtr rfl (ev2 rfl) (ev1 rfl)) ?_
      refine zag (zan rfl rfl rfl) rfl rfl rfl (zaz rfl (ev2 rfl) (ev2 rfl)) ?_
      refine zab rfl rfl rfl (op_or rfl (ev1 rfl) (ev3 rfl id)) ?_
      refine zae ?_
      refine zaw rfl (fun c2 => ?_) (fun c2 => ?_)
      · try simp only [decide_eq_true_eq, decide_eq_false_iff_not, beq_iff_eq, bne_iff_ne, beq_eq_false_iff_ne, bne_eq_false_iff_eq, Bool.not_eq_true', Bool.not_eq_false', Bool.and_eq_true, Bool.or_eq_true, Bool.or_eq_false_iff, ne_eq, Decidable.not_not, Int.not_lt, Int.not_le] at c2
        refine zaf ?_
        refine zac ?_
        refine zab rfl rfl rfl (zad (.inr rfl) (ev1 rfl)) ?_
        refine zae ?_
        refine zau ?_
        refine kend0 (rs1 rfl (rv_t rfl)) rfl ?_
        rw [vB_no (i := k) (by omega) (fun h => by unfold vOne at h; omega)]
        rfl
      · try simp only [decide_eq_true_eq, decide_eq_false_iff_not, beq_iff_eq, bne_iff_ne, beq_eq_false_iff_ne, bne_eq_false_iff_eq, Bool.not_eq_true', Bool.not_eq_false', Bool.and_eq_true, Bool.or_eq_true, Bool.or_eq_false_iff, ne_eq, Decidable.not_not, Int.not_lt, Int.not_le] at c2
        have hov : vOne v k := ⟨by simp at c2; omega, fun e => by simp at c2; omega⟩
        refine zak ?_
        refine zac ?_
        refine zab rfl rfl rfl (op_add' rfl (ev1 rfl) (ev1 rfl) (fun _ => IntWalk.i64_in _ (by omega))) ?_
        refine zab rfl rfl rfl (zad (.inl rfl) (ev1 rfl)) ?_
        refine zae ?_
        refine ⟨k + 1, [0], ⟨by omega, vOne_step he hov⟩, by simp only []; omega, rfl, ⟨rfl, rfl, trivial⟩, ⟨rfl, trivial⟩⟩
    · try simp only [decide_eq_true_eq, decide_eq_false_iff_not, beq_iff_eq, bne_iff_ne, beq_eq_false_iff_ne, bne_eq_false_iff_eq, Bool.not_eq_true', Bool.not_eq_false', Bool.and_eq_true, Bool.or_eq_true, Bool.or_eq_false_iff, ne_eq, Decidable.not_not, Int.not_lt, Int.not_le] at c2
      refine dwp_exit ?_
      refine zaf ?_
      refine zac ?_
      refine zab rfl rfl rfl (zad (.inr rfl) (ev1 rfl)) ?_
      refine zae ?_
      refine zau ?_
      refine kend0 (rs1 rfl (rv_t rfl)) rfl ?_
      rw [vB_all.2 fun i hi => he i (by omega)]
      rfl
end Go.Proofs.YtnjnhghafjlmbaaGreat
namespace Go.Proofs.YtnjnhghafjlmbaaGreat
set_option linter.unusedVariables false
set_option linter.unusedSimpArgs false
open Go.RowKit
theorem sl30 : slE Tryz.prog 30 = some (24, 9, 72) := by kernel_rfl
theorem tb22 : tyB Tryz.prog 22 = some (false, 1) := by kernel_rfl
theorem tb4 : tyB Tryz.prog 4 = some (false, 1) := by kernel_rfl
theorem zr4 : zrC Tryz.prog 4 = some [.bool false] := by kernel_rfl
set_option maxRecDepth 4000 in
set_option maxHeartbeats 1000000 in
theorem are_d (l : List Vec) : DFun Tryz.prog 94 [.slf 9 (l).length ((l).flatMap c9)] [] (.val (.bool (l.all vB))) [] := by
  refine zba (N := 15) 0 (by kernel_rfl) Tryz.func94 rfl rfl rfl (by simp only [fr0, Nat.zero_add, Nat.reduceAdd]; exact rfl) rfl fun s0 hs0 => ?_
  refine dwp_len (t := 0) rfl fun hl0 hL0 => ?_
  refine zaf ?_
  refine zac ?_
  refine zab rfl rfl rfl (zad (.inr rfl) (ev1 rfl)) ?_
  refine zae ?_
  refine zaf ?_
  refine zaf ?_
  refine zac ?_
  refine zab rfl rfl rfl (zad (.inl rfl) (ev1 rfl)) ?_
  refine zab rfl rfl rfl (op_len rfl sl30 (ev1 rfl)) ?_
  refine zab rfl rfl rfl (zad (.inl rfl) (ev1 rfl)) ?_
  refine zae ?_
  refine zat ?_
  refine dwp_loopS ⟨hs0, rfl⟩ (α := Nat) (fun k => [(7, .val (.int .i64 (k : Int)))]) [(5, _), (6, _)] (fun k => []) [] (fun k => k ≤ l.length ∧ (l.take k).all vB = true) (fun k => l.length - k) 0 [] (by simp) rfl ⟨rfl, rfl, trivial⟩ ⟨rfl, trivial⟩ trivial ?_
  intro k hx
  simp only [upd, za, zaa, List.cons_append, List.nil_append]
  obtain ⟨hk, he⟩ := hx
  refine zaf ?_
  refine zac ?_
  refine zab rfl rfl rfl (op_lss rfl (ev1 rfl) (ev1 rfl)) ?_
  refine zae ?_
  refine zaf ?_
  refine zaw rfl (fun c1 => ?_) (fun c1 => ?_)
  · try simp only [decide_eq_true_eq, decide_eq_false_iff_not, beq_iff_eq, bne_iff_ne, beq_eq_false_iff_ne, bne_eq_false_iff_eq, Bool.not_eq_true', Bool.not_eq_false', Bool.and_eq_true, Bool.or_eq_true, Bool.or_eq_false_iff, ne_eq, Decidable.not_not, Int.not_lt, Int.not_le] at c1
    refine zak ?_
    refine zaf ?_
    refine zat ?_
    refine zaf ?_
    refine zaj 1 (by simp only [holes, List.cons_append, List.nil_append]; exact rfl) ?_
    refine zac ?_
    refine zab rfl rfl rfl (op_ixsr (j := k) rfl sl30 (ev1 rfl) (ev1 rfl) (fun _ => rfl) (by decide) (by omega) (by omega)) ?_
    refine zab rfl rfl rfl (op_ldwd rfl tb24 (ev1 rfl) rfl) ?_
    refine zam rfl rfl rfl (zaq 0 rfl zr24 rfl) (by simp only [upd, za, zaa]; exact rfl) ?_
    refine zax rfl rfl (op_stwa rfl tb24 (ev1 rfl) (ev1 rfl) rfl rfl rfl rfl) (by simp only [upd, za, zaa]; exact rfl) ?_
    refine zae ?_
    refine zaf ?_
    refine zac ?_
    refine zab rfl rfl rfl (zas rfl tb24 (ev1 rfl) rfl rfl) ?_
    refine zab rfl rfl rfl (zah [] [] [] rfl (ev1 rfl) (ec (ev1 rfl) en) rfl rfl (vCheck_d _) rfl rfl rfl rfl rfl rfl) ?_
    refine zab rfl rfl rfl (op_neq rfl (ev1 rfl) (ev1 rfl)) ?_
    refine zae ?_
    refine zaw rfl (fun c2 => ?_) (fun c2 => ?_)
    · try simp only [decide_eq_true_eq, decide_eq_false_iff_not, beq_iff_eq, bne_iff_ne, beq_eq_false_iff_ne, bne_eq_false_iff_eq, Bool.not_eq_true', Bool.not_eq_false', Bool.and_eq_true, Bool.or_eq_true, Bool.or_eq_false_iff, ne_eq, Decidable.not_not, Int.not_lt, Int.not_le] at c2
      refine zaf ?_
      refine zac ?_
      refine zab rfl rfl rfl (zad (.inr rfl) (ev1 rfl)) ?_
      refine zae ?_
      refine zau ?_
      refine kend0 (rs1 rfl (rv_t rfl)) rfl ?_
      rw [show l.all vB = false from List.all_eq_false.2 ⟨l[k], List.getElem_mem _, by rw [badE c2]; decide⟩]
    · try simp only [decide_eq_true_eq, decide_eq_false_iff_not, beq_iff_eq, bne_iff_ne, beq_eq_false_iff_ne, bne_eq_false_iff_eq, Bool.not_eq_true', Bool.not_eq_false', Bool.and_eq_true, Bool.or_eq_true, Bool.or_eq_false_iff, ne_eq, Decidable.not_not, Int.not_lt, Int.not_le] at c2
      refine zak ?_
      refine zac ?_
      refine zab rfl rfl rfl (op_add' rfl (ev1 rfl) (ev1 rfl) (fun _ => IntWalk.i64_in _ (by omega))) ?_
      refine zab rfl rfl rfl (zad (.inl rfl) (ev1 rfl)) ?_
      refine zae ?_
      refine ⟨k + 1, [], ⟨by omega, by rw [List.take_succ_eq_append_getElem (by omega), List.all_append, he]; simp [okE (by decide) c2]⟩, by simp only []; omega, rfl, ⟨rfl, rfl, rfl, trivial⟩, trivial⟩
  · try simp only [decide_eq_true_eq, decide_eq_false_iff_not, beq_iff_eq, bne_iff_ne, beq_eq_false_iff_ne, bne_eq_false_iff_eq, Bool.not_eq_true', Bool.not_eq_false', Bool.and_eq_true, Bool.or_eq_true, Bool.or_eq_false_iff, ne_eq, Decidable.not_not, Int.not_lt, Int.not_le] at c1
    refine dwp_exit ?_
    refine zaf ?_
    refine zac ?_
    refine zab rfl rfl rfl (zad (.inr rfl) (ev1 rfl)) ?_
    refine zae ?_
    refine zau ?_
    refine kend0 (rs1 rfl (rv_t rfl)) rfl ?_
    rw [List.take_of_length_le (by omega)] at he
    rw [he]
set_option maxRecDepth 4000 in
set_option maxHeartbeats 1000000 in
theorem vsites_d : DFun Tryz.prog 95 [] [] (.fn (.func 112) [] []) [] := by
  refine zba (N := 1) 0 (by kernel_rfl) Tryz.func95 rfl rfl rfl (by simp only [fr0, Nat.zero_add, Nat.reduceAdd]; exact rfl) rfl fun s0 hs0 => ?_
  refine zaf ?_
  refine zac ?_
  refine zab rfl rfl rfl (zad (.inr rfl) (ev1 rfl)) ?_
  refine zae ?_
  refine zaf ?_
  refine zac ?_
  refine zab rfl rfl rfl (zad (.inr rfl) (ev1 rfl)) ?_
  refine zae ?_
  refine zau ?_
  refine kend0 (rs1 rfl (rv_t rfl)) rfl ?_
  rfl
set_option maxRecDepth 4000 in
set_option maxHeartbeats 1000000 in
theorem join1_d (a b : Nat) : DFun Tryz.prog 97 [.val (.int .u64 (a : Int)), .val (.int .u64 (b : Int))] [] (.val (.int .u64 ((max a b : Nat) : Int))) [] := by
  refine zba (N := 8) 0 (by kernel_rfl) Tryz.func97 rfl rfl rfl (by simp only [fr0, Nat.zero_add, Nat.reduceAdd]; exact rfl) rfl fun s0 hs0 => ?_
  refine zaf ?_
  refine zac ?_
  refine zab rfl rfl rfl (zad (.inr rfl) (ev1 rfl)) ?_
  refine zae ?_
  refine zaf ?_
  refine zac ?_
  refine zab rfl rfl rfl (zad (.inl rfl) (ev1 rfl)) ?_
  refine zab rfl rfl rfl (zad (.inl rfl) (ev1 rfl)) ?_
  refine zab rfl rfl rfl (op_max rfl (ev1 rfl) (ev1 rfl)) ?_
  refine zab rfl rfl rfl (zad (.inr rfl) (ev1 rfl)) ?_
  refine zae ?_
  refine zau ?_
  refine kend0 (rs1 rfl (rv_t rfl)) rfl ?_
  rw [show ((max a b : Nat) : Int) = max (a : Int) (b : Int) by omega]
noncomputable def covA : Code := rfA (pth [1, 0, 1, 1, 0, 1, 0] (bodyOf Tryz.f79))
noncomputable def covB : Code := rfB (pth [1, 0, 1, 1, 0, 1, 0] (bodyOf Tryz.f79))
set_option maxRecDepth 4000 in
set_option maxHeartbeats 1000000 in
theorem covRound_true (v w : Vec) (j : Nat) (hj : j < 9) (b : Bool) (h : w j ≤ v j) : DRound Tryz.prog 0 [.val (.int .i64 (j : Int))] [.lp 21 [(2, .loc 1 0), (3, .loc 2 0), (5, .loc 3 0)] #[12] covA covB .ready none, .flat 24 (c9 v), .flat 24 (c9 w), .flat 4 [.bool b]] true [.lp 21 [(2, .loc 1 0), (3, .loc 2 0), (5, .loc 3 0)] #[12] covA covB .ready none, .flat 24 (c9 v), .flat 24 (c9 w), .flat 4 [.bool b]] := by
  refine dround_go 4 rfl rfl (by simp) rfl rfl fun s0 hs0 => ?_
  refine zac ?_
  refine zab rfl rfl rfl (zad (.inr rfl) (ev1 rfl)) ?_
  refine zae ?_
  refine ⟨rfl, ?_⟩
  simp only [za, zaa]
  refine zat ?_
  refine zaf ?_
  refine dwp_draw [([], []), ([], []), ([1], []), ([], []), ([], []), ([2], []), ([], [])] mixed (by kernel_rfl) ?_
  refine lex_r rfl rfl (zad (.inl rfl) (ev1 rfl)) ?_
  refine lex_r rfl rfl (op_ixl rfl ar24 (ev1 rfl) (ev1 rfl) (fun _ => by omega)) ?_
  refine lex_r rfl rfl (op_ldo rfl tb22 (ev1 rfl) rfl (c9_atp (j := j) (by simp) hj)) ?_
  refine lex_r rfl rfl (zad (.inl rfl) (ev1 rfl)) ?_
  refine lex_r rfl rfl (op_ixl rfl ar24 (ev1 rfl) (ev1 rfl) (fun _ => by omega)) ?_
  refine lex_r rfl rfl (op_ldo rfl tb22 (ev1 rfl) rfl (c9_atp (j := j) (by simp) hj)) ?_
  refine lex_r rfl rfl (op_lss rfl (ev1 rfl) (ev1 rfl)) ?_
  refine lex_nil ?_
  refine zaw rfl (fun c1 => ?_) (fun c1 => ?_)
  · exact absurd c1 (by simp; omega)
  · try simp only [decide_eq_true_eq, decide_eq_false_iff_not, beq_iff_eq, bne_iff_ne, beq_eq_false_iff_ne, bne_eq_false_iff_eq, Bool.not_eq_true', Bool.not_eq_false', Bool.and_eq_true, Bool.or_eq_true, Bool.or_eq_false_iff, ne_eq, Decidable.not_not, Int.not_lt, Int.not_le] at c1
    refine zak ?_
    refine ⟨by first | rfl | assumption | simp_all, rfl, [0, 1, 2, 3], rfl, ⟨rfl, rfl, rfl, rfl, trivial⟩⟩
set_option maxRecDepth 4000 in
set_option maxHeartbeats 1000000 in
theorem covRound_false (v w : Vec) (j : Nat) (hj : j < 9) (b : Bool) (h : ¬ w j ≤ v j) : DRound Tryz.prog 0 [.val (.int .i64 (j : Int))] [.lp 21 [(2, .loc 1 0), (3, .loc 2 0), (5, .loc 3 0)] #[12] covA covB .ready none, .flat 24 (c9 v), .flat 24 (c9 w), .flat 4 [.bool b]] false [.lp 21 [(2, .loc 1 0), (3, .loc 2 0), (5, .loc 3 0)] #[12] covA covB .done (some (.exit 0)), .flat 24 (c9 v), .flat 24 (c9 w), .flat 4 [.bool false]] := by
  refine dround_go 4 rfl rfl (by simp) rfl rfl fun s0 hs0 => ?_
  refine zac ?_
  refine zab rfl rfl rfl (zad (.inr rfl) (ev1 rfl)) ?_
  refine zae ?_
  refine ⟨rfl, ?_⟩
  simp only [za, zaa]
  refine zat ?_
  refine zaf ?_
  refine dwp_draw [([], []), ([], []), ([1], []), ([], []), ([], []), ([2], []), ([], [])] mixed (by kernel_rfl) ?_
  refine lex_r rfl rfl (zad (.inl rfl) (ev1 rfl)) ?_
  refine lex_r rfl rfl (op_ixl rfl ar24 (ev1 rfl) (ev1 rfl) (fun _ => by omega)) ?_
  refine lex_r rfl rfl (op_ldo rfl tb22 (ev1 rfl) rfl (c9_atp (j := j) (by simp) hj)) ?_
  refine lex_r rfl rfl (zad (.inl rfl) (ev1 rfl)) ?_
  refine lex_r rfl rfl (op_ixl rfl ar24 (ev1 rfl) (ev1 rfl) (fun _ => by omega)) ?_
  refine lex_r rfl rfl (op_ldo rfl tb22 (ev1 rfl) rfl (c9_atp (j := j) (by simp) hj)) ?_
  refine lex_r rfl rfl (op_lss rfl (ev1 rfl) (ev1 rfl)) ?_
  refine lex_nil ?_
  refine zaw rfl (fun c1 => ?_) (fun c1 => ?_)
  · try simp only [decide_eq_true_eq, decide_eq_false_iff_not, beq_iff_eq, bne_iff_ne, beq_eq_false_iff_ne, bne_eq_false_iff_eq, Bool.not_eq_true', Bool.not_eq_false', Bool.and_eq_true, Bool.or_eq_true, Bool.or_eq_false_iff, ne_eq, Decidable.not_not, Int.not_lt, Int.not_le] at c1
    refine zaf ?_
    refine zac ?_
    refine zax rfl rfl (op_stwb rfl tb4 (ev1 rfl) (ev1 rfl) rfl) (by simp only [upd, za, zaa]; exact rfl) ?_
    refine zae ?_
    refine dwp_exit ?_
    refine ⟨by first | rfl | assumption | simp_all, rfl, [0, 1, 2, 3], rfl, ⟨rfl, rfl, rfl, rfl, trivial⟩⟩
  · exact absurd c1 (by simp; omega)
theorem covRound (v w : Vec) (j : Nat) (hj : j < 9) (b : Bool) : DRound Tryz.prog 0 [.val (.int .i64 (j : Int))] [.lp 21 [(2, .loc 1 0), (3, .loc 2 0), (5, .loc 3 0)] #[12] covA covB .ready none, .flat 24 (c9 v), .flat 24 (c9 w), .flat 4 [.bool b]] (decide (w j ≤ v j)) [.lp 21 [(2, .loc 1 0), (3, .loc 2 0), (5, .loc 3 0)] #[12] covA covB (rst (decide (w j ≤ v j))) (rpe (.exit 0) (decide (w j ≤ v j))), .flat 24 (c9 v), .flat 24 (c9 w), .flat 4 [.bool (b && decide (w j ≤ v j))]] := by
  by_cases h : w j ≤ v j
  · rw [decide_eq_true h, Bool.and_true]
    exact covRound_true v w j hj b h
  · rw [decide_eq_false h, Bool.and_false]
    exact covRound_false v w j hj b h
set_option maxRecDepth 4000 in
set_option maxHeartbeats 1000000 in
theorem vs1_cov (v w : Vec) (b : Bool) : DFun Tryz.prog 112 [.yld 0] [.lp 21 [(2, .loc 1 0), (3, .loc 2 0), (5, .loc 3 0)] #[12] covA covB .ready none, .flat 24 (c9 v), .flat 24 (c9 w), .flat 4 [.bool b]] (.tup []) [.lp 21 [(2, .loc 1 0), (3, .loc 2 0), (5, .loc 3 0)] #[12] covA covB (rst (cvF v w 1)) (rpe (.exit 0) (cvF v w 1)), .flat 24 (c9 v), .flat 24 (c9 w), .flat 4 [.bool (b && cvF v w 1)]] := by
  refine zba (N := 11) 4 (by kernel_rfl) Tryz.func112 rfl rfl rfl (by simp only [fr0, Nat.zero_add, Nat.reduceAdd]; exact rfl) rfl fun s0 hs0 => ?_
  refine zaf ?_
  refine zac ?_
  refine zab rfl rfl rfl (zad (.inr rfl) (ev1 rfl)) ?_
  refine zae ?_
  refine zat ?_
  refine dwp_loopS ⟨hs0, rfl⟩ (α := Nat) (fun k => [(2, .val (.int .i64 (k : Int)))]) [(0, _)] (fun k => []) [_, _, _, _] (fun k => 1 ≤ k ∧ k ≤ 9 ∧ cvF v w 1 = cvF v w k) (fun k => 9 - k) 1 [0, 1, 2, 3] (by simp) rfl ⟨rfl, trivial⟩ ⟨rfl, trivial⟩ ⟨rfl, rfl, rfl, rfl, trivial⟩ ?_
  intro k hx
  simp only [upd, za, zaa, List.cons_append, List.nil_append]
  obtain ⟨hk1, hk, he⟩ := hx
  refine zaf ?_
  refine zaf ?_
  refine zac ?_
  refine zab rfl rfl rfl (zad (.inl rfl) (ev1 rfl)) ?_
  refine zab rfl rfl rfl (op_leq rfl (ev1 rfl) (ev1 rfl)) ?_
  refine zae ?_
  refine zaw rfl (fun c1 => ?_) (fun c1 => ?_)
  · try simp only [decide_eq_true_eq, decide_eq_false_iff_not, beq_iff_eq, bne_iff_ne, beq_eq_false_iff_ne, bne_eq_false_iff_eq, Bool.not_eq_true', Bool.not_eq_false', Bool.and_eq_true, Bool.or_eq_true, Bool.or_eq_false_iff, ne_eq, Decidable.not_not, Int.not_lt, Int.not_le] at c1
    refine zak ?_
    refine zaf ?_
    refine zat ?_
    refine zaf ?_
    refine zac ?_
    refine zab rfl rfl rfl (zad (.inl rfl) (ev1 rfl)) ?_
    refine zab rfl rfl rfl (zad (.inl rfl) (ev1 rfl)) ?_
    refine zam rfl rfl rfl (op_y (i := 0) [0, 1, 2, 3] [] [] rfl (ev1 rfl) (ec (ev1 rfl) en) rfl rfl rfl (covRound v w k (by omega) b) rfl rfl rfl rfl rfl) (by simp only [upd, za, zaa]; exact rfl) ?_
    refine zab rfl rfl rfl (op_not rfl (ev1 rfl)) ?_
    refine zae ?_
    refine zaw rfl (fun c2 => ?_) (fun c2 => ?_)
    · have c2 : decide (w k ≤ v k) = false := by simpa using c2
      refine zau ?_
      have e2 : cvF v w 1 = false := by rw [he, cvF_step v w (by omega), c2]; rfl
      rw [e2, c2]
      refine kend [0, 1, 2, 3] (res_none rfl) rfl rfl ?_ ⟨rfl, rfl, rfl, rfl, trivial⟩
      rfl
    · have c2 : decide (w k ≤ v k) = true := by simpa using c2
      refine zak ?_
      refine zac ?_
      refine zab rfl rfl rfl (zad (.inl rfl) (ev1 rfl)) ?_
      refine zab rfl rfl rfl (op_add' rfl (ev1 rfl) (ev1 rfl) (fun _ => IntWalk.i64_in _ (by omega))) ?_
      refine zab rfl rfl rfl (zad (.inr rfl) (ev1 rfl)) ?_
      refine zae ?_
      rw [c2, Bool.and_true]
      refine ⟨k + 1, [0, 1, 2, 3], ⟨by omega, by omega, by rw [he, cvF_step v w (by omega), c2, Bool.true_and]⟩, by simp only []; omega, rfl, ⟨rfl, rfl, trivial⟩, ⟨rfl, rfl, rfl, rfl, trivial⟩⟩
  · try simp only [decide_eq_true_eq, decide_eq_false_iff_not, beq_iff_eq, bne_iff_ne, beq_eq_false_iff_ne, bne_eq_false_iff_eq, Bool.not_eq_true', Bool.not_eq_false', Bool.and_eq_true, Bool.or_eq_true, Bool.or_eq_false_iff, ne_eq, Decidable.not_not, Int.not_lt, Int.not_le] at c1
    refine dwp_exit ?_
    have e2 : cvF v w 1 = true := by rw [he, show k = 9 by omega, cvF_end]
    rw [e2, Bool.and_true]
    refine kend [0, 1, 2, 3] (res_none rfl) rfl rfl ?_ ⟨rfl, rfl, rfl, rfl, trivial⟩
    rfl
set_option maxRecDepth 4000 in
set_option maxHeartbeats 1000000 in
theorem covers_d (v w : Vec) : DFun Tryz.prog 79 [.val (.agg (c9 v).toArray), .val (.agg (c9 w).toArray)] [] (.val (.bool (coB v w))) [] := by
  refine zba (N := 21) 0 (by kernel_rfl) Tryz.func79 rfl rfl rfl (by simp only [fr0, Nat.zero_add, Nat.reduceAdd]; exact rfl) rfl fun s0 hs0 => ?_
  refine zaf ?_
  refine zaj 2 (by simp only [holes, List.cons_append, List.nil_append]; exact rfl) ?_
  refine zac ?_
  refine zam rfl rfl rfl (op_boxa 0 rfl (ev1 rfl) rfl) (by simp only [upd, za, zaa]; exact rfl) ?_
  refine zam rfl rfl rfl (op_boxa 1 rfl (ev1 rfl) rfl) (by simp only [upd, za, zaa]; exact rfl) ?_
  refine zab rfl rfl rfl (zad (.inr rfl) (ev1 rfl)) ?_
  refine zae ?_
  refine dwp_scope ?_
  refine zaf ?_
  refine zaj 1 (by simp only [holes, List.cons_append, List.nil_append]; exact rfl) ?_
  refine zac ?_
  refine zab rfl rfl rfl (zas rfl tb24 (ev1 rfl) rfl rfl) ?_
  refine zab rfl rfl rfl (zas rfl tb24 (ev1 rfl) rfl rfl) ?_
  refine zab rfl rfl rfl (op_bs (ps := [(0, .tmp 7), (1, .tmp 8)]) rfl sl30 zr24 rfl (vc (ev1 rfl) (vc (ev1 rfl) vn)) rfl (by decide) (by decide)) ?_
  refine zab rfl rfl rfl (zah [] [] [] rfl (ev1 rfl) (ec (ev1 rfl) en) rfl rfl (are_d [v, w]) rfl rfl rfl rfl rfl rfl) ?_
  refine zam rfl rfl rfl (zaq 2 rfl zr4 rfl) (by simp only [upd, za, zaa]; exact rfl) ?_
  refine zax rfl rfl (op_stwb rfl tb4 (ev1 rfl) (ev1 rfl) rfl) (by simp only [upd, za, zaa]; exact rfl) ?_
  refine zae ?_
  refine zaf ?_
  refine dwp_label ?_
  refine zaf ?_
  refine zaf ?_
  refine zac ?_
  refine zab rfl rfl rfl (zah [] [] [] rfl (ev1 rfl) en rfl rfl (vsites_d) rfl rfl rfl rfl rfl rfl) ?_
  refine zae ?_
  refine zat ?_
  refine dwp_hole ?_
  simp only [List.cons_append, List.nil_append]
  refine dwp_rf (FL := [(2, _), (3, _), (5, _)]) (st := (rst (cvF v w 1))) (pe := (rpe (.exit 0) (cvF v w 1))) [3, 0, 1, 2] [] [] 3 rfl rfl (ev1 rfl) rfl (subF_lk ⟨rfl, rfl, rfl, trivial⟩) rfl rfl rfl (vs1_cov v w _) rfl rfl rfl rfl rfl rfl rfl (rst_busy _) (fun e => ?_) (fun c e => ?_)
  · simp only [upd, za, zaa]
    refine zaf ?_
    refine zac ?_
    refine zab rfl rfl rfl (op_ldo rfl tb4 (ev1 rfl) rfl rfl) ?_
    refine zab rfl rfl rfl (zad (.inr rfl) (ev1 rfl)) ?_
    refine zae ?_
    refine zau ?_
    refine kend0 (rs1 rfl (rv_t rfl)) rfl ?_
    rw [← coB_cv]
    rfl
  · obtain ⟨e1, rfl⟩ : cvF v w 1 = false ∧ c = .exit 0 := by
      cases h : cvF v w 1 <;> simp_all [rpe]
    simp only [upd, za, zaa]
    refine dwp_exit ?_
    refine zaf ?_
    refine zac ?_
    refine zab rfl rfl rfl (op_ldo rfl tb4 (ev1 rfl) rfl rfl) ?_
    refine zab rfl rfl rfl (zad (.inr rfl) (ev1 rfl)) ?_
    refine zae ?_
    refine zau ?_
    refine kend0 (rs1 rfl (rv_t rfl)) rfl ?_
    rw [← coB_cv]
    rfl
end Go.Proofs.YtnjnhghafjlmbaaGreat
namespace Go.Proofs.YtnjnhghafjlmbaaGreat
set_option linter.unusedVariables false
set_option linter.unusedSimpArgs false
open Go.RowKit
theorem fl180 : fdL Tryz.prog 180 = some [(0, 9)] := by kernel_rfl
theorem fo180_0 : fdO Tryz.prog 180 0 = some 0 := by kernel_rfl
theorem ni178 : niF Tryz.prog 178 = true := by kernel_rfl
theorem tb151 : tyB Tryz.prog 151 = some (false, 1) := by kernel_rfl
theorem tb178 : tyB Tryz.prog 178 = some (true, 1) := by kernel_rfl
theorem tb181 : tyB Tryz.prog 181 = some (false, 1) := by kernel_rfl
theorem tb34 : tyB Tryz.prog 34 = some (false, 1) := by kernel_rfl
theorem zr178 : zrC Tryz.prog 178 = some [.int .i64 0] := by kernel_rfl
theorem zr180 : zrC Tryz.prog 180 = some [.int .u64 0, .int .u64 0, .int .u64 0, .int .u64 0, .int .u64 0, .int .u64 0, .int .u64 0, .int .u64 0, .int .u64 0] := by kernel_rfl
theorem zr34 : zrC Tryz.prog 34 = some [.int .i64 0] := by kernel_rfl
theorem zv178 : zrV Tryz.prog 178 = some (.agg #[.int .i64 0]) := by kernel_rfl
set_option maxRecDepth 4000 in
set_option maxHeartbeats 1000000 in
theorem wOf_d (v : Vec) (hv : vB v = true) : DFun Tryz.prog 116 [.val (.agg (c9 v).toArray)] [] (.loc 0 0) [.flat 180 (c9 v)] := by
  refine zba (N := 12) 0 (by kernel_rfl) Tryz.func116 rfl rfl rfl (by simp only [fr0, Nat.zero_add, Nat.reduceAdd]; exact rfl) rfl fun s0 hs0 => ?_
  refine zaf ?_
  refine zaj 1 (by simp only [holes, List.cons_append, List.nil_append]; exact rfl) ?_
  refine zac ?_
  refine zam rfl rfl rfl (op_boxa 0 rfl (ev1 rfl) rfl) (by simp only [upd, za, zaa]; exact rfl) ?_
  refine zab rfl rfl rfl (zad (.inr rfl) (ev1 rfl)) ?_
  refine zae ?_
  refine zaf ?_
  refine zaf ?_
  refine zac ?_
  refine zab rfl rfl rfl (zas rfl tb24 (ev1 rfl) rfl rfl) ?_
  refine zab rfl rfl rfl (op_bs (ps := [(0, .tmp 3)]) rfl sl30 zr24 rfl (vc (ev1 rfl) vn) rfl (by decide) (by decide)) ?_
  refine zab rfl rfl rfl (zah [] [] [] rfl (ev1 rfl) (ec (ev1 rfl) en) rfl rfl (are_d [v]) rfl rfl rfl rfl rfl rfl) ?_
  refine zab rfl rfl rfl (op_not rfl (ev1 rfl)) ?_
  refine zae ?_
  refine dwp_if_f rfl (by simp [hv]) ?_
  refine zak ?_
  refine zaf ?_
  refine zaj 1 (by simp only [holes, List.cons_append, List.nil_append]; exact rfl) ?_
  refine zac ?_
  refine zab rfl rfl rfl (zas rfl tb24 (ev1 rfl) rfl rfl) ?_
  refine zab rfl rfl rfl (op_build (ps := [(0, .tmp 9)]) rfl fl180 zr180 (vc (ev1 rfl) vn) rfl rfl) ?_
  refine zam rfl rfl rfl (op_boxa 1 rfl (ev1 rfl) rfl) (by simp only [upd, za, zaa]; exact rfl) ?_
  refine zab rfl rfl rfl (zad (.inr rfl) (ev1 rfl)) ?_
  refine zae ?_
  refine zau ?_
  refine kend [1] (rs1 rfl (rv_t rfl)) rfl rfl ?_ ⟨rfl, trivial⟩
  rfl
noncomputable def mrgA : Code := rfA (pth [1, 1, 0] (bodyOf Tryz.f118))
noncomputable def mrgB : Code := rfB (pth [1, 1, 0] (bodyOf Tryz.f118))
set_option maxRecDepth 4000 in
set_option maxHeartbeats 1000000 in
theorem mrgRound (v w : Vec) (j : Nat) (hj : j < 9) : DRound Tryz.prog 0 [.val (.int .i64 (j : Int))] [.lp 25 [(3, .loc 1 0), (4, .loc 2 0), (5, .loc 3 0)] #[8] mrgA mrgB .ready none, .mix 181 [.loc 4 0], .flat 24 (c9 w), .mix 151 [.fn (.func 97) [] []], .flat 180 (c9 v)] true [.lp 25 [(3, .loc 1 0), (4, .loc 2 0), (5, .loc 3 0)] #[8] mrgA mrgB .ready none, .mix 181 [.loc 4 0], .flat 24 (c9 w), .mix 151 [.fn (.func 97) [] []], .flat 180 (c9 (upV v j (max (v j) (w j))))] := by
  refine dround_go 5 rfl rfl (by simp) rfl rfl fun s0 hs0 => ?_
  refine zac ?_
  refine zab rfl rfl rfl (zad (.inr rfl) (ev1 rfl)) ?_
  refine zae ?_
  refine ⟨rfl, ?_⟩
  simp only [za, zaa]
  refine zat ?_
  refine dwp_draw [([1], []), ([], []), ([3], []), ([1], []), ([], []), ([], []), ([], []), ([], []), ([4], []), ([], []), ([], []), ([2], []), ([], []), ([], []), ([], []), ([], []), ([4], [4])] mixed (by kernel_rfl) ?_
  refine lex_r rfl rfl (zav rfl tb181 (ev1 rfl) rfl rfl) ?_
  refine lex_r rfl rfl (zad (.inl rfl) (ev1 rfl)) ?_
  refine lex_r rfl rfl (zav rfl tb151 (ev1 rfl) rfl rfl) ?_
  refine lex_r rfl rfl (zav rfl tb181 (ev1 rfl) rfl rfl) ?_
  refine lex_r rfl rfl (zad (.inl rfl) (ev1 rfl)) ?_
  refine lex_r rfl rfl (op_nc rfl (ev1 rfl) (fun s v h => by cases h; exact ⟨_, rfl⟩)) ?_
  refine lex_r rfl rfl (zap rfl fo180_0 (ev1 rfl)) ?_
  refine lex_r rfl rfl (op_ixl rfl ar24 (ev1 rfl) (ev1 rfl) (fun _ => by omega)) ?_
  refine lex_r rfl rfl (op_ldo rfl tb22 (ev1 rfl) rfl (c9_atp (j := j) (by simp) hj)) ?_
  refine lex_r rfl rfl (zad (.inl rfl) (ev1 rfl)) ?_
  refine lex_r rfl rfl (op_ixl rfl ar24 (ev1 rfl) (ev1 rfl) (fun _ => by omega)) ?_
  refine lex_r rfl rfl (op_ldo rfl tb22 (ev1 rfl) rfl (c9_atp (j := j) (by simp) hj)) ?_
  refine lex_r rfl rfl (zah [] [] [] rfl (ev1 rfl) (ec (ev1 rfl) (ec (ev1 rfl) en)) rfl rfl (join1_d _ _) rfl rfl rfl rfl rfl rfl) ?_
  refine lex_r rfl rfl (op_nc rfl (ev1 rfl) (fun s v h => by cases h; exact ⟨_, rfl⟩)) ?_
  refine lex_r rfl rfl (zap rfl fo180_0 (ev1 rfl)) ?_
  refine lex_r rfl rfl (op_ixl rfl ar24 (ev1 rfl) (ev1 rfl) (fun _ => by omega)) ?_
  refine lex_s rfl rfl (op_st1 rfl tb22 (ev1 rfl) (ev1 rfl) rfl (by simp [c9_len]; omega) (c9_setp (j := j) (by simp) hj)) rfl (by simp only [upd, za, zaa]; exact rfl) ?_
  refine lex_nil ?_
  refine ⟨by first | rfl | assumption | simp_all, rfl, [0, 1, 2, 3, 4], rfl, ⟨rfl, rfl, rfl, rfl, rfl, trivial⟩⟩
set_option maxRecDepth 4000 in
set_option maxHeartbeats 1000000 in
theorem vs1_mrg (v w : Vec) : DFun Tryz.prog 112 [.yld 0] [.lp 25 [(3, .loc 1 0), (4, .loc 2 0), (5, .loc 3 0)] #[8] mrgA mrgB .ready none, .mix 181 [.loc 4 0], .flat 24 (c9 w), .mix 151 [.fn (.func 97) [] []], .flat 180 (c9 v)] (.tup []) [.lp 25 [(3, .loc 1 0), (4, .loc 2 0), (5, .loc 3 0)] #[8] mrgA mrgB .ready none, .mix 181 [.loc 4 0], .flat 24 (c9 w), .mix 151 [.fn (.func 97) [] []], .flat 180 (c9 (mxTo v w 9))] := by
  refine zba (N := 11) 5 (by kernel_rfl) Tryz.func112 rfl rfl rfl (by simp only [fr0, Nat.zero_add, Nat.reduceAdd]; exact rfl) rfl fun s0 hs0 => ?_
  refine zaf ?_
  refine zac ?_
  refine zab rfl rfl rfl (zad (.inr rfl) (ev1 rfl)) ?_
  refine zae ?_
  refine zat ?_
  refine dwp_loopS ⟨hs0, rfl⟩ (α := Nat) (fun k => [(2, .val (.int .i64 (k : Int)))]) [(0, _)] (fun k => [(4, .flat 180 (c9 (mxTo v w k)))]) [_, _, _, _, .hole] (fun k => 1 ≤ k ∧ k ≤ 9) (fun k => 9 - k) 1 [0, 1, 2, 3, 4] (by simp) rfl ⟨rfl, trivial⟩ ⟨rfl, trivial⟩ ⟨rfl, rfl, rfl, rfl, by rw [mxTo_1]; rfl, trivial⟩ ?_
  intro k hx
  simp only [upd, za, zaa, List.cons_append, List.nil_append]
  obtain ⟨hk1, hk⟩ := hx
  refine zaf ?_
  refine zaf ?_
  refine zac ?_
  refine zab rfl rfl rfl (zad (.inl rfl) (ev1 rfl)) ?_
  refine zab rfl rfl rfl (op_leq rfl (ev1 rfl) (ev1 rfl)) ?_
  refine zae ?_
  refine zaw rfl (fun c1 => ?_) (fun c1 => ?_)
  · try simp only [decide_eq_true_eq, decide_eq_false_iff_not, beq_iff_eq, bne_iff_ne, beq_eq_false_iff_ne, bne_eq_false_iff_eq, Bool.not_eq_true', Bool.not_eq_false', Bool.and_eq_true, Bool.or_eq_true, Bool.or_eq_false_iff, ne_eq, Decidable.not_not, Int.not_lt, Int.not_le] at c1
    refine zak ?_
    refine zaf ?_
    refine zat ?_
    refine zaf ?_
    refine zac ?_
    refine zab rfl rfl rfl (zad (.inl rfl) (ev1 rfl)) ?_
    refine zab rfl rfl rfl (zad (.inl rfl) (ev1 rfl)) ?_
    refine zam rfl rfl rfl (op_y (i := 0) [0, 1, 2, 3, 4] [] [] rfl (ev1 rfl) (ec (ev1 rfl) en) rfl rfl rfl (mrgRound (mxTo v w k) w k (by omega)) rfl rfl rfl rfl rfl) (by simp only [upd, za, zaa]; exact rfl) ?_
    refine zab rfl rfl rfl (op_not rfl (ev1 rfl)) ?_
    refine zae ?_
    refine dwp_if_f rfl (rfl) ?_
    refine zak ?_
    refine zac ?_
    refine zab rfl rfl rfl (zad (.inl rfl) (ev1 rfl)) ?_
    refine zab rfl rfl rfl (op_add' rfl (ev1 rfl) (ev1 rfl) (fun _ => IntWalk.i64_in _ (by omega))) ?_
    refine zab rfl rfl rfl (zad (.inr rfl) (ev1 rfl)) ?_
    refine zae ?_
    refine ⟨k + 1, [0, 1, 2, 3, 4], ⟨by omega, by omega⟩, by simp only []; omega, rfl, ⟨rfl, rfl, trivial⟩, ⟨rfl, rfl, rfl, rfl, by rw [← mxTo_step v w hk1]; rfl, trivial⟩⟩
  · try simp only [decide_eq_true_eq, decide_eq_false_iff_not, beq_iff_eq, bne_iff_ne, beq_eq_false_iff_ne, bne_eq_false_iff_eq, Bool.not_eq_true', Bool.not_eq_false', Bool.and_eq_true, Bool.or_eq_true, Bool.or_eq_false_iff, ne_eq, Decidable.not_not, Int.not_lt, Int.not_le] at c1
    refine dwp_exit ?_
    rw [show k = 9 by omega]
    refine kend [0, 1, 2, 3, 4] (res_none rfl) rfl rfl ?_ ⟨rfl, rfl, rfl, rfl, rfl, trivial⟩
    rfl
set_option maxRecDepth 4000 in
set_option maxHeartbeats 1000000 in
theorem merge_d (v w : Vec) : DFun Tryz.prog 118 [.loc 0 0, .val (.agg (c9 w).toArray), .fn (.func 97) [] []] [.flat 180 (c9 v)] (.tup []) [.flat 180 (c9 (mxTo v w 9))] := by
  refine zba (N := 25) 1 (by kernel_rfl) Tryz.func118 rfl rfl rfl (by simp only [fr0, Nat.zero_add, Nat.reduceAdd]; exact rfl) rfl fun s0 hs0 => ?_
  refine zaf ?_
  refine zaj 3 (by simp only [holes, List.cons_append, List.nil_append]; exact rfl) ?_
  refine zac ?_
  refine zam rfl rfl rfl (op_boxm 1 rfl (ev1 rfl) (fun s v h => by cases h <;> rfl) rfl) (by simp only [upd, za, zaa]; exact rfl) ?_
  refine zam rfl rfl rfl (op_boxa 2 rfl (ev1 rfl) rfl) (by simp only [upd, za, zaa]; exact rfl) ?_
  refine zam rfl rfl rfl (op_boxm 3 rfl (ev1 rfl) (fun s v h => by cases h <;> rfl) rfl) (by simp only [upd, za, zaa]; exact rfl) ?_
  refine zae ?_
  refine zaf ?_
  refine zac ?_
  refine zab rfl rfl rfl (zah [] [] [] rfl (ev1 rfl) en rfl rfl (vsites_d) rfl rfl rfl rfl rfl rfl) ?_
  refine zae ?_
  refine zat ?_
  refine dwp_hole ?_
  simp only [List.cons_append, List.nil_append]
  refine dwp_rf (FL := [(3, _), (4, _), (5, _)]) (st := .ready) (pe := none) [4, 1, 2, 3, 0] [] [] 4 rfl rfl (ev1 rfl) rfl (subF_lk ⟨rfl, rfl, rfl, trivial⟩) rfl rfl rfl (vs1_mrg v w) rfl rfl rfl rfl rfl rfl rfl (by simp) (fun e => ?_) (fun c e => ?_)
  · simp only [upd, za, zaa]
    refine kend [0] (res_none rfl) rfl rfl ?_ ⟨rfl, trivial⟩
    rfl
  · cases e
set_option maxRecDepth 4000 in
set_option maxHeartbeats 1000000 in
theorem joined2_d (v w : Vec) : DFun Tryz.prog 117 [.loc 0 0, .val (.agg (c9 w).toArray), .loc 1 0] [.flat 180 (c9 v), .mix 151 [.fn (.func 97) [] []]] (.tup []) [.flat 180 (c9 (mxTo v w 9)), .mix 151 [.fn (.func 97) [] []]] := by
  refine zba (N := 9) 2 (by kernel_rfl) Tryz.func117 rfl rfl rfl (by simp only [fr0, Nat.zero_add, Nat.reduceAdd]; exact rfl) rfl fun s0 hs0 => ?_
  refine zaf ?_
  refine zaj 1 (by simp only [holes, List.cons_append, List.nil_append]; exact rfl) ?_
  refine zac ?_
  refine zam rfl rfl rfl (op_boxa 2 rfl (ev1 rfl) rfl) (by simp only [upd, za, zaa]; exact rfl) ?_
  refine zae ?_
  refine zac ?_
  refine zab rfl rfl rfl (zad (.inl rfl) (ev1 rfl)) ?_
  refine zab rfl rfl rfl (zas rfl tb24 (ev1 rfl) rfl rfl) ?_
  refine zab rfl rfl rfl (zav rfl tb151 (ev1 rfl) rfl rfl) ?_
  refine zam rfl rfl rfl (zah [0] [] [] rfl (ev1 rfl) (ec (ev1 rfl) (ec (ev1 rfl) (ec (ev1 rfl) en))) rfl rfl (merge_d _ _) rfl rfl rfl rfl rfl rfl) (by simp only [upd, za, zaa]; exact rfl) ?_
  refine zae ?_
  refine kend [0, 1] (res_none rfl) rfl rfl ?_ ⟨rfl, rfl, trivial⟩
  rfl
set_option maxRecDepth 4000 in
set_option maxHeartbeats 1000000 in
theorem merged_d (v w : Vec) : DFun Tryz.prog 115 [.loc 0 0, .slf 9 ([w]).length (([w]).flatMap c9), .fn (.func 117) [] [.loc 1 0]] [.flat 180 (c9 v), .mix 151 [.fn (.func 97) [] []]] (.loc 0 0) [.flat 180 (c9 (mxTo v w 9)), .mix 151 [.fn (.func 97) [] []]] := by
  refine zba (N := 21) 2 (by kernel_rfl) Tryz.func115 rfl rfl rfl (by simp only [fr0, Nat.zero_add, Nat.reduceAdd]; exact rfl) rfl fun s0 hs0 => ?_
  refine dwp_len (t := 1) rfl fun hl1 hL1 => ?_
  refine zaf ?_
  refine zac ?_
  refine zab rfl rfl rfl (zad (.inr rfl) (ev1 rfl)) ?_
  refine zae ?_
  refine zaf ?_
  refine zaf ?_
  refine zac ?_
  refine zab rfl rfl rfl (zad (.inl rfl) (ev1 rfl)) ?_
  refine zab rfl rfl rfl (op_len rfl sl30 (ev1 rfl)) ?_
  refine zab rfl rfl rfl (zad (.inl rfl) (ev1 rfl)) ?_
  refine zae ?_
  refine zat ?_
  refine dwp_loopS ⟨hs0, rfl⟩ (α := Nat) (fun k => [(11, .val (.int .i64 (k : Int)))]) [(0, _), (2, _), (9, _), (10, _)] (fun k => [(0, .flat 180 (c9 (if k = 0 then v else mxTo v w 9)))]) [.hole, _] (fun k => k ≤ 1) (fun k => 1 - k) 0 [0, 1] (by omega) rfl ⟨rfl, rfl, rfl, rfl, trivial⟩ ⟨rfl, trivial⟩ ⟨rfl, rfl, trivial⟩ ?_
  intro k hx
  simp only [upd, za, zaa, List.cons_append, List.nil_append]
  have hk := hx
  refine zaf ?_
  refine zac ?_
  refine zab rfl rfl rfl (op_lss rfl (ev1 rfl) (ev1 rfl)) ?_
  refine zae ?_
  refine zaf ?_
  refine zaw rfl (fun c1 => ?_) (fun c1 => ?_)
  · try simp only [decide_eq_true_eq, decide_eq_false_iff_not, beq_iff_eq, bne_iff_ne, beq_eq_false_iff_ne, bne_eq_false_iff_eq, Bool.not_eq_true', Bool.not_eq_false', Bool.and_eq_true, Bool.or_eq_true, Bool.or_eq_false_iff, ne_eq, Decidable.not_not, Int.not_lt, Int.not_le] at c1
    refine zak ?_
    refine zaf ?_
    refine zat ?_
    refine zaf ?_
    have hk0 : k = 0 := by simp at c1; omega
    subst hk0
    refine zaj 1 (by simp only [holes, List.cons_append, List.nil_append]; exact rfl) ?_
    refine zac ?_
    refine zab rfl rfl rfl (op_ixsr (j := 0) rfl sl30 (ev1 rfl) (ev1 rfl) (fun _ => rfl) (by decide) (by omega) (by omega)) ?_
    refine zab rfl rfl rfl (op_ldwd rfl tb24 (ev1 rfl) rfl) ?_
    refine zam rfl rfl rfl (zaq 2 rfl zr24 rfl) (by simp only [upd, za, zaa]; exact rfl) ?_
    refine zax rfl rfl (op_stwa rfl tb24 (ev1 rfl) (ev1 rfl) rfl rfl rfl rfl) (by simp only [upd, za, zaa]; exact rfl) ?_
    refine zae ?_
    refine zac ?_
    refine zab rfl rfl rfl (zad (.inl rfl) (ev1 rfl)) ?_
    refine zab rfl rfl rfl (zad (.inl rfl) (ev1 rfl)) ?_
    refine zab rfl rfl rfl (zas rfl tb24 (ev1 rfl) rfl rfl) ?_
    refine zam rfl rfl rfl (zah [0, 1] [] [] rfl (ev1 rfl) (ec (ev1 rfl) (ec (ev1 rfl) en)) rfl rfl (joined2_d _ _) rfl rfl rfl rfl rfl rfl) (by simp only [upd, za, zaa]; exact rfl) ?_
    refine zae ?_
    refine zac ?_
    refine zab rfl rfl rfl (op_add' rfl (ev1 rfl) (ev1 rfl) (fun _ => IntWalk.i64_in _ (by omega))) ?_
    refine zab rfl rfl rfl (zad (.inl rfl) (ev1 rfl)) ?_
    refine zae ?_
    refine ⟨1, [0, 1], by omega, by decide, rfl, ⟨rfl, rfl, rfl, rfl, rfl, trivial⟩, ⟨rfl, rfl, trivial⟩⟩
  · try simp only [decide_eq_true_eq, decide_eq_false_iff_not, beq_iff_eq, bne_iff_ne, beq_eq_false_iff_ne, bne_eq_false_iff_eq, Bool.not_eq_true', Bool.not_eq_false', Bool.and_eq_true, Bool.or_eq_true, Bool.or_eq_false_iff, ne_eq, Decidable.not_not, Int.not_lt, Int.not_le] at c1
    refine dwp_exit ?_
    refine zaf ?_
    refine zac ?_
    refine zab rfl rfl rfl (zad (.inl rfl) (ev1 rfl)) ?_
    refine zab rfl rfl rfl (zad (.inr rfl) (ev1 rfl)) ?_
    refine zae ?_
    refine zau ?_
    have hk1 : k = 1 := by simp at c1; omega
    subst hk1
    refine kend [0, 1] (rs1 rfl (rv_t rfl)) rfl rfl ?_ ⟨rfl, rfl, trivial⟩
    rfl
set_option maxRecDepth 4000 in
set_option maxHeartbeats 1000000 in
theorem vtold_no : DFun Tryz.prog 114 [.val .nilIface] [] (.val (.int .i64 0)) [] := by
  refine zba (N := 13) 0 (by kernel_rfl) Tryz.func114 rfl rfl rfl (by simp only [fr0, Nat.zero_add, Nat.reduceAdd]; exact rfl) rfl fun s0 hs0 => ?_
  refine zaf ?_
  refine zac ?_
  refine zab rfl rfl rfl (zad (.inr rfl) (ev1 rfl)) ?_
  refine zae ?_
  refine zaf ?_
  refine zaf ?_
  refine zaj 1 (by simp only [holes, List.cons_append, List.nil_append]; exact rfl) ?_
  refine zac ?_
  refine zab rfl rfl rfl (zad (.inl rfl) (ev1 rfl)) ?_
  refine zab rfl rfl rfl (op_tan rfl ni178 zv178 (ev1 rfl)) ?_
  refine zab rfl rfl rfl (zad (.inl rfl) (ev1 rfl)) ?_
  refine zab rfl rfl rfl (op_ext rfl (ev1 rfl) rfl) ?_
  refine zab rfl rfl rfl (op_ext rfl (ev1 rfl) rfl) ?_
  refine zam rfl rfl rfl (zaq 0 rfl zr178 rfl) (by simp only [upd, za, zaa]; exact rfl) ?_
  refine zax rfl rfl (op_stwa rfl tb178 (ev1 rfl) (ev1 rfl) rfl rfl rfl rfl) (by simp only [upd, za, zaa]; exact rfl) ?_
  refine zab rfl rfl rfl (zad (.inr rfl) (ev1 rfl)) ?_
  refine zae ?_
  refine zaf ?_
  refine zac ?_
  refine zab rfl rfl rfl (zad (.inl rfl) (ev1 rfl)) ?_
  refine zae ?_
  refine dwp_if_f rfl (rfl) ?_
  refine zak ?_
  refine zaf ?_
  refine zac ?_
  refine zab rfl rfl rfl (zad (.inr rfl) (ev1 rfl)) ?_
  refine zae ?_
  refine zau ?_
  refine kend0 (rs1 rfl (rv_t rfl)) rfl ?_
  rfl
set_option maxRecDepth 4000 in
set_option maxHeartbeats 1000000 in
theorem vj1_idle (e : Int) : DDef Tryz.prog 113 [.loc 0 0] [.flat 34 [.int .i64 e]] none none [.flat 34 [.int .i64 0]] := by
  refine ddef_go1 (dr := .tup []) (t := 1) (N := 3) 1 (by kernel_rfl) Tryz.func113 rfl rfl rfl (by simp only [fr0, Nat.zero_add, Nat.reduceAdd]; exact rfl) rfl rfl rfl rfl rfl fun s0 hs0 => ?_
  refine zab rfl rfl rfl (zah [] [] [] rfl (ev1 rfl) (ec (ev1 rfl) en) rfl rfl (vtold_no) rfl rfl rfl rfl rfl rfl) ?_
  refine zax rfl rfl (op_stwi rfl tb34 (ev1 rfl) (ev1 rfl) rfl) (by simp only [upd, za, zaa]; exact rfl) ?_
  refine zae ?_
  refine kend [0] (res_none rfl) rfl rfl ?_ ⟨rfl, trivial⟩
  rfl
set_option maxRecDepth 4000 in
set_option maxHeartbeats 1000000 in
theorem joined_d (v w : Vec) (hv : vB v = true) (hw : vB w = true) : DFun Tryz.prog 96 [.val (.agg (c9 v).toArray), .slf 9 ([w]).length (([w]).flatMap c9), .fn (.func 97) [] []] [] (.tup [.val (.agg (c9 (maxV v w)).toArray), .val (.int .i64 0)]) [] := by
  refine dcalls_body (N := 22) 0 (by kernel_rfl) Tryz.func96 rfl rfl rfl (by simp only [fr0, Nat.zero_add, Nat.reduceAdd]; exact rfl) rfl fun s0 hs0 => ?_
  refine dbody_seq rfl hs0 ?_
  refine zaj 4 (by simp only [holes, List.cons_append, List.nil_append]; exact rfl) ?_
  refine zac ?_
  refine zam rfl rfl rfl (op_boxa 0 rfl (ev1 rfl) rfl) (by simp only [upd, za, zaa]; exact rfl) ?_
  refine zam rfl rfl rfl (op_boxm 1 rfl (ev1 rfl) (fun s v h => by cases h <;> rfl) rfl) (by simp only [upd, za, zaa]; exact rfl) ?_
  refine zam rfl rfl rfl (zaq 2 rfl zr24 rfl) (by simp only [upd, za, zaa]; exact rfl) ?_
  refine zam rfl rfl rfl (zaq 3 rfl zr34 rfl) (by simp only [upd, za, zaa]; exact rfl) ?_
  refine zae ?_
  refine dbody_defer (l0 := [_]) rfl rfl rfl rfl rfl hs0 ?_
  refine zab rfl rfl rfl (op_mkf rfl en (ec (ev1 rfl) en)) ?_
  refine zae ⟨_, _, _, 4, ev1 rfl, Nat.le_trans hs0 (by decide), rfl, ?_⟩
  have hs1 : s0.M.length ≤ 4 := Nat.le_trans hs0 (by decide)
  refine dbody_end rfl hs0 ?_
  refine zaf ?_
  refine zaf ?_
  refine zac ?_
  refine zab rfl rfl rfl (zad (.inl rfl) (ev1 rfl)) ?_
  refine zab rfl rfl rfl (zah [] [] [] rfl (ev1 rfl) (ec (ev1 rfl) en) rfl rfl (are_d [w]) rfl rfl rfl rfl rfl rfl) ?_
  refine zab rfl rfl rfl (op_not rfl (ev1 rfl)) ?_
  refine zae ?_
  refine dwp_if_f rfl (by simp [hw]) ?_
  refine zak ?_
  refine zaf ?_
  refine zaj 1 (by simp only [holes, List.cons_append, List.nil_append]; exact rfl) ?_
  refine zac ?_
  refine zab rfl rfl rfl (zas rfl tb24 (ev1 rfl) rfl rfl) ?_
  refine zam rfl rfl rfl (zah [] [] [4] rfl (ev1 rfl) (ec (ev1 rfl) en) rfl rfl (wOf_d _ (by assumption)) rfl rfl rfl rfl rfl rfl) (by simp only [upd, za, zaa]; exact rfl) ?_
  refine zab rfl rfl rfl (zad (.inl rfl) (ev1 rfl)) ?_
  refine zab rfl rfl rfl (op_mkf rfl en (ec (ev1 rfl) en)) ?_
  refine zam rfl rfl rfl (zah [4, 1] [] [] rfl (ev1 rfl) (ec (ev1 rfl) (ec (ev1 rfl) (ec (ev1 rfl) en))) rfl rfl (merged_d _ _) rfl rfl rfl rfl rfl rfl) (by simp only [upd, za, zaa]; exact rfl) ?_
  refine zab rfl rfl rfl (op_nc rfl (ev1 rfl) (fun s v h => by cases h; exact ⟨_, rfl⟩)) ?_
  refine zab rfl rfl rfl (zap rfl fo180_0 (ev1 rfl)) ?_
  refine zab rfl rfl rfl (zas rfl tb24 (ev1 rfl) rfl rfl) ?_
  refine zax rfl rfl (op_stwa rfl tb24 (ev1 rfl) (ev1 rfl) rfl rfl rfl rfl) (by simp only [upd, za, zaa]; exact rfl) ?_
  refine zax rfl rfl (op_stwi rfl tb34 (ev1 rfl) (ev1 rfl) rfl) (by simp only [upd, za, zaa]; exact rfl) ?_
  refine zae ?_
  refine zau ?_
  refine kdef (dturn_idle [3] [] rfl rfl (vj1_idle _) rfl rfl rfl rfl rfl) ?_
  refine kend0 (rs2 rfl (rv_w tb24 rfl rfl rfl) (rv_1 tb34 rfl rfl rfl)) rfl ?_
  rw [← mxTo_end (vB_0 hv) (vB_0 hw)]
set_option maxRecDepth 4000 in
set_option maxHeartbeats 1000000 in
theorem join_d (v w : Vec) (hv : vB v = true) (hw : vB w = true) : DFun Tryz.prog 81 [.val (.agg (c9 v).toArray), .slf 9 ([w]).length (([w]).flatMap c9)] [] (.tup [.val (.agg (c9 (maxV v w)).toArray), .val (.int .i64 0)]) [] := by
  refine zba (N := 11) 0 (by kernel_rfl) Tryz.func81 rfl rfl rfl (by simp only [fr0, Nat.zero_add, Nat.reduceAdd]; exact rfl) rfl fun s0 hs0 => ?_
  refine dwp_len (t := 1) rfl fun hl1 hL1 => ?_
  refine zaf ?_
  refine zaj 2 (by simp only [holes, List.cons_append, List.nil_append]; exact rfl) ?_
  refine zac ?_
  refine zam rfl rfl rfl (op_boxa 0 rfl (ev1 rfl) rfl) (by simp only [upd, za, zaa]; exact rfl) ?_
  refine zam rfl rfl rfl (zaq 1 rfl zr24 rfl) (by simp only [upd, za, zaa]; exact rfl) ?_
  refine zab rfl rfl rfl (zad (.inr rfl) (ev1 rfl)) ?_
  refine zae ?_
  refine zaf ?_
  refine zac ?_
  refine zab rfl rfl rfl (zas rfl tb24 (ev1 rfl) rfl rfl) ?_
  refine zab rfl rfl rfl (zad (.inl rfl) (ev1 rfl)) ?_
  refine zab rfl rfl rfl (zah [] [] [] rfl (ev1 rfl) (ec (ev1 rfl) (ec (ev1 rfl) (ec (ev1 rfl) en))) rfl rfl (joined_d _ _ (by assumption) (by assumption)) rfl rfl rfl rfl rfl rfl) ?_
  refine zab rfl rfl rfl (op_ext rfl (ev1 rfl) rfl) ?_
  refine zab rfl rfl rfl (op_ext rfl (ev1 rfl) rfl) ?_
  refine zax rfl rfl (op_stwa rfl tb24 (ev1 rfl) (ev1 rfl) rfl rfl rfl rfl) (by simp only [upd, za, zaa]; exact rfl) ?_
  refine zab rfl rfl rfl (zad (.inr rfl) (ev1 rfl)) ?_
  refine zae ?_
  refine zau ?_
  refine kend0 (rs2 rfl (rv_w tb24 rfl rfl rfl) (rv_t rfl)) rfl ?_
  rfl
end Go.Proofs.YtnjnhghafjlmbaaGreat
namespace Go.Proofs.YtnjnhghafjlmbaaGreat
set_option linter.unusedVariables false
set_option linter.unusedSimpArgs false
open Go.RowKit
theorem ar27 : arE Tryz.prog 27 = some (9, 12) := by kernel_rfl
theorem fl101 : fdL Tryz.prog 101 = some [(0, 119)] := by kernel_rfl
theorem fl126 : fdL Tryz.prog 126 = some [(0, 1)] := by kernel_rfl
theorem fl26 : fdL Tryz.prog 26 = some [(0, 1), (1, 1), (2, 1), (3, 9)] := by kernel_rfl
theorem fo126_0 : fdO Tryz.prog 126 0 = some 0 := by kernel_rfl
theorem fo26_0 : fdO Tryz.prog 26 0 = some 0 := by kernel_rfl
theorem fo26_1 : fdO Tryz.prog 26 1 = some 1 := by kernel_rfl
theorem fo26_2 : fdO Tryz.prog 26 2 = some 2 := by kernel_rfl
theorem fo26_3 : fdO Tryz.prog 26 3 = some 3 := by kernel_rfl
theorem fo29_0 : fdO Tryz.prog 29 0 = some 0 := by kernel_rfl
theorem fo29_1 : fdO Tryz.prog 29 1 = some 1 := by kernel_rfl
theorem fo29_2 : fdO Tryz.prog 29 2 = some 10 := by kernel_rfl
theorem fo29_3 : fdO Tryz.prog 29 3 = some 11 := by kernel_rfl
theorem ni126 : niF Tryz.prog 126 = true := by kernel_rfl
theorem sl52 : slE Tryz.prog 52 = some (26, 12, 96) := by kernel_rfl
theorem tb126 : tyB Tryz.prog 126 = some (true, 1) := by kernel_rfl
theorem tb26 : tyB Tryz.prog 26 = some (true, 12) := by kernel_rfl
theorem tb29 : tyB Tryz.prog 29 = some (true, 119) := by kernel_rfl
theorem zr101 : zrC Tryz.prog 101 = some (frC zF) := by kernel_rfl
theorem zr126 : zrC Tryz.prog 126 = some [.int .i64 0] := by kernel_rfl
theorem zv126 : zrV Tryz.prog 126 = some (.agg #[.int .i64 0]) := by kernel_rfl
theorem wrapB (f : FrM) : fillB [(0, 119)] (frC zF).length [(0, frC f)] = true := by
  simp only [fillB, List.getElem?_cons_zero, zao]
  rfl
set_option maxRecDepth 4000 in
set_option maxHeartbeats 1000000 in
theorem mayBe_d (p : Pl) : DFun Tryz.prog 48 [.val (.agg (plC p).toArray)] [] (.val (.bool (plB p))) [] := by
  refine zba (N := 21) 0 (by kernel_rfl) Tryz.func48 rfl rfl rfl (by simp only [fr0, Nat.zero_add, Nat.reduceAdd]; exact rfl) rfl fun s0 hs0 => ?_
  refine zaf ?_
  refine zaj 1 (by simp only [holes, List.cons_append, List.nil_append]; exact rfl) ?_
  refine zac ?_
  refine zam rfl rfl rfl (op_boxa 0 rfl (ev1 rfl) rfl) (by simp only [upd, za, zaa]; exact rfl) ?_
  refine zab rfl rfl rfl (zad (.inr rfl) (ev1 rfl)) ?_
  refine zae ?_
  refine zaf ?_
  refine zac ?_
  refine zab rfl rfl rfl (zap rfl fo26_0 (ev1 rfl)) ?_
  refine zab rfl rfl rfl (op_ldo rfl tb4 (ev1 rfl) rfl rfl) ?_
  refine zab rfl rfl rfl (zad (.inl rfl) (ev1 rfl)) ?_
  refine zag (zar rfl rfl rfl) rfl rfl rfl (zap rfl fo26_1 (ev1 rfl)) ?_
  refine zag (zar rfl rfl rfl) rfl rfl rfl (op_ldo rfl tb22 (ev2 rfl) rfl rfl) ?_
  refine zag (zar rfl rfl rfl) rfl rfl rfl (op_leq rfl (ev2 rfl) (ev1 rfl)) ?_
  refine zab rfl rfl rfl (zaz rfl (ev1 rfl) (ev3 rfl id)) ?_
  refine zab rfl rfl rfl (zad (.inl rfl) (ev1 rfl)) ?_
  refine zag (zar rfl rfl rfl) rfl rfl rfl (zap rfl fo26_2 (ev1 rfl)) ?_
  refine zag (zar rfl rfl rfl) rfl rfl rfl (op_ldo rfl tb22 (ev2 rfl) rfl rfl) ?_
  refine zag (zar rfl rfl rfl) rfl rfl rfl (op_leq rfl (ev2 rfl) (ev1 rfl)) ?_
  refine zab rfl rfl rfl (zaz rfl (ev1 rfl) (ev3 rfl id)) ?_
  refine zab rfl rfl rfl (zad (.inl rfl) (ev1 rfl)) ?_
  refine zag (zar rfl rfl rfl) rfl rfl rfl (zap rfl fo26_3 (ev1 rfl)) ?_
  refine zag (zar rfl rfl rfl) rfl rfl rfl (op_ldr rfl tb24 (ev2 rfl) rfl rfl rfl) ?_
  refine zag (zar rfl rfl rfl) rfl rfl rfl (zah [] [] [] rfl (ev1 rfl) (ec (ev2 rfl) en) rfl rfl (vCheck_d _) rfl rfl rfl rfl rfl rfl) ?_
  refine zag (zar rfl rfl rfl) rfl rfl rfl (zb rfl (ev2 rfl) (ev1 rfl)) ?_
  refine zab rfl rfl rfl (zaz rfl (ev1 rfl) (ev3 rfl id)) ?_
  refine zab rfl rfl rfl (zad (.inr rfl) (ev1 rfl)) ?_
  refine zae ?_
  refine zau ?_
  refine kend0 (rs1 rfl (rv_t rfl)) rfl ?_
  rw [← plB_code]
set_option maxRecDepth 4000 in
set_option maxHeartbeats 1000000 in
theorem isSite_d (s : Int) : DFun Tryz.prog 63 [.val (.int .i64 s)] [] (.val (.bool (isS s))) [] := by
  refine zba (N := 9) 0 (by kernel_rfl) Tryz.func63 rfl rfl rfl (by simp only [fr0, Nat.zero_add, Nat.reduceAdd]; exact rfl) rfl fun s0 hs0 => ?_
  refine zaf ?_
  refine zac ?_
  refine zab rfl rfl rfl (zad (.inr rfl) (ev1 rfl)) ?_
  refine zae ?_
  refine zaf ?_
  refine zac ?_
  refine zab rfl rfl rfl (zad (.inl rfl) (ev1 rfl)) ?_
  refine zab rfl rfl rfl (op_geq rfl (ev1 rfl) (ev1 rfl)) ?_
  refine zab rfl rfl rfl (zad (.inl rfl) (ev1 rfl)) ?_
  refine zag (zar rfl rfl rfl) rfl rfl rfl (zad (.inl rfl) (ev1 rfl)) ?_
  refine zag (zar rfl rfl rfl) rfl rfl rfl (op_leq rfl (ev2 rfl) (ev1 rfl)) ?_
  refine zab rfl rfl rfl (zaz rfl (ev1 rfl) (ev3 rfl id)) ?_
  refine zab rfl rfl rfl (zad (.inr rfl) (ev1 rfl)) ?_
  refine zae ?_
  refine zau ?_
  refine kend0 (rs1 rfl (rv_t rfl)) rfl ?_
  rfl
set_option maxRecDepth 4000 in
set_option maxHeartbeats 1000000 in
theorem ck1_d (f : FrM) (p : Pl) : DFun Tryz.prog 47 [.val (.agg (plC p).toArray), .dpf (frC f)] [] (.val (.bool (siC f.fo p))) [] := by
  refine zba (N := 18) 0 (by kernel_rfl) Tryz.func47 rfl rfl rfl (by simp only [fr0, Nat.zero_add, Nat.reduceAdd]; exact rfl) rfl fun s0 hs0 => ?_
  refine zaf ?_
  refine zaj 1 (by simp only [holes, List.cons_append, List.nil_append]; exact rfl) ?_
  refine zac ?_
  refine zam rfl rfl rfl (op_boxa 0 rfl (ev1 rfl) rfl) (by simp only [upd, za, zaa]; exact rfl) ?_
  refine zab rfl rfl rfl (zad (.inr rfl) (ev1 rfl)) ?_
  refine zae ?_
  refine zaf ?_
  refine zac ?_
  refine zab rfl rfl rfl (zas rfl tb26 (ev1 rfl) rfl rfl) ?_
  refine zab rfl rfl rfl (op_build0 rfl fl26 zr26) ?_
  refine zab rfl rfl rfl (op_eqr eq26 rfl gd26 tb26 (ev1 rfl) (ev1 rfl)) ?_
  refine zab rfl rfl rfl (zad (.inl rfl) (ev1 rfl)) ?_
  refine zag (zan rfl rfl rfl) rfl rfl rfl (zas rfl tb26 (ev1 rfl) rfl rfl) ?_
  refine zag (zan rfl rfl rfl) rfl rfl rfl (zah [] [] [] rfl (ev1 rfl) (ec (ev2 rfl) en) rfl rfl (mayBe_d _) rfl rfl rfl rfl rfl rfl) ?_
  refine zag (zan rfl rfl rfl) rfl rfl rfl (zad (.inl rfl) (ev2 rfl)) ?_
  refine zag (zay rfl rfl rfl) rfl rfl rfl (zap rfl fo26_1 (ev1 rfl)) ?_
  refine zag (zay rfl rfl rfl) rfl rfl rfl (op_ldo rfl tb22 (ev2 rfl) rfl rfl) ?_
  refine zag (zay rfl rfl rfl) rfl rfl rfl (op_fad rfl fo29_0 (ev1 rfl)) ?_
  refine zag (zay rfl rfl rfl) rfl rfl rfl (op_ldod rfl tb22 (ev2 rfl) rfl) ?_
  refine zag (zay rfl rfl rfl) rfl rfl rfl (op_geq rfl (ev2 rfl) (ev2 rfl)) ?_
  refine zag (zan rfl rfl rfl) rfl rfl rfl (zaz rfl (ev2 rfl) (ev2 rfl)) ?_
  refine zab rfl rfl rfl (op_or rfl (ev1 rfl) (ev3 rfl id)) ?_
  refine zab rfl rfl rfl (zad (.inr rfl) (ev1 rfl)) ?_
  refine zae ?_
  refine zau ?_
  refine kend0 (rs1 rfl (rv_t rfl)) rfl ?_
  unfold siC
  rw [natle]
set_option maxRecDepth 4000 in
set_option maxHeartbeats 1000000 in
theorem allP_d (f : FrM) (l : List Pl) : DFun Tryz.prog 46 [.slf 12 (l).length ((l).flatMap plC), .fn (.func 47) [] [.dpf (frC f)]] [] (.val (.bool (l.all (siC f.fo)))) [] := by
  refine zba (N := 18) 0 (by kernel_rfl) Tryz.func46 rfl rfl rfl (by simp only [fr0, Nat.zero_add, Nat.reduceAdd]; exact rfl) rfl fun s0 hs0 => ?_
  refine dwp_len (t := 0) rfl fun hl0 hL0 => ?_
  refine zaf ?_
  refine zac ?_
  refine zab rfl rfl rfl (zad (.inr rfl) (ev1 rfl)) ?_
  refine zae ?_
  refine zaf ?_
  refine zaf ?_
  refine zac ?_
  refine zab rfl rfl rfl (zad (.inl rfl) (ev1 rfl)) ?_
  refine zab rfl rfl rfl (op_len rfl sl52 (ev1 rfl)) ?_
  refine zab rfl rfl rfl (zad (.inl rfl) (ev1 rfl)) ?_
  refine zae ?_
  refine zat ?_
  refine dwp_loopS ⟨hs0, rfl⟩ (α := Nat) (fun k => [(9, .val (.int .i64 (k : Int)))]) [(1, _), (7, _), (8, _)] (fun k => []) [] (fun k => k ≤ l.length ∧ (l.take k).all (siC f.fo) = true) (fun k => l.length - k) 0 [] (by simp) rfl ⟨rfl, rfl, rfl, trivial⟩ ⟨rfl, trivial⟩ trivial ?_
  intro k hx
  simp only [upd, za, zaa, List.cons_append, List.nil_append]
  obtain ⟨hk, he⟩ := hx
  refine zaf ?_
  refine zac ?_
  refine zab rfl rfl rfl (op_lss rfl (ev1 rfl) (ev1 rfl)) ?_
  refine zae ?_
  refine zaf ?_
  refine zaw rfl (fun c1 => ?_) (fun c1 => ?_)
  · try simp only [decide_eq_true_eq, decide_eq_false_iff_not, beq_iff_eq, bne_iff_ne, beq_eq_false_iff_ne, bne_eq_false_iff_eq, Bool.not_eq_true', Bool.not_eq_false', Bool.and_eq_true, Bool.or_eq_true, Bool.or_eq_false_iff, ne_eq, Decidable.not_not, Int.not_lt, Int.not_le] at c1
    refine zak ?_
    refine zaf ?_
    refine zat ?_
    refine zaf ?_
    refine zaj 1 (by simp only [holes, List.cons_append, List.nil_append]; exact rfl) ?_
    refine zac ?_
    refine zab rfl rfl rfl (op_ixsr (j := k) rfl sl52 (ev1 rfl) (ev1 rfl) (fun _ => rfl) (by decide) (by omega) (by omega)) ?_
    refine zab rfl rfl rfl (op_ldwd rfl tb26 (ev1 rfl) rfl) ?_
    refine zam rfl rfl rfl (zaq 0 rfl zr26 rfl) (by simp only [upd, za, zaa]; exact rfl) ?_
    refine zax rfl rfl (op_stwa rfl tb26 (ev1 rfl) (ev1 rfl) rfl rfl rfl rfl) (by simp only [upd, za, zaa]; exact rfl) ?_
    refine zae ?_
    refine zaf ?_
    refine zac ?_
    refine zab rfl rfl rfl (zad (.inl rfl) (ev1 rfl)) ?_
    refine zab rfl rfl rfl (zas rfl tb26 (ev1 rfl) rfl rfl) ?_
    refine zab rfl rfl rfl (zah [] [] [] rfl (ev1 rfl) (ec (ev1 rfl) en) rfl rfl (ck1_d f _) rfl rfl rfl rfl rfl rfl) ?_
    refine zab rfl rfl rfl (op_not rfl (ev1 rfl)) ?_
    refine zae ?_
    refine zaw rfl (fun c2 => ?_) (fun c2 => ?_)
    · have c2 : siC f.fo l[k] = false := by simpa using c2
      refine zaf ?_
      refine zac ?_
      refine zab rfl rfl rfl (zad (.inr rfl) (ev1 rfl)) ?_
      refine zae ?_
      refine zau ?_
      refine kend0 (rs1 rfl (rv_t rfl)) rfl ?_
      rw [show l.all (siC f.fo) = false from List.all_eq_false.2 ⟨l[k], List.getElem_mem _, by rw [c2]; decide⟩]
    · have c2 : siC f.fo l[k] = true := by simpa using c2
      refine zak ?_
      refine zac ?_
      refine zab rfl rfl rfl (op_add' rfl (ev1 rfl) (ev1 rfl) (fun _ => IntWalk.i64_in _ (by omega))) ?_
      refine zab rfl rfl rfl (zad (.inl rfl) (ev1 rfl)) ?_
      refine zae ?_
      refine ⟨k + 1, [], ⟨by omega, by rw [List.take_succ_eq_append_getElem (by omega), List.all_append, he]; simp [c2]⟩, by simp only []; omega, rfl, ⟨rfl, rfl, rfl, rfl, trivial⟩, trivial⟩
  · try simp only [decide_eq_true_eq, decide_eq_false_iff_not, beq_iff_eq, bne_iff_ne, beq_eq_false_iff_ne, bne_eq_false_iff_eq, Bool.not_eq_true', Bool.not_eq_false', Bool.and_eq_true, Bool.or_eq_true, Bool.or_eq_false_iff, ne_eq, Decidable.not_not, Int.not_lt, Int.not_le] at c1
    refine dwp_exit ?_
    refine zaf ?_
    refine zac ?_
    refine zab rfl rfl rfl (zad (.inr rfl) (ev1 rfl)) ?_
    refine zae ?_
    refine zau ?_
    refine kend0 (rs1 rfl (rv_t rfl)) rfl ?_
    rw [List.take_of_length_le (by omega)] at he
    rw [he]
set_option maxRecDepth 4000 in
set_option maxHeartbeats 1000000 in
theorem fCheck_d (f : FrM) : DFun Tryz.prog 11 [.val (.agg (frC f).toArray)] [] (.val (.int .i64 (errOr (frB f) 280))) [] := by
  refine zba (N := 39) 0 (by kernel_rfl) Tryz.func11 rfl rfl rfl (by simp only [fr0, Nat.zero_add, Nat.reduceAdd]; exact rfl) rfl fun s0 hs0 => ?_
  refine zaf ?_
  refine zaj 1 (by simp only [holes, List.cons_append, List.nil_append]; exact rfl) ?_
  refine zac ?_
  refine zam rfl rfl rfl (op_boxa 0 rfl (ev1 rfl) rfl) (by simp only [upd, za, zaa]; exact rfl) ?_
  refine zab rfl rfl rfl (zad (.inr rfl) (ev1 rfl)) ?_
  refine zae ?_
  refine zaf ?_
  refine zaf ?_
  refine zac ?_
  refine zab rfl rfl rfl (zap rfl fo29_0 (ev1 rfl)) ?_
  refine zab rfl rfl rfl (op_ldo rfl tb22 (ev1 rfl) rfl rfl) ?_
  refine zab rfl rfl rfl (op_gtr rfl (ev1 rfl) (ev1 rfl)) ?_
  refine zab rfl rfl rfl (zad (.inl rfl) (ev1 rfl)) ?_
  refine zag (zan rfl rfl rfl) rfl rfl rfl (zap rfl fo29_1 (ev1 rfl)) ?_
  refine zag (zan rfl rfl rfl) rfl rfl rfl (op_ldr rfl tb24 (ev2 rfl) rfl (frC_bv _) rfl) ?_
  refine zag (zan rfl rfl rfl) rfl rfl rfl (zah [] [] [] rfl (ev1 rfl) (ec (ev2 rfl) en) rfl rfl (vCheck_d _) rfl rfl rfl rfl rfl rfl) ?_
  refine zag (zan rfl rfl rfl) rfl rfl rfl (op_neq rfl (ev2 rfl) (ev1 rfl)) ?_
  refine zab rfl rfl rfl (op_or rfl (ev1 rfl) (ev3 rfl id)) ?_
  refine zab rfl rfl rfl (zad (.inl rfl) (ev1 rfl)) ?_
  refine zag (zan rfl rfl rfl) rfl rfl rfl (zap rfl fo29_3 (ev1 rfl)) ?_
  refine zag (zan rfl rfl rfl) rfl rfl rfl (op_ixl rfl ar27 (ev2 rfl) (ev1 rfl) (fun _ => by omega)) ?_
  refine zag (zan rfl rfl rfl) rfl rfl rfl (op_ldr rfl tb26 (ev2 rfl) rfl (frC_atp (j := 0) (by rfl) (by omega)) rfl) ?_
  refine zag (zan rfl rfl rfl) rfl rfl rfl (op_build0 rfl fl26 zr26) ?_
  refine zag (zan rfl rfl rfl) rfl rfl rfl (op_ner eq26 rfl gd26 tb26 (ev2 rfl) (ev2 rfl)) ?_
  refine zab rfl rfl rfl (op_or rfl (ev1 rfl) (ev3 rfl id)) ?_
  refine zae ?_
  refine zaw rfl (fun c1 => ?_) (fun c1 => ?_)
  · have hb : frB f = false := chk1_t f c1
    refine zaf ?_
    refine zac ?_
    refine zab rfl rfl rfl (zad (.inr rfl) (ev1 rfl)) ?_
    refine zae ?_
    refine zau ?_
    refine kend0 (rs1 rfl (rv_t rfl)) rfl ?_
    rw [hb]
    rfl
  · have hb := chk1_f f c1
    refine zak ?_
    refine zaf ?_
    refine zaf ?_
    refine zac ?_
    refine zab rfl rfl rfl (zap rfl fo29_2 (ev1 rfl)) ?_
    refine zab rfl rfl rfl (op_ldo rfl tb22 (ev1 rfl) rfl rfl) ?_
    refine zab rfl rfl rfl (op_neq rfl (ev1 rfl) (ev1 rfl)) ?_
    refine zab rfl rfl rfl (zad (.inl rfl) (ev1 rfl)) ?_
    refine zag (zar rfl rfl rfl) rfl rfl rfl (zap rfl fo29_2 (ev1 rfl)) ?_
    refine zag (zar rfl rfl rfl) rfl rfl rfl (op_ldo rfl tb22 (ev2 rfl) rfl rfl) ?_
    refine zag (zar rfl rfl rfl) rfl rfl rfl (zap rfl fo29_0 (ev1 rfl)) ?_
    refine zag (zar rfl rfl rfl) rfl rfl rfl (op_ldo rfl tb22 (ev2 rfl) rfl rfl) ?_
    refine zag (zar rfl rfl rfl) rfl rfl rfl (op_leq rfl (ev2 rfl) (ev2 rfl)) ?_
    refine zag (zar rfl rfl rfl) rfl rfl rfl (zad (.inl rfl) (ev2 rfl)) ?_
    refine zag (gd_ff rfl rfl rfl) rfl rfl rfl (zap rfl fo29_2 (ev1 rfl)) ?_
    refine zag (gd_ff rfl rfl rfl) rfl rfl rfl (op_ldo rfl tb22 (ev2 rfl) rfl rfl) ?_
    refine zag (gd_ff rfl rfl rfl) rfl rfl rfl (op_gtr rfl (ev2 rfl) (ev1 rfl)) ?_
    refine zag (zar rfl rfl rfl) rfl rfl rfl (op_or rfl (ev2 rfl) (ev2 rfl)) ?_
    refine zab rfl rfl rfl (zaz rfl (ev1 rfl) (ev3 rfl id)) ?_
    refine zae ?_
    refine zaw rfl (fun c2 => ?_) (fun c2 => ?_)
    · have hb2 : frB f = false := chk2_t f c2
      refine zaf ?_
      refine zac ?_
      refine zab rfl rfl rfl (zad (.inr rfl) (ev1 rfl)) ?_
      refine zae ?_
      refine zau ?_
      refine kend0 (rs1 rfl (rv_t rfl)) rfl ?_
      rw [hb2]
      rfl
    · have hb2 := chk2_f f c2
      refine zak ?_
      refine zaf ?_
      refine zaf ?_
      refine dwp_view ⟨hs0, rfl⟩ [] [0] [(1, _)] [] rfl ⟨rfl, trivial⟩ trivial ?_
      refine zac ?_
      refine zab rfl rfl rfl (op_fad rfl fo29_3 (ev1 rfl)) ?_
      refine zab rfl rfl rfl (op_slad (p := 0) (q := 9) rfl ar27 (evwk (ev1 rfl) (Wk.of_eq (dpF f))) bd_none bd_none (fun _ => rfl) (fun _ => rfl) (fun _ => by omega) (sL_len _) (by decide) (fun _ => rfl)) ?_
      refine zab rfl rfl rfl (op_mkf rfl en (ec (ev1 rfl) en)) ?_
      refine zab rfl rfl rfl (zah [] [] [] rfl (ev1 rfl) (ec (ev1 rfl) (ec (ev1 rfl) en)) rfl rfl (allP_d f _) rfl rfl rfl rfl rfl rfl) ?_
      refine zab rfl rfl rfl (op_not rfl (ev1 rfl)) ?_
      refine zae ?_
      refine zaw rfl (fun c3 => ?_) (fun c3 => ?_)
      · have hb3 : frB f = false := chk3_t f (show (sL f.st).all (siC f.fo) = false from notT c3)
        refine zaf ?_
        refine zac ?_
        refine zab rfl rfl rfl (zad (.inr rfl) (ev1 rfl)) ?_
        refine zae ?_
        refine zau ?_
        refine kend0 (rs1 rfl (rv_t rfl)) rfl ?_
        rw [hb3]
        rfl
      · have hb3 : frB f = true := chk3_f f hb hb2 (show (sL f.st).all (siC f.fo) = true from notF c3)
        refine zak ?_
        refine zaf ?_
        refine zac ?_
        refine zab rfl rfl rfl (zad (.inr rfl) (ev1 rfl)) ?_
        refine zae ?_
        refine zau ?_
        refine kend0 (rs1 rfl (rv_t rfl)) rfl ?_
        rw [hb3]
        rfl
set_option maxRecDepth 4000 in
set_option maxHeartbeats 1000000 in
theorem ftold_no : DFun Tryz.prog 50 [.val .nilIface] [] (.val (.int .i64 0)) [] := by
  refine zba (N := 13) 0 (by kernel_rfl) Tryz.func50 rfl rfl rfl (by simp only [fr0, Nat.zero_add, Nat.reduceAdd]; exact rfl) rfl fun s0 hs0 => ?_
  refine zaf ?_
  refine zac ?_
  refine zab rfl rfl rfl (zad (.inr rfl) (ev1 rfl)) ?_
  refine zae ?_
  refine zaf ?_
  refine zaf ?_
  refine zaj 1 (by simp only [holes, List.cons_append, List.nil_append]; exact rfl) ?_
  refine zac ?_
  refine zab rfl rfl rfl (zad (.inl rfl) (ev1 rfl)) ?_
  refine zab rfl rfl rfl (op_tan rfl ni126 zv126 (ev1 rfl)) ?_
  refine zab rfl rfl rfl (zad (.inl rfl) (ev1 rfl)) ?_
  refine zab rfl rfl rfl (op_ext rfl (ev1 rfl) rfl) ?_
  refine zab rfl rfl rfl (op_ext rfl (ev1 rfl) rfl) ?_
  refine zam rfl rfl rfl (zaq 0 rfl zr126 rfl) (by simp only [upd, za, zaa]; exact rfl) ?_
  refine zax rfl rfl (op_stwa rfl tb126 (ev1 rfl) (ev1 rfl) rfl rfl rfl rfl) (by simp only [upd, za, zaa]; exact rfl) ?_
  refine zab rfl rfl rfl (zad (.inr rfl) (ev1 rfl)) ?_
  refine zae ?_
  refine zaf ?_
  refine zac ?_
  refine zab rfl rfl rfl (zad (.inl rfl) (ev1 rfl)) ?_
  refine zae ?_
  refine dwp_if_f rfl (rfl) ?_
  refine zak ?_
  refine zaf ?_
  refine zac ?_
  refine zab rfl rfl rfl (zad (.inr rfl) (ev1 rfl)) ?_
  refine zae ?_
  refine zau ?_
  refine kend0 (rs1 rfl (rv_t rfl)) rfl ?_
  rfl
set_option maxRecDepth 4000 in
set_option maxHeartbeats 1000000 in
theorem ftold_w (n : Int) : DFun Tryz.prog 50 [.ifc 126 (.val (.agg #[.int .i64 n]))] [] (.val (.int .i64 n)) [] := by
  refine zba (N := 13) 0 (by kernel_rfl) Tryz.func50 rfl rfl rfl (by simp only [fr0, Nat.zero_add, Nat.reduceAdd]; exact rfl) rfl fun s0 hs0 => ?_
  refine zaf ?_
  refine zac ?_
  refine zab rfl rfl rfl (zad (.inr rfl) (ev1 rfl)) ?_
  refine zae ?_
  refine zaf ?_
  refine zaf ?_
  refine zaj 1 (by simp only [holes, List.cons_append, List.nil_append]; exact rfl) ?_
  refine zac ?_
  refine zab rfl rfl rfl (zad (.inl rfl) (ev1 rfl)) ?_
  refine zab rfl rfl rfl (op_tay rfl ni126 (ev1 rfl)) ?_
  refine zab rfl rfl rfl (zad (.inl rfl) (ev1 rfl)) ?_
  refine zab rfl rfl rfl (op_ext rfl (ev1 rfl) rfl) ?_
  refine zab rfl rfl rfl (op_ext rfl (ev1 rfl) rfl) ?_
  refine zam rfl rfl rfl (zaq 0 rfl zr126 rfl) (by simp only [upd, za, zaa]; exact rfl) ?_
  refine zax rfl rfl (op_stwa rfl tb126 (ev1 rfl) (ev1 rfl) rfl rfl rfl rfl) (by simp only [upd, za, zaa]; exact rfl) ?_
  refine zab rfl rfl rfl (zad (.inr rfl) (ev1 rfl)) ?_
  refine zae ?_
  refine zaf ?_
  refine zac ?_
  refine zab rfl rfl rfl (zad (.inl rfl) (ev1 rfl)) ?_
  refine zae ?_
  refine dwp_if_t rfl (rfl) ?_
  refine zaf ?_
  refine zac ?_
  refine zab rfl rfl rfl (zap rfl fo126_0 (ev1 rfl)) ?_
  refine zab rfl rfl rfl (op_ldo rfl tb34 (ev1 rfl) rfl rfl) ?_
  refine zab rfl rfl rfl (zad (.inr rfl) (ev1 rfl)) ?_
  refine zae ?_
  refine zau ?_
  refine kend0 (rs1 rfl (rv_t rfl)) rfl ?_
  rfl
set_option maxRecDepth 4000 in
set_option maxHeartbeats 1000000 in
theorem need_ok (b : Bool) (e : Int) (h : b = true) : DFun Tryz.prog 52 [.val (.bool b), .val (.int .i64 e)] [] (.tup []) [] := by
  refine zba (N := 9) 0 (by kernel_rfl) Tryz.func52 rfl rfl rfl (by simp only [fr0, Nat.zero_add, Nat.reduceAdd]; exact rfl) rfl fun s0 hs0 => ?_
  refine zaf ?_
  refine zac ?_
  refine zab rfl rfl rfl (zad (.inl rfl) (ev1 rfl)) ?_
  refine zab rfl rfl rfl (op_not rfl (ev1 rfl)) ?_
  refine zae ?_
  refine dwp_if_f rfl (by simp [h]) ?_
  refine zak ?_
  refine kend0 (res_none rfl) rfl ?_
  rfl
set_option maxRecDepth 4000 in
set_option maxHeartbeats 1000000 in
theorem need_no (b : Bool) (e : Int) (h : b = false) : DPan Tryz.prog 52 [.val (.bool b), .val (.int .i64 e)] [] (.ifc 126 (.val (.agg #[.int .i64 e]))) [] := by
  refine zba (N := 9) 0 (by kernel_rfl) Tryz.func52 rfl rfl rfl (by simp only [fr0, Nat.zero_add, Nat.reduceAdd]; exact rfl) rfl fun s0 hs0 => ?_
  refine zaf ?_
  refine zac ?_
  refine zab rfl rfl rfl (zad (.inl rfl) (ev1 rfl)) ?_
  refine zab rfl rfl rfl (op_not rfl (ev1 rfl)) ?_
  refine zae ?_
  refine dwp_if_t rfl (by simp [h]) ?_
  refine zac ?_
  refine zab rfl rfl rfl (zad (.inl rfl) (ev1 rfl)) ?_
  refine zab rfl rfl rfl (op_build (ps := [(0, .tmp 6)]) rfl fl126 zr126 (vc (ev1 rfl) vn) rfl rfl) ?_
  refine zab rfl rfl rfl (op_mi rfl ni126 (ev1 rfl)) ?_
  refine walk_p rfl (op_pan rfl (ev1 rfl)) rfl ?_
  refine kpan0 rfl ?_
  rfl
set_option maxRecDepth 4000 in
set_option maxHeartbeats 1000000 in
theorem chOf_ok (f : FrM) (hf : frB f = true) : DFun Tryz.prog 51 [.val (.agg (frC f).toArray)] [] (.loc 0 0) [.flat 101 (frC f)] := by
  refine zba (N := 10) 0 (by kernel_rfl) Tryz.func51 rfl rfl rfl (by simp only [fr0, Nat.zero_add, Nat.reduceAdd]; exact rfl) rfl fun s0 hs0 => ?_
  refine zaf ?_
  refine zaj 1 (by simp only [holes, List.cons_append, List.nil_append]; exact rfl) ?_
  refine zac ?_
  refine zam rfl rfl rfl (op_boxa 0 rfl (ev1 rfl) rfl) (by simp only [upd, za, zaa]; exact rfl) ?_
  refine zab rfl rfl rfl (zad (.inr rfl) (ev1 rfl)) ?_
  refine zae ?_
  refine zaf ?_
  refine zac ?_
  refine zab rfl rfl rfl (zas rfl tb29 (ev1 rfl) rfl (zao _)) ?_
  refine zab rfl rfl rfl (zah [] [] [] rfl (ev1 rfl) (ec (ev1 rfl) en) rfl rfl (fCheck_d _) rfl rfl rfl rfl rfl rfl) ?_
  refine zab rfl rfl rfl (zb rfl (ev1 rfl) (ev1 rfl)) ?_
  refine zab rfl rfl rfl (zah [] [] [] rfl (ev1 rfl) (ec (ev1 rfl) (ec (ev1 rfl) en)) rfl rfl (need_ok _ _ (by rw [errz _ (by decide), hf])) rfl rfl rfl rfl rfl rfl) ?_
  refine zae ?_
  refine zaf ?_
  refine zaj 1 (by simp only [holes, List.cons_append, List.nil_append]; exact rfl) ?_
  refine zac ?_
  refine zab rfl rfl rfl (zas rfl tb29 (ev1 rfl) rfl (zao _)) ?_
  refine zab rfl rfl rfl (op_build (ps := [(0, .tmp 7)]) rfl fl101 zr101 (vc (ev1 rfl) vn) (wrapB _) (setL_all rfl)) ?_
  refine zam rfl rfl rfl (op_boxa 1 rfl (ev1 rfl) rfl) (by simp only [upd, za, zaa]; exact rfl) ?_
  refine zab rfl rfl rfl (zad (.inr rfl) (ev1 rfl)) ?_
  refine zae ?_
  refine zau ?_
  refine kend [1] (rs1 rfl (rv_t rfl)) rfl rfl ?_ ⟨rfl, trivial⟩
  rfl
set_option maxRecDepth 4000 in
set_option maxHeartbeats 1000000 in
theorem chOf_no (f : FrM) (hf : frB f = false) : DPan Tryz.prog 51 [.val (.agg (frC f).toArray)] [] (.ifc 126 (.val (.agg #[.int .i64 280]))) [] := by
  refine zba (N := 10) 0 (by kernel_rfl) Tryz.func51 rfl rfl rfl (by simp only [fr0, Nat.zero_add, Nat.reduceAdd]; exact rfl) rfl fun s0 hs0 => ?_
  refine zaf ?_
  refine zaj 1 (by simp only [holes, List.cons_append, List.nil_append]; exact rfl) ?_
  refine zac ?_
  refine zam rfl rfl rfl (op_boxa 0 rfl (ev1 rfl) rfl) (by simp only [upd, za, zaa]; exact rfl) ?_
  refine zab rfl rfl rfl (zad (.inr rfl) (ev1 rfl)) ?_
  refine zae ?_
  refine zaf ?_
  refine zac ?_
  refine zab rfl rfl rfl (zas rfl tb29 (ev1 rfl) rfl (zao _)) ?_
  refine zab rfl rfl rfl (zah [] [] [] rfl (ev1 rfl) (ec (ev1 rfl) en) rfl rfl (fCheck_d _) rfl rfl rfl rfl rfl rfl) ?_
  refine zab rfl rfl rfl (zb rfl (ev1 rfl) (ev1 rfl)) ?_
  refine walk_p rfl (dop_callP [] [] [] rfl (ev1 rfl) (ec (ev1 rfl) (ec (ev1 rfl) en)) rfl rfl (need_no _ _ (by rw [errz _ (by decide), hf])) rfl rfl rfl rfl rfl rfl) rfl ?_
  refine kpan0 rfl ?_
  rfl
end Go.Proofs.YtnjnhghafjlmbaaGreat
namespace Go.Proofs.YtnjnhghafjlmbaaGreat
set_option linter.unusedVariables false
set_option linter.unusedSimpArgs false
open Go.RowKit
theorem fo101_0 : fdO Tryz.prog 101 0 = some 0 := by kernel_rfl
set_option maxRecDepth 4000 in
set_option maxHeartbeats 1000000 in
theorem register1_idle (e : Int) : DDef Tryz.prog 64 [.loc 0 0] [.flat 34 [.int .i64 e]] none none [.flat 34 [.int .i64 0]] := by
  refine ddef_go1 (dr := .tup []) (t := 1) (N := 3) 1 (by kernel_rfl) Tryz.func64 rfl rfl rfl (by simp only [fr0, Nat.zero_add, Nat.reduceAdd]; exact rfl) rfl rfl rfl rfl rfl fun s0 hs0 => ?_
  refine zab rfl rfl rfl (zah [] [] [] rfl (ev1 rfl) (ec (ev1 rfl) en) rfl rfl (ftold_no) rfl rfl rfl rfl rfl rfl) ?_
  refine zax rfl rfl (op_stwi rfl tb34 (ev1 rfl) (ev1 rfl) rfl) (by simp only [upd, za, zaa]; exact rfl) ?_
  refine zae ?_
  refine kend [0] (res_none rfl) rfl rfl ?_ ⟨rfl, trivial⟩
  rfl
set_option maxRecDepth 4000 in
set_option maxHeartbeats 1000000 in
theorem register1_caught (e n : Int) : DDef Tryz.prog 64 [.loc 0 0] [.flat 34 [.int .i64 e]] (some (.ifc 126 (.val (.agg #[.int .i64 n])))) none [.flat 34 [.int .i64 n]] := by
  refine ddef_go1 (dr := .tup []) (t := 1) (N := 3) 1 (by kernel_rfl) Tryz.func64 rfl rfl rfl (by simp only [fr0, Nat.zero_add, Nat.reduceAdd]; exact rfl) rfl rfl rfl rfl rfl fun s0 hs0 => ?_
  refine zab rfl rfl rfl (zah [] [] [] rfl (ev1 rfl) (ec (ev1 rfl) en) rfl rfl (ftold_w n) rfl rfl rfl rfl rfl rfl) ?_
  refine zax rfl rfl (op_stwi rfl tb34 (ev1 rfl) (ev1 rfl) rfl) (by simp only [upd, za, zaa]; exact rfl) ?_
  refine zae ?_
  refine kend [0] (res_none rfl) rfl rfl ?_ ⟨rfl, trivial⟩
  rfl
set_option maxRecDepth 4000 in
set_option maxHeartbeats 1000000 in
theorem hear1_idle (e : Int) : DDef Tryz.prog 65 [.loc 0 0] [.flat 34 [.int .i64 e]] none none [.flat 34 [.int .i64 0]] := by
  refine ddef_go1 (dr := .tup []) (t := 1) (N := 3) 1 (by kernel_rfl) Tryz.func65 rfl rfl rfl (by simp only [fr0, Nat.zero_add, Nat.reduceAdd]; exact rfl) rfl rfl rfl rfl rfl fun s0 hs0 => ?_
  refine zab rfl rfl rfl (zah [] [] [] rfl (ev1 rfl) (ec (ev1 rfl) en) rfl rfl (ftold_no) rfl rfl rfl rfl rfl rfl) ?_
  refine zax rfl rfl (op_stwi rfl tb34 (ev1 rfl) (ev1 rfl) rfl) (by simp only [upd, za, zaa]; exact rfl) ?_
  refine zae ?_
  refine kend [0] (res_none rfl) rfl rfl ?_ ⟨rfl, trivial⟩
  rfl
set_option maxRecDepth 4000 in
set_option maxHeartbeats 1000000 in
theorem hear1_caught (e n : Int) : DDef Tryz.prog 65 [.loc 0 0] [.flat 34 [.int .i64 e]] (some (.ifc 126 (.val (.agg #[.int .i64 n])))) none [.flat 34 [.int .i64 n]] := by
  refine ddef_go1 (dr := .tup []) (t := 1) (N := 3) 1 (by kernel_rfl) Tryz.func65 rfl rfl rfl (by simp only [fr0, Nat.zero_add, Nat.reduceAdd]; exact rfl) rfl rfl rfl rfl rfl fun s0 hs0 => ?_
  refine zab rfl rfl rfl (zah [] [] [] rfl (ev1 rfl) (ec (ev1 rfl) en) rfl rfl (ftold_w n) rfl rfl rfl rfl rfl rfl) ?_
  refine zax rfl rfl (op_stwi rfl tb34 (ev1 rfl) (ev1 rfl) rfl) (by simp only [upd, za, zaa]; exact rfl) ?_
  refine zae ?_
  refine kend [0] (res_none rfl) rfl rfl ?_ ⟨rfl, trivial⟩
  rfl
set_option maxRecDepth 4000 in
set_option maxHeartbeats 1000000 in
theorem fold1_idle (e : Int) : DDef Tryz.prog 55 [.loc 0 0] [.flat 34 [.int .i64 e]] none none [.flat 34 [.int .i64 0]] := by
  refine ddef_go1 (dr := .tup []) (t := 1) (N := 3) 1 (by kernel_rfl) Tryz.func55 rfl rfl rfl (by simp only [fr0, Nat.zero_add, Nat.reduceAdd]; exact rfl) rfl rfl rfl rfl rfl fun s0 hs0 => ?_
  refine zab rfl rfl rfl (zah [] [] [] rfl (ev1 rfl) (ec (ev1 rfl) en) rfl rfl (ftold_no) rfl rfl rfl rfl rfl rfl) ?_
  refine zax rfl rfl (op_stwi rfl tb34 (ev1 rfl) (ev1 rfl) rfl) (by simp only [upd, za, zaa]; exact rfl) ?_
  refine zae ?_
  refine kend [0] (res_none rfl) rfl rfl ?_ ⟨rfl, trivial⟩
  rfl
set_option maxRecDepth 4000 in
set_option maxHeartbeats 1000000 in
theorem fold1_caught (e n : Int) : DDef Tryz.prog 55 [.loc 0 0] [.flat 34 [.int .i64 e]] (some (.ifc 126 (.val (.agg #[.int .i64 n])))) none [.flat 34 [.int .i64 n]] := by
  refine ddef_go1 (dr := .tup []) (t := 1) (N := 3) 1 (by kernel_rfl) Tryz.func55 rfl rfl rfl (by simp only [fr0, Nat.zero_add, Nat.reduceAdd]; exact rfl) rfl rfl rfl rfl rfl fun s0 hs0 => ?_
  refine zab rfl rfl rfl (zah [] [] [] rfl (ev1 rfl) (ec (ev1 rfl) en) rfl rfl (ftold_w n) rfl rfl rfl rfl rfl rfl) ?_
  refine zax rfl rfl (op_stwi rfl tb34 (ev1 rfl) (ev1 rfl) rfl) (by simp only [upd, za, zaa]; exact rfl) ?_
  refine zae ?_
  refine kend [0] (res_none rfl) rfl rfl ?_ ⟨rfl, trivial⟩
  rfl
set_option maxRecDepth 4000 in
set_option maxHeartbeats 1000000 in
theorem propose1_idle (e : Int) : DDef Tryz.prog 69 [.loc 0 0] [.flat 34 [.int .i64 e]] none none [.flat 34 [.int .i64 0]] := by
  refine ddef_go1 (dr := .tup []) (t := 1) (N := 3) 1 (by kernel_rfl) Tryz.func69 rfl rfl rfl (by simp only [fr0, Nat.zero_add, Nat.reduceAdd]; exact rfl) rfl rfl rfl rfl rfl fun s0 hs0 => ?_
  refine zab rfl rfl rfl (zah [] [] [] rfl (ev1 rfl) (ec (ev1 rfl) en) rfl rfl (ftold_no) rfl rfl rfl rfl rfl rfl) ?_
  refine zax rfl rfl (op_stwi rfl tb34 (ev1 rfl) (ev1 rfl) rfl) (by simp only [upd, za, zaa]; exact rfl) ?_
  refine zae ?_
  refine kend [0] (res_none rfl) rfl rfl ?_ ⟨rfl, trivial⟩
  rfl
set_option maxRecDepth 4000 in
set_option maxHeartbeats 1000000 in
theorem propose1_caught (e n : Int) : DDef Tryz.prog 69 [.loc 0 0] [.flat 34 [.int .i64 e]] (some (.ifc 126 (.val (.agg #[.int .i64 n])))) none [.flat 34 [.int .i64 n]] := by
  refine ddef_go1 (dr := .tup []) (t := 1) (N := 3) 1 (by kernel_rfl) Tryz.func69 rfl rfl rfl (by simp only [fr0, Nat.zero_add, Nat.reduceAdd]; exact rfl) rfl rfl rfl rfl rfl fun s0 hs0 => ?_
  refine zab rfl rfl rfl (zah [] [] [] rfl (ev1 rfl) (ec (ev1 rfl) en) rfl rfl (ftold_w n) rfl rfl rfl rfl rfl rfl) ?_
  refine zax rfl rfl (op_stwi rfl tb34 (ev1 rfl) (ev1 rfl) rfl) (by simp only [upd, za, zaa]; exact rfl) ?_
  refine zae ?_
  refine kend [0] (res_none rfl) rfl rfl ?_ ⟨rfl, trivial⟩
  rfl
set_option maxRecDepth 4000 in
set_option maxHeartbeats 1000000 in
theorem reg_no (f : FrM) (s : Int) (hf : frB f = false) : DFun Tryz.prog 27 [.val (.agg (frC f).toArray), .val (.int .i64 s)] [] (.tup [.val (.agg (frC zF).toArray), .val (.int .i64 280)]) [] := by
  refine dcalls_body (N := 45) 0 (by kernel_rfl) Tryz.func27 rfl rfl rfl (by simp only [fr0, Nat.zero_add, Nat.reduceAdd]; exact rfl) rfl fun s0 hs0 => ?_
  refine dbody_seq rfl hs0 ?_
  refine zaj 3 (by simp only [holes, List.cons_append, List.nil_append]; exact rfl) ?_
  refine zac ?_
  refine zam rfl rfl rfl (op_boxa 0 rfl (ev1 rfl) rfl) (by simp only [upd, za, zaa]; exact rfl) ?_
  refine zam rfl rfl rfl (zaq 1 rfl zr29 rfl) (by simp only [upd, za, zaa]; exact rfl) ?_
  refine zam rfl rfl rfl (zaq 2 rfl zr34 rfl) (by simp only [upd, za, zaa]; exact rfl) ?_
  refine zae ?_
  refine dbody_defer (l0 := [_]) rfl rfl rfl rfl rfl hs0 ?_
  refine zab rfl rfl rfl (op_mkf rfl en (ec (ev1 rfl) en)) ?_
  refine zae ⟨_, _, _, 3, ev1 rfl, Nat.le_trans hs0 (by decide), rfl, ?_⟩
  have hs1 : s0.M.length ≤ 3 := Nat.le_trans hs0 (by decide)
  refine dbody_end rfl hs0 ?_
  refine zaf ?_
  refine zac ?_
  refine zab rfl rfl rfl (zas rfl tb29 (ev1 rfl) rfl (zao _)) ?_
  refine walk_p rfl (dop_callP [] [] [] rfl (ev1 rfl) (ec (ev1 rfl) en) rfl rfl (chOf_no f hf) rfl rfl rfl rfl rfl rfl) rfl ?_
  refine kdef (dturn_caught [2] [] rfl rfl rfl (register1_caught _ _) rfl rfl rfl rfl rfl) ?_
  refine kend0 (rs2 rfl (rv_w tb29 rfl rfl (zao _)) (rv_1 tb34 rfl rfl rfl)) rfl ?_
  rfl
set_option maxRecDepth 4000 in
set_option maxHeartbeats 1000000 in
theorem reg_arg (f : FrM) (s : Int) (hf : frB f = true) (hs : isS s = false) : DFun Tryz.prog 27 [.val (.agg (frC f).toArray), .val (.int .i64 s)] [] (.tup [.val (.agg (frC zF).toArray), .val (.int .i64 2)]) [] := by
  refine dcalls_body (N := 45) 0 (by kernel_rfl) Tryz.func27 rfl rfl rfl (by simp only [fr0, Nat.zero_add, Nat.reduceAdd]; exact rfl) rfl fun s0 hs0 => ?_
  refine dbody_seq rfl hs0 ?_
  refine zaj 3 (by simp only [holes, List.cons_append, List.nil_append]; exact rfl) ?_
  refine zac ?_
  refine zam rfl rfl rfl (op_boxa 0 rfl (ev1 rfl) rfl) (by simp only [upd, za, zaa]; exact rfl) ?_
  refine zam rfl rfl rfl (zaq 1 rfl zr29 rfl) (by simp only [upd, za, zaa]; exact rfl) ?_
  refine zam rfl rfl rfl (zaq 2 rfl zr34 rfl) (by simp only [upd, za, zaa]; exact rfl) ?_
  refine zae ?_
  refine dbody_defer (l0 := [_]) rfl rfl rfl rfl rfl hs0 ?_
  refine zab rfl rfl rfl (op_mkf rfl en (ec (ev1 rfl) en)) ?_
  refine zae ⟨_, _, _, 3, ev1 rfl, Nat.le_trans hs0 (by decide), rfl, ?_⟩
  have hs1 : s0.M.length ≤ 3 := Nat.le_trans hs0 (by decide)
  refine dbody_end rfl hs0 ?_
  refine zaf ?_
  refine zaj 1 (by simp only [holes, List.cons_append, List.nil_append]; exact rfl) ?_
  refine zac ?_
  refine zab rfl rfl rfl (zas rfl tb29 (ev1 rfl) rfl (zao _)) ?_
  refine zam rfl rfl rfl (zah [] [] [3] rfl (ev1 rfl) (ec (ev1 rfl) en) rfl rfl (chOf_ok f hf) rfl rfl rfl rfl rfl rfl) (by simp only [upd, za, zaa]; exact rfl) ?_
  refine zab rfl rfl rfl (zad (.inr rfl) (ev1 rfl)) ?_
  refine zae ?_
  refine zaf ?_
  refine zac ?_
  refine zab rfl rfl rfl (zad (.inl rfl) (ev1 rfl)) ?_
  refine zab rfl rfl rfl (zah [] [] [] rfl (ev1 rfl) (ec (ev1 rfl) en) rfl rfl (isSite_d _) rfl rfl rfl rfl rfl rfl) ?_
  refine walk_p rfl (dop_callP [] [] [] rfl (ev1 rfl) (ec (ev1 rfl) (ec (ev1 rfl) en)) rfl rfl (need_no _ _ (hs)) rfl rfl rfl rfl rfl rfl) rfl ?_
  refine kdef (dturn_caught [2] [] rfl rfl rfl (register1_caught _ _) rfl rfl rfl rfl rfl) ?_
  refine kend0 (rs2 rfl (rv_w tb29 rfl rfl (zao _)) (rv_1 tb34 rfl rfl rfl)) rfl ?_
  rfl
set_option maxRecDepth 4000 in
set_option maxHeartbeats 1000000 in
theorem reg_there (f : FrM) (s : Int) (hf : frB f = true) (hs : isS s = true) (hi : (f.st s.toNat).inn = true) : DFun Tryz.prog 27 [.val (.agg (frC f).toArray), .val (.int .i64 s)] [] (.tup [.val (.agg (frC zF).toArray), .val (.int .i64 5)]) [] := by
  have hs8 := isS_iff.1 hs
  have hj : s.toNat < 9 := by omega
  refine dcalls_body (N := 45) 0 (by kernel_rfl) Tryz.func27 rfl rfl rfl (by simp only [fr0, Nat.zero_add, Nat.reduceAdd]; exact rfl) rfl fun s0 hs0 => ?_
  refine dbody_seq rfl hs0 ?_
  refine zaj 3 (by simp only [holes, List.cons_append, List.nil_append]; exact rfl) ?_
  refine zac ?_
  refine zam rfl rfl rfl (op_boxa 0 rfl (ev1 rfl) rfl) (by simp only [upd, za, zaa]; exact rfl) ?_
  refine zam rfl rfl rfl (zaq 1 rfl zr29 rfl) (by simp only [upd, za, zaa]; exact rfl) ?_
  refine zam rfl rfl rfl (zaq 2 rfl zr34 rfl) (by simp only [upd, za, zaa]; exact rfl) ?_
  refine zae ?_
  refine dbody_defer (l0 := [_]) rfl rfl rfl rfl rfl hs0 ?_
  refine zab rfl rfl rfl (op_mkf rfl en (ec (ev1 rfl) en)) ?_
  refine zae ⟨_, _, _, 3, ev1 rfl, Nat.le_trans hs0 (by decide), rfl, ?_⟩
  have hs1 : s0.M.length ≤ 3 := Nat.le_trans hs0 (by decide)
  refine dbody_end rfl hs0 ?_
  refine zaf ?_
  refine zaj 1 (by simp only [holes, List.cons_append, List.nil_append]; exact rfl) ?_
  refine zac ?_
  refine zab rfl rfl rfl (zas rfl tb29 (ev1 rfl) rfl (zao _)) ?_
  refine zam rfl rfl rfl (zah [] [] [3] rfl (ev1 rfl) (ec (ev1 rfl) en) rfl rfl (chOf_ok f hf) rfl rfl rfl rfl rfl rfl) (by simp only [upd, za, zaa]; exact rfl) ?_
  refine zab rfl rfl rfl (zad (.inr rfl) (ev1 rfl)) ?_
  refine zae ?_
  refine zaf ?_
  refine zac ?_
  refine zab rfl rfl rfl (zad (.inl rfl) (ev1 rfl)) ?_
  refine zab rfl rfl rfl (zah [] [] [] rfl (ev1 rfl) (ec (ev1 rfl) en) rfl rfl (isSite_d _) rfl rfl rfl rfl rfl rfl) ?_
  refine zab rfl rfl rfl (zah [] [] [] rfl (ev1 rfl) (ec (ev1 rfl) (ec (ev1 rfl) en)) rfl rfl (need_ok _ _ (hs)) rfl rfl rfl rfl rfl rfl) ?_
  refine zae ?_
  refine zaf ?_
  refine zac ?_
  refine zab rfl rfl rfl (zad (.inl rfl) (ev1 rfl)) ?_
  refine zab rfl rfl rfl (zad (.inl rfl) (ev1 rfl)) ?_
  refine zab rfl rfl rfl (op_nc rfl (ev1 rfl) (fun s v h => by cases h; exact ⟨_, rfl⟩)) ?_
  refine zab rfl rfl rfl (zap rfl fo101_0 (ev1 rfl)) ?_
  refine zab rfl rfl rfl (zap rfl fo29_3 (ev1 rfl)) ?_
  refine zab rfl rfl rfl (op_ixl rfl ar27 (ev1 rfl) (ev1 rfl) (fun _ => by omega)) ?_
  refine zab rfl rfl rfl (zap rfl fo26_0 (ev1 rfl)) ?_
  refine zab rfl rfl rfl (op_ldo rfl tb4 (ev1 rfl) rfl (frC_inp (j := s.toNat) (by omega) hj)) ?_
  refine zab rfl rfl rfl (op_not rfl (ev1 rfl)) ?_
  refine walk_p rfl (dop_callP [] [] [] rfl (ev1 rfl) (ec (ev1 rfl) (ec (ev1 rfl) en)) rfl rfl (need_no _ _ (by rw [hi]; rfl)) rfl rfl rfl rfl rfl rfl) rfl ?_
  refine kdef (dturn_caught [2] [] rfl rfl rfl (register1_caught _ _) rfl rfl rfl rfl rfl) ?_
  refine kend0 (rs2 rfl (rv_w tb29 rfl rfl (zao _)) (rv_1 tb34 rfl rfl rfl)) rfl ?_
  rfl
set_option maxRecDepth 4000 in
set_option maxHeartbeats 1000000 in
theorem reg_ok (f : FrM) (s : Int) (hf : frB f = true) (hs : isS s = true) (hi : (f.st s.toNat).inn = false) : DFun Tryz.prog 27 [.val (.agg (frC f).toArray), .val (.int .i64 s)] [] (.tup [.val (.agg (frC (f.sw s.toNat ⟨true, max f.fo f.pr, 0, z9⟩)).toArray), .val (.int .i64 0)]) [] := by
  have hs8 := isS_iff.1 hs
  have hj : s.toNat < 9 := by omega
  refine dcalls_body (N := 45) 0 (by kernel_rfl) Tryz.func27 rfl rfl rfl (by simp only [fr0, Nat.zero_add, Nat.reduceAdd]; exact rfl) rfl fun s0 hs0 => ?_
  refine dbody_seq rfl hs0 ?_
  refine zaj 3 (by simp only [holes, List.cons_append, List.nil_append]; exact rfl) ?_
  refine zac ?_
  refine zam rfl rfl rfl (op_boxa 0 rfl (ev1 rfl) rfl) (by simp only [upd, za, zaa]; exact rfl) ?_
  refine zam rfl rfl rfl (zaq 1 rfl zr29 rfl) (by simp only [upd, za, zaa]; exact rfl) ?_
  refine zam rfl rfl rfl (zaq 2 rfl zr34 rfl) (by simp only [upd, za, zaa]; exact rfl) ?_
  refine zae ?_
  refine dbody_defer (l0 := [_]) rfl rfl rfl rfl rfl hs0 ?_
  refine zab rfl rfl rfl (op_mkf rfl en (ec (ev1 rfl) en)) ?_
  refine zae ⟨_, _, _, 3, ev1 rfl, Nat.le_trans hs0 (by decide), rfl, ?_⟩
  have hs1 : s0.M.length ≤ 3 := Nat.le_trans hs0 (by decide)
  refine dbody_end rfl hs0 ?_
  refine zaf ?_
  refine zaj 1 (by simp only [holes, List.cons_append, List.nil_append]; exact rfl) ?_
  refine zac ?_
  refine zab rfl rfl rfl (zas rfl tb29 (ev1 rfl) rfl (zao _)) ?_
  refine zam rfl rfl rfl (zah [] [] [3] rfl (ev1 rfl) (ec (ev1 rfl) en) rfl rfl (chOf_ok f hf) rfl rfl rfl rfl rfl rfl) (by simp only [upd, za, zaa]; exact rfl) ?_
  refine zab rfl rfl rfl (zad (.inr rfl) (ev1 rfl)) ?_
  refine zae ?_
  refine zaf ?_
  refine zac ?_
  refine zab rfl rfl rfl (zad (.inl rfl) (ev1 rfl)) ?_
  refine zab rfl rfl rfl (zah [] [] [] rfl (ev1 rfl) (ec (ev1 rfl) en) rfl rfl (isSite_d _) rfl rfl rfl rfl rfl rfl) ?_
  refine zab rfl rfl rfl (zah [] [] [] rfl (ev1 rfl) (ec (ev1 rfl) (ec (ev1 rfl) en)) rfl rfl (need_ok _ _ (hs)) rfl rfl rfl rfl rfl rfl) ?_
  refine zae ?_
  refine zaf ?_
  refine zac ?_
  refine zab rfl rfl rfl (zad (.inl rfl) (ev1 rfl)) ?_
  refine zab rfl rfl rfl (zad (.inl rfl) (ev1 rfl)) ?_
  refine zab rfl rfl rfl (op_nc rfl (ev1 rfl) (fun s v h => by cases h; exact ⟨_, rfl⟩)) ?_
  refine zab rfl rfl rfl (zap rfl fo101_0 (ev1 rfl)) ?_
  refine zab rfl rfl rfl (zap rfl fo29_3 (ev1 rfl)) ?_
  refine zab rfl rfl rfl (op_ixl rfl ar27 (ev1 rfl) (ev1 rfl) (fun _ => by omega)) ?_
  refine zab rfl rfl rfl (zap rfl fo26_0 (ev1 rfl)) ?_
  refine zab rfl rfl rfl (op_ldo rfl tb4 (ev1 rfl) rfl (frC_inp (j := s.toNat) (by omega) hj)) ?_
  refine zab rfl rfl rfl (op_not rfl (ev1 rfl)) ?_
  refine zab rfl rfl rfl (zah [] [] [] rfl (ev1 rfl) (ec (ev1 rfl) (ec (ev1 rfl) en)) rfl rfl (need_ok _ _ (by rw [hi]; rfl)) rfl rfl rfl rfl rfl rfl) ?_
  refine zae ?_
  refine zaf ?_
  refine dwp_draw [([], []), ([], []), ([], []), ([], []), ([], []), ([], []), ([3], []), ([], []), ([], []), ([], []), ([], []), ([3], []), ([], []), ([], []), ([], []), ([], []), ([], []), ([], []), ([3], [3])] mixed (by kernel_rfl) ?_
  refine lex_r rfl rfl (zad (.inl rfl) (ev1 rfl)) ?_
  refine lex_r rfl rfl (zad (.inl rfl) (ev1 rfl)) ?_
  refine lex_r rfl rfl (zad (.inl rfl) (ev1 rfl)) ?_
  refine lex_r rfl rfl (op_nc rfl (ev1 rfl) (fun s v h => by cases h; exact ⟨_, rfl⟩)) ?_
  refine lex_r rfl rfl (zap rfl fo101_0 (ev1 rfl)) ?_
  refine lex_r rfl rfl (zap rfl fo29_0 (ev1 rfl)) ?_
  refine lex_r rfl rfl (op_ldo rfl tb22 (ev1 rfl) rfl rfl) ?_
  refine lex_r rfl rfl (zad (.inl rfl) (ev1 rfl)) ?_
  refine lex_r rfl rfl (op_nc rfl (ev1 rfl) (fun s v h => by cases h; exact ⟨_, rfl⟩)) ?_
  refine lex_r rfl rfl (zap rfl fo101_0 (ev1 rfl)) ?_
  refine lex_r rfl rfl (zap rfl fo29_2 (ev1 rfl)) ?_
  refine lex_r rfl rfl (op_ldo rfl tb22 (ev1 rfl) rfl (frC_pr _)) ?_
  refine lex_r rfl rfl ((by rw [show ((max f.fo f.pr : Nat) : Int) = max (f.fo : Int) (f.pr : Int) by omega]; exact op_max rfl (ev1 rfl) (ev1 rfl) : DOp _ _ _ _ _ _ (.val (.int .u64 ((max f.fo f.pr : Nat) : Int))) _)) ?_
  refine lex_r rfl rfl (op_build (ps := [(0, .const (.bool true)), (1, .tmp 35)]) rfl fl26 zr26 (vc (ev1 rfl) (vc (ev1 rfl) vn)) rfl rfl) ?_
  refine lex_r rfl rfl (op_nc rfl (ev1 rfl) (fun s v h => by cases h; exact ⟨_, rfl⟩)) ?_
  refine lex_r rfl rfl (zap rfl fo101_0 (ev1 rfl)) ?_
  refine lex_r rfl rfl (zap rfl fo29_3 (ev1 rfl)) ?_
  refine lex_r rfl rfl (op_ixl rfl ar27 (ev1 rfl) (ev1 rfl) (fun _ => by omega)) ?_
  refine lex_s rfl rfl (op_st (C := plC ⟨true, max f.fo f.pr, 0, z9⟩) rfl tb26 (ev1 rfl) (ev1 rfl) rfl rfl rfl rfl (by simp only [zao, plC_len]; omega) (frC_swp (j := s.toNat) (by omega) hj)) rfl (by simp only [upd, za, zaa]; exact rfl) ?_
  refine lex_nil ?_
  refine zaf ?_
  refine zac ?_
  refine zab rfl rfl rfl (zad (.inl rfl) (ev1 rfl)) ?_
  refine zab rfl rfl rfl (op_nc rfl (ev1 rfl) (fun s v h => by cases h; exact ⟨_, rfl⟩)) ?_
  refine zab rfl rfl rfl (zap rfl fo101_0 (ev1 rfl)) ?_
  refine zab rfl rfl rfl (zas rfl tb29 (ev1 rfl) rfl (zao _)) ?_
  refine zax rfl rfl (op_stwa rfl tb29 (ev1 rfl) (ev1 rfl) rfl (zao _) (frC_oc _) rfl) (by simp only [upd, za, zaa]; exact rfl) ?_
  refine zax rfl rfl (op_stwi rfl tb34 (ev1 rfl) (ev1 rfl) rfl) (by simp only [upd, za, zaa]; exact rfl) ?_
  refine zae ?_
  refine zau ?_
  refine kdef (dturn_idle [2] [] rfl rfl (register1_idle _) rfl rfl rfl rfl rfl) ?_
  refine kend0 (rs2 rfl (rv_w tb29 rfl rfl (zao _)) (rv_1 tb34 rfl rfl rfl)) rfl ?_
  rfl
theorem reg_d (f : FrM) (s : Int) : DFun Tryz.prog 27 [.val (.agg (frC f).toArray), .val (.int .i64 s)] [] (.tup [.val (.agg (frC (regF f s).1).toArray), .val (.int .i64 (regF f s).2)]) [] := by
  unfold regF
  cases hf : frB f
  · exact reg_no f s hf
  · cases hs : isS s
    · exact reg_arg f s hf hs
    · cases hi : (f.st s.toNat).inn
      · exact reg_ok f s hf hs hi
      · exact reg_there f s hf hs hi
end Go.Proofs.YtnjnhghafjlmbaaGreat
namespace Go.Proofs.YtnjnhghafjlmbaaGreat
set_option linter.unusedVariables false
set_option linter.unusedSimpArgs false
open Go.RowKit
theorem hear_flw (f : FrM) (j : Nat) (q : Pl) : (((f.sw j { f.st j with has := maxV (f.st j).has q.has }).sw j { (f.sw j { f.st j with has := maxV (f.st j).has q.has }).st j with fl := q.fl }).sw j { ((f.sw j { f.st j with has := maxV (f.st j).has q.has }).sw j { (f.sw j { f.st j with has := maxV (f.st j).has q.has }).st j with fl := q.fl }).st j with fs := q.fs }) = f.sw j { (f.st j) with has := maxV (f.st j).has q.has, fl := q.fl, fs := q.fs } := by
  simp only [sw_sw, sw_at]
set_option maxRecDepth 4000 in
set_option maxHeartbeats 1000000 in
theorem hear_d (f : FrM) (s : Int) (q : Pl) (hs : isS s = true) (hv : vB (f.st s.toNat).has = true) (hw : vB q.has = true) : DFun Tryz.prog 66 [.loc 0 0, .val (.int .i64 s), .val (.agg (plC q).toArray)] [.flat 101 (frC f)] (.tup []) [.flat 101 (frC (f.sw s.toNat (heP (f.st s.toNat) q)))] := by
  have hs8 := isS_iff.1 hs
  have hj : s.toNat < 9 := by omega
  refine zba (N := 44) 1 (by kernel_rfl) Tryz.func66 rfl rfl rfl (by simp only [fr0, Nat.zero_add, Nat.reduceAdd]; exact rfl) rfl fun s0 hs0 => ?_
  refine zaf ?_
  refine zaj 1 (by simp only [holes, List.cons_append, List.nil_append]; exact rfl) ?_
  refine zac ?_
  refine zam rfl rfl rfl (op_boxa 1 rfl (ev1 rfl) rfl) (by simp only [upd, za, zaa]; exact rfl) ?_
  refine zae ?_
  refine zaf ?_
  refine zac ?_
  refine zab rfl rfl rfl (zad (.inl rfl) (ev1 rfl)) ?_
  refine zab rfl rfl rfl (zad (.inl rfl) (ev1 rfl)) ?_
  refine zab rfl rfl rfl (op_nc rfl (ev1 rfl) (fun s v h => by cases h; exact ⟨_, rfl⟩)) ?_
  refine zab rfl rfl rfl (zap rfl fo101_0 (ev1 rfl)) ?_
  refine zab rfl rfl rfl (zap rfl fo29_3 (ev1 rfl)) ?_
  refine zab rfl rfl rfl (op_ixl rfl ar27 (ev1 rfl) (ev1 rfl) (fun _ => by omega)) ?_
  refine zab rfl rfl rfl (zad (.inr rfl) (ev1 rfl)) ?_
  refine zae ?_
  refine zaf ?_
  refine dwp_draw [([], []), ([], []), ([], []), ([], []), ([0], []), ([], []), ([1], []), ([], []), ([], []), ([], []), ([], []), ([], []), ([], []), ([], []), ([0], [0])] mixed (by kernel_rfl) ?_
  refine lex_r rfl rfl (zad (.inl rfl) (ev1 rfl)) ?_
  refine lex_r rfl rfl (zad (.inl rfl) (ev1 rfl)) ?_
  refine lex_r rfl rfl (op_nc rfl (ev1 rfl) (fun s v h => by cases h; exact ⟨_, rfl⟩)) ?_
  refine lex_r rfl rfl (zap rfl fo26_3 (ev1 rfl)) ?_
  refine lex_r rfl rfl (op_ldr rfl tb24 (ev1 rfl) rfl (frC_hasp (j := s.toNat) (by omega) hj) rfl) ?_
  refine lex_r rfl rfl (zap rfl fo26_3 (ev1 rfl)) ?_
  refine lex_r rfl rfl (op_ldr rfl tb24 (ev1 rfl) rfl rfl rfl) ?_
  refine lex_r rfl rfl (op_bs (ps := [(0, .tmp 20)]) rfl sl30 zr24 rfl (vc (ev1 rfl) vn) rfl (by decide) (by decide)) ?_
  refine lex_r rfl rfl (zah [] [] [] rfl (ev1 rfl) (ec (ev1 rfl) (ec (ev1 rfl) en)) rfl rfl (join_d _ _ (by assumption) (by assumption)) rfl rfl rfl rfl rfl rfl) ?_
  refine lex_r rfl rfl (zad (.inl rfl) (ev1 rfl)) ?_
  refine lex_r rfl rfl (op_ext rfl (ev1 rfl) rfl) ?_
  refine lex_r rfl rfl (op_ext rfl (ev1 rfl) rfl) ?_
  refine lex_r rfl rfl (op_nc rfl (ev1 rfl) (fun s v h => by cases h; exact ⟨_, rfl⟩)) ?_
  refine lex_r rfl rfl (zap rfl fo26_3 (ev1 rfl)) ?_
  refine lex_s rfl rfl (op_st (C := c9 (maxV (f.st s.toNat).has q.has)) rfl tb24 (ev1 rfl) (ev1 rfl) rfl rfl rfl rfl (by simp only [zao, c9_len]; omega) (frC_whasp (j := s.toNat) (by omega) hj)) rfl (by simp only [upd, za, zaa]; exact rfl) ?_
  refine lex_nil ?_
  refine zaf ?_
  refine dwp_draw [([], []), ([1], []), ([], []), ([], []), ([], []), ([0], []), ([], [])] mixed (by kernel_rfl) ?_
  refine lex_r rfl rfl (zap rfl fo26_1 (ev1 rfl)) ?_
  refine lex_r rfl rfl (op_ldo rfl tb22 (ev1 rfl) rfl rfl) ?_
  refine lex_r rfl rfl (zad (.inl rfl) (ev1 rfl)) ?_
  refine lex_r rfl rfl (op_nc rfl (ev1 rfl) (fun s v h => by cases h; exact ⟨_, rfl⟩)) ?_
  refine lex_r rfl rfl (zap rfl fo26_1 (ev1 rfl)) ?_
  refine lex_r rfl rfl (op_ldo rfl tb22 (ev1 rfl) rfl (frC_flp (f := (f.sw s.toNat { f.st s.toNat with has := maxV (f.st s.toNat).has q.has })) (j := s.toNat) (by omega) hj)) ?_
  refine lex_r rfl rfl (op_gtr rfl (ev1 rfl) (ev1 rfl)) ?_
  refine lex_nil ?_
  refine zaw rfl (fun c1 => ?_) (fun c1 => ?_)
  · have c1 : (f.st s.toNat).fl < q.fl := by have h := of_decide_eq_true c1; rw [sw_at] at h; simpa using h
    refine dwp_draw [([], []), ([], []), ([], []), ([1], []), ([], []), ([1], []), ([], []), ([], []), ([0], [0]), ([], []), ([], []), ([0], [0])] mixed (by kernel_rfl) ?_
    refine lex_r rfl rfl (zad (.inl rfl) (ev1 rfl)) ?_
    refine lex_r rfl rfl (zad (.inl rfl) (ev1 rfl)) ?_
    refine lex_r rfl rfl (zap rfl fo26_1 (ev1 rfl)) ?_
    refine lex_r rfl rfl (op_ldo rfl tb22 (ev1 rfl) rfl rfl) ?_
    refine lex_r rfl rfl (zap rfl fo26_2 (ev1 rfl)) ?_
    refine lex_r rfl rfl (op_ldo rfl tb22 (ev1 rfl) rfl rfl) ?_
    refine lex_r rfl rfl (op_nc rfl (ev1 rfl) (fun s v h => by cases h; exact ⟨_, rfl⟩)) ?_
    refine lex_r rfl rfl (zap rfl fo26_1 (ev1 rfl)) ?_
    refine lex_s rfl rfl (op_st1 rfl tb22 (ev1 rfl) (ev1 rfl) rfl (by simp only [zao]; omega) (frC_wflp (f := (f.sw s.toNat { f.st s.toNat with has := maxV (f.st s.toNat).has q.has })) (x := q.fl) (j := s.toNat) (by omega) hj)) rfl (by simp only [upd, za, zaa]; exact rfl) ?_
    refine lex_r rfl rfl (op_nc rfl (ev1 rfl) (fun s v h => by cases h; exact ⟨_, rfl⟩)) ?_
    refine lex_r rfl rfl (zap rfl fo26_2 (ev1 rfl)) ?_
    refine lex_s rfl rfl (op_st1 rfl tb22 (ev1 rfl) (ev1 rfl) rfl (by simp only [zao]; omega) (frC_wfsp (f := ((f.sw s.toNat { f.st s.toNat with has := maxV (f.st s.toNat).has q.has }).sw s.toNat { (f.sw s.toNat { f.st s.toNat with has := maxV (f.st s.toNat).has q.has }).st s.toNat with fl := q.fl })) (x := q.fs) (j := s.toNat) (by omega) hj)) rfl (by simp only [upd, za, zaa]; exact rfl) ?_
    refine lex_nil ?_
    rw [hear_flw, show ({ (f.st s.toNat) with has := maxV (f.st s.toNat).has q.has, fl := q.fl, fs := q.fs } : Pl) = heP (f.st s.toNat) q by rw [hear_sw, if_pos c1]]
    refine kend [0] (res_none rfl) rfl rfl ?_ ⟨rfl, trivial⟩
    rfl
  · have c1 : ¬ (f.st s.toNat).fl < q.fl := by have h := of_decide_eq_false c1; rw [sw_at] at h; simpa using h
    refine zak ?_
    rw [show ({ (f.st s.toNat) with has := maxV (f.st s.toNat).has q.has } : Pl) = heP (f.st s.toNat) q by rw [hear_sw, if_neg c1]]
    refine kend [0] (res_none rfl) rfl rfl ?_ ⟨rfl, trivial⟩
    rfl
set_option maxRecDepth 4000 in
set_option maxHeartbeats 1000000 in
theorem hea_no (f : FrM) (s : Int) (q : Pl) (hf : frB f = false) : DFun Tryz.prog 28 [.val (.agg (frC f).toArray), .val (.int .i64 s), .val (.agg (plC q).toArray)] [] (.tup [.val (.agg (frC zF).toArray), .val (.int .i64 280)]) [] := by
  refine dcalls_body (N := 36) 0 (by kernel_rfl) Tryz.func28 rfl rfl rfl (by simp only [fr0, Nat.zero_add, Nat.reduceAdd]; exact rfl) rfl fun s0 hs0 => ?_
  refine dbody_seq rfl hs0 ?_
  refine zaj 4 (by simp only [holes, List.cons_append, List.nil_append]; exact rfl) ?_
  refine zac ?_
  refine zam rfl rfl rfl (op_boxa 0 rfl (ev1 rfl) rfl) (by simp only [upd, za, zaa]; exact rfl) ?_
  refine zam rfl rfl rfl (op_boxa 1 rfl (ev1 rfl) rfl) (by simp only [upd, za, zaa]; exact rfl) ?_
  refine zam rfl rfl rfl (zaq 2 rfl zr29 rfl) (by simp only [upd, za, zaa]; exact rfl) ?_
  refine zam rfl rfl rfl (zaq 3 rfl zr34 rfl) (by simp only [upd, za, zaa]; exact rfl) ?_
  refine zae ?_
  refine dbody_defer (l0 := [_]) rfl rfl rfl rfl rfl hs0 ?_
  refine zab rfl rfl rfl (op_mkf rfl en (ec (ev1 rfl) en)) ?_
  refine zae ⟨_, _, _, 4, ev1 rfl, Nat.le_trans hs0 (by decide), rfl, ?_⟩
  have hs1 : s0.M.length ≤ 4 := Nat.le_trans hs0 (by decide)
  refine dbody_end rfl hs0 ?_
  refine zaf ?_
  refine zac ?_
  refine zab rfl rfl rfl (zas rfl tb29 (ev1 rfl) rfl (zao _)) ?_
  refine walk_p rfl (dop_callP [] [] [] rfl (ev1 rfl) (ec (ev1 rfl) en) rfl rfl (chOf_no f hf) rfl rfl rfl rfl rfl rfl) rfl ?_
  refine kdef (dturn_caught [3] [] rfl rfl rfl (hear1_caught _ _) rfl rfl rfl rfl rfl) ?_
  refine kend0 (rs2 rfl (rv_w tb29 rfl rfl (zao _)) (rv_1 tb34 rfl rfl rfl)) rfl ?_
  rfl
set_option maxRecDepth 4000 in
set_option maxHeartbeats 1000000 in
theorem hea_arg (f : FrM) (s : Int) (q : Pl) (hf : frB f = true) (hs : (isS s && plB q) = false) : DFun Tryz.prog 28 [.val (.agg (frC f).toArray), .val (.int .i64 s), .val (.agg (plC q).toArray)] [] (.tup [.val (.agg (frC zF).toArray), .val (.int .i64 2)]) [] := by
  refine dcalls_body (N := 36) 0 (by kernel_rfl) Tryz.func28 rfl rfl rfl (by simp only [fr0, Nat.zero_add, Nat.reduceAdd]; exact rfl) rfl fun s0 hs0 => ?_
  refine dbody_seq rfl hs0 ?_
  refine zaj 4 (by simp only [holes, List.cons_append, List.nil_append]; exact rfl) ?_
  refine zac ?_
  refine zam rfl rfl rfl (op_boxa 0 rfl (ev1 rfl) rfl) (by simp only [upd, za, zaa]; exact rfl) ?_
  refine zam rfl rfl rfl (op_boxa 1 rfl (ev1 rfl) rfl) (by simp only [upd, za, zaa]; exact rfl) ?_
  refine zam rfl rfl rfl (zaq 2 rfl zr29 rfl) (by simp only [upd, za, zaa]; exact rfl) ?_
  refine zam rfl rfl rfl (zaq 3 rfl zr34 rfl) (by simp only [upd, za, zaa]; exact rfl) ?_
  refine zae ?_
  refine dbody_defer (l0 := [_]) rfl rfl rfl rfl rfl hs0 ?_
  refine zab rfl rfl rfl (op_mkf rfl en (ec (ev1 rfl) en)) ?_
  refine zae ⟨_, _, _, 4, ev1 rfl, Nat.le_trans hs0 (by decide), rfl, ?_⟩
  have hs1 : s0.M.length ≤ 4 := Nat.le_trans hs0 (by decide)
  refine dbody_end rfl hs0 ?_
  refine zaf ?_
  refine zaj 1 (by simp only [holes, List.cons_append, List.nil_append]; exact rfl) ?_
  refine zac ?_
  refine zab rfl rfl rfl (zas rfl tb29 (ev1 rfl) rfl (zao _)) ?_
  refine zam rfl rfl rfl (zah [] [] [4] rfl (ev1 rfl) (ec (ev1 rfl) en) rfl rfl (chOf_ok f hf) rfl rfl rfl rfl rfl rfl) (by simp only [upd, za, zaa]; exact rfl) ?_
  refine zab rfl rfl rfl (zad (.inr rfl) (ev1 rfl)) ?_
  refine zae ?_
  refine zaf ?_
  refine zac ?_
  refine zab rfl rfl rfl (zad (.inl rfl) (ev1 rfl)) ?_
  refine zab rfl rfl rfl (zah [] [] [] rfl (ev1 rfl) (ec (ev1 rfl) en) rfl rfl (isSite_d _) rfl rfl rfl rfl rfl rfl) ?_
  refine zab rfl rfl rfl (zad (.inl rfl) (ev1 rfl)) ?_
  refine zag (zar rfl rfl rfl) rfl rfl rfl (zas rfl tb26 (ev1 rfl) rfl rfl) ?_
  refine zag (zar rfl rfl rfl) rfl rfl rfl (zah [] [] [] rfl (ev1 rfl) (ec (ev2 rfl) en) rfl rfl (mayBe_d _) rfl rfl rfl rfl rfl rfl) ?_
  refine zab rfl rfl rfl (zaz rfl (ev1 rfl) (ev3 rfl id)) ?_
  refine walk_p rfl (dop_callP [] [] [] rfl (ev1 rfl) (ec (ev1 rfl) (ec (ev1 rfl) en)) rfl rfl (need_no _ _ (hs)) rfl rfl rfl rfl rfl rfl) rfl ?_
  refine kdef (dturn_caught [3] [] rfl rfl rfl (hear1_caught _ _) rfl rfl rfl rfl rfl) ?_
  refine kend0 (rs2 rfl (rv_w tb29 rfl rfl (zao _)) (rv_1 tb34 rfl rfl rfl)) rfl ?_
  rfl
set_option maxRecDepth 4000 in
set_option maxHeartbeats 1000000 in
theorem hea_none (f : FrM) (s : Int) (q : Pl) (hf : frB f = true) (hsq : (isS s && plB q) = true) (hi : (f.st s.toNat).inn = false) : DFun Tryz.prog 28 [.val (.agg (frC f).toArray), .val (.int .i64 s), .val (.agg (plC q).toArray)] [] (.tup [.val (.agg (frC zF).toArray), .val (.int .i64 4)]) [] := by
  have hs : isS s = true := (Bool.and_eq_true _ _ ▸ hsq).1
  have hs8 := isS_iff.1 hs
  have hj : s.toNat < 9 := by omega
  refine dcalls_body (N := 36) 0 (by kernel_rfl) Tryz.func28 rfl rfl rfl (by simp only [fr0, Nat.zero_add, Nat.reduceAdd]; exact rfl) rfl fun s0 hs0 => ?_
  refine dbody_seq rfl hs0 ?_
  refine zaj 4 (by simp only [holes, List.cons_append, List.nil_append]; exact rfl) ?_
  refine zac ?_
  refine zam rfl rfl rfl (op_boxa 0 rfl (ev1 rfl) rfl) (by simp only [upd, za, zaa]; exact rfl) ?_
  refine zam rfl rfl rfl (op_boxa 1 rfl (ev1 rfl) rfl) (by simp only [upd, za, zaa]; exact rfl) ?_
  refine zam rfl rfl rfl (zaq 2 rfl zr29 rfl) (by simp only [upd, za, zaa]; exact rfl) ?_
  refine zam rfl rfl rfl (zaq 3 rfl zr34 rfl) (by simp only [upd, za, zaa]; exact rfl) ?_
  refine zae ?_
  refine dbody_defer (l0 := [_]) rfl rfl rfl rfl rfl hs0 ?_
  refine zab rfl rfl rfl (op_mkf rfl en (ec (ev1 rfl) en)) ?_
  refine zae ⟨_, _, _, 4, ev1 rfl, Nat.le_trans hs0 (by decide), rfl, ?_⟩
  have hs1 : s0.M.length ≤ 4 := Nat.le_trans hs0 (by decide)
  refine dbody_end rfl hs0 ?_
  refine zaf ?_
  refine zaj 1 (by simp only [holes, List.cons_append, List.nil_append]; exact rfl) ?_
  refine zac ?_
  refine zab rfl rfl rfl (zas rfl tb29 (ev1 rfl) rfl (zao _)) ?_
  refine zam rfl rfl rfl (zah [] [] [4] rfl (ev1 rfl) (ec (ev1 rfl) en) rfl rfl (chOf_ok f hf) rfl rfl rfl rfl rfl rfl) (by simp only [upd, za, zaa]; exact rfl) ?_
  refine zab rfl rfl rfl (zad (.inr rfl) (ev1 rfl)) ?_
  refine zae ?_
  refine zaf ?_
  refine zac ?_
  refine zab rfl rfl rfl (zad (.inl rfl) (ev1 rfl)) ?_
  refine zab rfl rfl rfl (zah [] [] [] rfl (ev1 rfl) (ec (ev1 rfl) en) rfl rfl (isSite_d _) rfl rfl rfl rfl rfl rfl) ?_
  refine zab rfl rfl rfl (zad (.inl rfl) (ev1 rfl)) ?_
  refine zag (zar rfl rfl rfl) rfl rfl rfl (zas rfl tb26 (ev1 rfl) rfl rfl) ?_
  refine zag (zar rfl rfl rfl) rfl rfl rfl (zah [] [] [] rfl (ev1 rfl) (ec (ev2 rfl) en) rfl rfl (mayBe_d _) rfl rfl rfl rfl rfl rfl) ?_
  refine zab rfl rfl rfl (zaz rfl (ev1 rfl) (ev3 rfl id)) ?_
  refine zab rfl rfl rfl (zah [] [] [] rfl (ev1 rfl) (ec (ev1 rfl) (ec (ev1 rfl) en)) rfl rfl (need_ok _ _ (hsq)) rfl rfl rfl rfl rfl rfl) ?_
  refine zae ?_
  refine zaf ?_
  refine zac ?_
  refine zab rfl rfl rfl (zad (.inl rfl) (ev1 rfl)) ?_
  refine zab rfl rfl rfl (zad (.inl rfl) (ev1 rfl)) ?_
  refine zab rfl rfl rfl (op_nc rfl (ev1 rfl) (fun s v h => by cases h; exact ⟨_, rfl⟩)) ?_
  refine zab rfl rfl rfl (zap rfl fo101_0 (ev1 rfl)) ?_
  refine zab rfl rfl rfl (zap rfl fo29_3 (ev1 rfl)) ?_
  refine zab rfl rfl rfl (op_ixl rfl ar27 (ev1 rfl) (ev1 rfl) (fun _ => by omega)) ?_
  refine zab rfl rfl rfl (zap rfl fo26_0 (ev1 rfl)) ?_
  refine zab rfl rfl rfl (op_ldo rfl tb4 (ev1 rfl) rfl (frC_inp (j := s.toNat) (by omega) hj)) ?_
  refine walk_p rfl (dop_callP [] [] [] rfl (ev1 rfl) (ec (ev1 rfl) (ec (ev1 rfl) en)) rfl rfl (need_no _ _ (hi)) rfl rfl rfl rfl rfl rfl) rfl ?_
  refine kdef (dturn_caught [3] [] rfl rfl rfl (hear1_caught _ _) rfl rfl rfl rfl rfl) ?_
  refine kend0 (rs2 rfl (rv_w tb29 rfl rfl (zao _)) (rv_1 tb34 rfl rfl rfl)) rfl ?_
  rfl
set_option maxRecDepth 4000 in
set_option maxHeartbeats 1000000 in
theorem hea_ok (f : FrM) (s : Int) (q : Pl) (hf : frB f = true) (hsq : (isS s && plB q) = true) (hi : (f.st s.toNat).inn = true) : DFun Tryz.prog 28 [.val (.agg (frC f).toArray), .val (.int .i64 s), .val (.agg (plC q).toArray)] [] (.tup [.val (.agg (frC (f.sw s.toNat (heP (f.st s.toNat) q))).toArray), .val (.int .i64 0)]) [] := by
  have hs : isS s = true := (Bool.and_eq_true _ _ ▸ hsq).1
  have hs8 := isS_iff.1 hs
  have hj : s.toNat < 9 := by omega
  have hv : vB (f.st s.toNat).has = true := (plB_iff.1 (siB_in (frB_at hf hj) hi).2.1).2.2.2
  have hw : vB q.has = true := (plB_iff.1 (Bool.and_eq_true _ _ ▸ hsq).2).2.2.2
  refine dcalls_body (N := 36) 0 (by kernel_rfl) Tryz.func28 rfl rfl rfl (by simp only [fr0, Nat.zero_add, Nat.reduceAdd]; exact rfl) rfl fun s0 hs0 => ?_
  refine dbody_seq rfl hs0 ?_
  refine zaj 4 (by simp only [holes, List.cons_append, List.nil_append]; exact rfl) ?_
  refine zac ?_
  refine zam rfl rfl rfl (op_boxa 0 rfl (ev1 rfl) rfl) (by simp only [upd, za, zaa]; exact rfl) ?_
  refine zam rfl rfl rfl (op_boxa 1 rfl (ev1 rfl) rfl) (by simp only [upd, za, zaa]; exact rfl) ?_
  refine zam rfl rfl rfl (zaq 2 rfl zr29 rfl) (by simp only [upd, za, zaa]; exact rfl) ?_
  refine zam rfl rfl rfl (zaq 3 rfl zr34 rfl) (by simp only [upd, za, zaa]; exact rfl) ?_
  refine zae ?_
  refine dbody_defer (l0 := [_]) rfl rfl rfl rfl rfl hs0 ?_
  refine zab rfl rfl rfl (op_mkf rfl en (ec (ev1 rfl) en)) ?_
  refine zae ⟨_, _, _, 4, ev1 rfl, Nat.le_trans hs0 (by decide), rfl, ?_⟩
  have hs1 : s0.M.length ≤ 4 := Nat.le_trans hs0 (by decide)
  refine dbody_end rfl hs0 ?_
  refine zaf ?_
  refine zaj 1 (by simp only [holes, List.cons_append, List.nil_append]; exact rfl) ?_
  refine zac ?_
  refine zab rfl rfl rfl (zas rfl tb29 (ev1 rfl) rfl (zao _)) ?_
  refine zam rfl rfl rfl (zah [] [] [4] rfl (ev1 rfl) (ec (ev1 rfl) en) rfl rfl (chOf_ok f hf) rfl rfl rfl rfl rfl rfl) (by simp only [upd, za, zaa]; exact rfl) ?_
  refine zab rfl rfl rfl (zad (.inr rfl) (ev1 rfl)) ?_
  refine zae ?_
  refine zaf ?_
  refine zac ?_
  refine zab rfl rfl rfl (zad (.inl rfl) (ev1 rfl)) ?_
  refine zab rfl rfl rfl (zah [] [] [] rfl (ev1 rfl) (ec (ev1 rfl) en) rfl rfl (isSite_d _) rfl rfl rfl rfl rfl rfl) ?_
  refine zab rfl rfl rfl (zad (.inl rfl) (ev1 rfl)) ?_
  refine zag (zar rfl rfl rfl) rfl rfl rfl (zas rfl tb26 (ev1 rfl) rfl rfl) ?_
  refine zag (zar rfl rfl rfl) rfl rfl rfl (zah [] [] [] rfl (ev1 rfl) (ec (ev2 rfl) en) rfl rfl (mayBe_d _) rfl rfl rfl rfl rfl rfl) ?_
  refine zab rfl rfl rfl (zaz rfl (ev1 rfl) (ev3 rfl id)) ?_
  refine zab rfl rfl rfl (zah [] [] [] rfl (ev1 rfl) (ec (ev1 rfl) (ec (ev1 rfl) en)) rfl rfl (need_ok _ _ (hsq)) rfl rfl rfl rfl rfl rfl) ?_
  refine zae ?_
  refine zaf ?_
  refine zac ?_
  refine zab rfl rfl rfl (zad (.inl rfl) (ev1 rfl)) ?_
  refine zab rfl rfl rfl (zad (.inl rfl) (ev1 rfl)) ?_
  refine zab rfl rfl rfl (op_nc rfl (ev1 rfl) (fun s v h => by cases h; exact ⟨_, rfl⟩)) ?_
  refine zab rfl rfl rfl (zap rfl fo101_0 (ev1 rfl)) ?_
  refine zab rfl rfl rfl (zap rfl fo29_3 (ev1 rfl)) ?_
  refine zab rfl rfl rfl (op_ixl rfl ar27 (ev1 rfl) (ev1 rfl) (fun _ => by omega)) ?_
  refine zab rfl rfl rfl (zap rfl fo26_0 (ev1 rfl)) ?_
  refine zab rfl rfl rfl (op_ldo rfl tb4 (ev1 rfl) rfl (frC_inp (j := s.toNat) (by omega) hj)) ?_
  refine zab rfl rfl rfl (zah [] [] [] rfl (ev1 rfl) (ec (ev1 rfl) (ec (ev1 rfl) en)) rfl rfl (need_ok _ _ (hi)) rfl rfl rfl rfl rfl rfl) ?_
  refine zae ?_
  refine zaf ?_
  refine zac ?_
  refine zab rfl rfl rfl (zad (.inl rfl) (ev1 rfl)) ?_
  refine zab rfl rfl rfl (zad (.inl rfl) (ev1 rfl)) ?_
  refine zab rfl rfl rfl (zas rfl tb26 (ev1 rfl) rfl rfl) ?_
  refine zam rfl rfl rfl (zah [4] [] [] rfl (ev1 rfl) (ec (ev1 rfl) (ec (ev1 rfl) (ec (ev1 rfl) en))) rfl rfl (hear_d f s q hs hv hw) rfl rfl rfl rfl rfl rfl) (by simp only [upd, za, zaa]; exact rfl) ?_
  refine zae ?_
  refine zaf ?_
  refine zac ?_
  refine zab rfl rfl rfl (zad (.inl rfl) (ev1 rfl)) ?_
  refine zab rfl rfl rfl (op_nc rfl (ev1 rfl) (fun s v h => by cases h; exact ⟨_, rfl⟩)) ?_
  refine zab rfl rfl rfl (zap rfl fo101_0 (ev1 rfl)) ?_
  refine zab rfl rfl rfl (zas rfl tb29 (ev1 rfl) rfl (zao _)) ?_
  refine zax rfl rfl (op_stwa rfl tb29 (ev1 rfl) (ev1 rfl) rfl (zao _) (frC_oc _) rfl) (by simp only [upd, za, zaa]; exact rfl) ?_
  refine zax rfl rfl (op_stwi rfl tb34 (ev1 rfl) (ev1 rfl) rfl) (by simp only [upd, za, zaa]; exact rfl) ?_
  refine zae ?_
  refine zau ?_
  refine kdef (dturn_idle [3] [] rfl rfl (hear1_idle _) rfl rfl rfl rfl rfl) ?_
  refine kend0 (rs2 rfl (rv_w tb29 rfl rfl (zao _)) (rv_1 tb34 rfl rfl rfl)) rfl ?_
  rfl
theorem hea_d (f : FrM) (s : Int) (q : Pl) : DFun Tryz.prog 28 [.val (.agg (frC f).toArray), .val (.int .i64 s), .val (.agg (plC q).toArray)] [] (.tup [.val (.agg (frC (heaF f s q).1).toArray), .val (.int .i64 (heaF f s q).2)]) [] := by
  unfold heaF
  cases hf : frB f
  · exact hea_no f s q hf
  · cases hs : (isS s && plB q)
    · exact hea_arg f s q hf hs
    · cases hi : (f.st s.toNat).inn
      · exact hea_none f s q hf hs hi
      · exact hea_ok f s q hf hs hi
end Go.Proofs.YtnjnhghafjlmbaaGreat
namespace Go.Proofs.YtnjnhghafjlmbaaGreat
set_option linter.unusedVariables false
set_option linter.unusedSimpArgs false
open Go.RowKit
theorem av27 : arV Tryz.prog 27 = some (9, 12) := by kernel_rfl
theorem tb27 : tyB Tryz.prog 27 = some (true, 108) := by kernel_rfl
theorem tb97 : tyB Tryz.prog 97 = some (false, 1) := by kernel_rfl
theorem stC_flat (f : FrM) : ((frC f).drop (0 + 0 + 11)).take 108 = (sL f.st).flatMap plC := frC_st f
def askTo (f : FrM) (k : Nat) : Vec := fun i => if i < k ∧ (f.st i).inn = true then (f.st i).fs else 0
theorem askTo_0 (f : FrM) : askTo f 0 = z9 := by
  funext i
  unfold askTo
  rw [if_neg (by omega)]; rfl
theorem askTo_yes (f : FrM) {k : Nat} (h : (f.st k).inn = true) : upV (askTo f k) k (f.st k).fs = askTo f (k + 1) := by
  funext i
  unfold upV askTo
  by_cases e : i = k
  · subst e; rw [if_pos rfl, if_pos ⟨by omega, h⟩]
  · rw [if_neg e]
    by_cases h2 : i < k ∧ (f.st i).inn = true
    · rw [if_pos h2, if_pos ⟨by omega, h2.2⟩]
    · rw [if_neg h2, if_neg (fun g => h2 ⟨by omega, g.2⟩)]
theorem askTo_no (f : FrM) {k : Nat} (h : ¬ (f.st k).inn = true) : askTo f k = askTo f (k + 1) := by
  funext i
  unfold askTo
  by_cases h2 : i < k ∧ (f.st i).inn = true
  · rw [if_pos h2, if_pos ⟨by omega, h2.2⟩]
  · rw [if_neg h2, if_neg (fun g => h2 ⟨by
      by_cases e : i = k
      · subst e; exact absurd g.2 h
      · omega, g.2⟩)]
theorem askTo_end {f : FrM} (hf : frB f = true) : c9 (askTo f 9) = c9 (askV f) := c9_congr fun i hi => by
  unfold askTo askV
  by_cases h : (f.st i).inn = true
  · rw [if_pos ⟨hi, h⟩]
  · rw [if_neg (fun g => h g.2)]
    exact (eqP_zP.1 (siB_out (frB_at hf hi) (by simpa using h))).2.2.1.symm
set_option maxRecDepth 4000 in
set_option maxHeartbeats 1000000 in
theorem regd_d (f : FrM) : DFun Tryz.prog 61 [.loc 0 0] [.flat 101 (frC f)] (.fn (.func 80) [] [.loc 1 0]) [.flat 101 (frC f), .mix 97 [.loc 0 0]] := by
  refine zba (N := 4) 1 (by kernel_rfl) Tryz.func61 rfl rfl rfl (by simp only [fr0, Nat.zero_add, Nat.reduceAdd]; exact rfl) rfl fun s0 hs0 => ?_
  refine zaf ?_
  refine zaj 1 (by simp only [holes, List.cons_append, List.nil_append]; exact rfl) ?_
  refine zac ?_
  refine zam rfl rfl rfl (op_boxm 1 rfl (ev1 rfl) (fun s v h => by cases h <;> rfl) rfl) (by simp only [upd, za, zaa]; exact rfl) ?_
  refine zab rfl rfl rfl (zad (.inr rfl) (ev1 rfl)) ?_
  refine zae ?_
  refine zaf ?_
  refine zac ?_
  refine zab rfl rfl rfl (op_mkf rfl en (ec (ev1 rfl) en)) ?_
  refine zab rfl rfl rfl (zad (.inr rfl) (ev1 rfl)) ?_
  refine zae ?_
  refine zau ?_
  refine kend [0, 1] (rs1 rfl (rv_t rfl)) rfl rfl ?_ ⟨rfl, rfl, trivial⟩
  rfl
noncomputable def askA : Code := rfA (pth [1, 1, 0, 1, 0] (bodyOf Tryz.f54))
noncomputable def askB : Code := rfB (pth [1, 1, 0, 1, 0] (bodyOf Tryz.f54))
set_option maxRecDepth 4000 in
set_option maxHeartbeats 1000000 in
theorem askRound (v : Vec) (j : Nat) (hj : j < 9) (p : Pl) : DRound Tryz.prog 0 [.val (.int .i64 (j : Int)), .val (.agg (plC p).toArray)] [.lp 15 [(3, .loc 1 0)] #[8, 9] askA askB .ready none, .flat 24 (c9 v)] true [.lp 15 [(3, .loc 1 0)] #[8, 9] askA askB .ready none, .flat 24 (c9 (upV v j p.fs))] := by
  refine dround_go 2 rfl rfl (by simp) rfl rfl fun s0 hs0 => ?_
  refine zaf ?_
  refine zac ?_
  refine zab rfl rfl rfl (zad (.inr rfl) (ev1 rfl)) ?_
  refine zae ?_
  refine zaj 1 (by simp only [holes, List.cons_append, List.nil_append]; exact rfl) ?_
  refine zac ?_
  refine zam rfl rfl rfl (zaq 2 rfl zr26 rfl) (by simp only [upd, za, zaa]; exact rfl) ?_
  refine zax rfl rfl (op_stwa rfl tb26 (ev1 rfl) (ev1 rfl) rfl rfl rfl rfl) (by simp only [upd, za, zaa]; exact rfl) ?_
  refine zae ?_
  refine ⟨rfl, ?_⟩
  simp only [za, zaa]
  refine zat ?_
  refine zac ?_
  refine zab rfl rfl rfl (zad (.inl rfl) (ev1 rfl)) ?_
  refine zab rfl rfl rfl (zap rfl fo26_2 (ev1 rfl)) ?_
  refine zab rfl rfl rfl (op_ldo rfl tb22 (ev1 rfl) rfl rfl) ?_
  refine zab rfl rfl rfl (op_ixl rfl ar24 (ev1 rfl) (ev1 rfl) (fun _ => by omega)) ?_
  refine zax rfl rfl (op_st1 rfl tb22 (ev1 rfl) (ev1 rfl) rfl (by simp [c9_len]; omega) (c9_setp (j := j) (by simp) hj)) (by simp only [upd, za, zaa]; exact rfl) ?_
  refine zae ?_
  refine ⟨by first | rfl | assumption | simp_all, rfl, [0, 1], rfl, ⟨rfl, rfl, trivial⟩⟩
set_option maxRecDepth 4000 in
set_option maxHeartbeats 1000000 in
theorem rd_ask (f : FrM) : DFun Tryz.prog 80 [.yld 0, .loc 2 0] [.lp 15 [(3, .loc 1 0)] #[8, 9] askA askB .ready none, .flat 24 (c9 z9), .mix 97 [.loc 3 0], .flat 101 (frC f)] (.tup []) [.lp 15 [(3, .loc 1 0)] #[8, 9] askA askB .ready none, .flat 24 (c9 (askTo f 9)), .mix 97 [.loc 3 0], .flat 101 (frC f)] := by
  refine zba (N := 24) 4 (by kernel_rfl) Tryz.func80 rfl rfl rfl (by simp only [fr0, Nat.zero_add, Nat.reduceAdd]; exact rfl) rfl fun s0 hs0 => ?_
  refine zaf ?_
  refine zac ?_
  refine zab rfl rfl rfl (zav rfl tb97 (ev1 rfl) rfl rfl) ?_
  refine zab rfl rfl rfl (op_nc rfl (ev1 rfl) (fun s v h => by cases h; exact ⟨_, rfl⟩)) ?_
  refine zab rfl rfl rfl (zap rfl fo101_0 (ev1 rfl)) ?_
  refine zab rfl rfl rfl (zap rfl fo29_3 (ev1 rfl)) ?_
  refine zab rfl rfl rfl (op_ldr rfl tb27 (ev1 rfl) rfl (stC_flat f) (by rw [sL_flat]; rfl)) ?_
  refine zab rfl rfl rfl (zad (.inl rfl) (ev1 rfl)) ?_
  refine zae ?_
  refine zat ?_
  refine dwp_loopS ⟨hs0, rfl⟩ (α := Nat) (fun k => [(10, .val (.int .i64 (k : Int)))]) [(0, _), (9, _)] (fun k => [(1, .flat 24 (c9 (askTo f k)))]) [_, .hole, _, _] (fun k => k ≤ 9) (fun k => 9 - k) 0 [0, 1, 2, 3] (by omega) rfl ⟨rfl, rfl, trivial⟩ ⟨rfl, trivial⟩ ⟨rfl, by rw [askTo_0]; rfl, rfl, rfl, trivial⟩ ?_
  intro k hx
  simp only [upd, za, zaa, List.cons_append, List.nil_append]
  have hk := hx
  refine zaf ?_
  refine zac ?_
  refine zab rfl rfl rfl (op_lss rfl (ev1 rfl) (ev1 rfl)) ?_
  refine zae ?_
  refine zaf ?_
  refine zaw rfl (fun c1 => ?_) (fun c1 => ?_)
  · try simp only [decide_eq_true_eq, decide_eq_false_iff_not, beq_iff_eq, bne_iff_ne, beq_eq_false_iff_ne, bne_eq_false_iff_eq, Bool.not_eq_true', Bool.not_eq_false', Bool.and_eq_true, Bool.or_eq_true, Bool.or_eq_false_iff, ne_eq, Decidable.not_not, Int.not_lt, Int.not_le] at c1
    refine zak ?_
    refine zaf ?_
    refine zat ?_
    refine zaf ?_
    refine zaj 1 (by simp only [holes, List.cons_append, List.nil_append]; exact rfl) ?_
    refine zac ?_
    refine zab rfl rfl rfl (zad (.inl rfl) (ev1 rfl)) ?_
    refine zab rfl rfl rfl ((by rw [← sL_at f.st k (by omega)]; exact op_ixv (j := k) (zP) rfl av27 (ev1 rfl) (ev1 rfl) (fun _ => rfl) (fun _ => by omega) (sL_len _) (fun _ => rfl) : DOp _ _ _ _ _ _ (.val (.agg (plC (f.st k)).toArray)) _)) ?_
    refine zam rfl rfl rfl (zaq 4 rfl zr26 rfl) (by simp only [upd, za, zaa]; exact rfl) ?_
    refine zab rfl rfl rfl (zad (.inr rfl) (ev1 rfl)) ?_
    refine zax rfl rfl (op_stwa rfl tb26 (ev1 rfl) (ev1 rfl) rfl rfl rfl rfl) (by simp only [upd, za, zaa]; exact rfl) ?_
    refine zae ?_
    refine zaf ?_
    by_cases hin : (f.st k).inn = true
    · refine zac ?_
      refine zab rfl rfl rfl (zap rfl fo26_0 (ev1 rfl)) ?_
      refine zab rfl rfl rfl ((op_ldo rfl tb4 (ev1 rfl) rfl rfl).cast (d' := .val (.bool true)) (by rw [hin])) ?_
      refine zab rfl rfl rfl (zad (.inl rfl) (ev1 rfl)) ?_
      refine zai (zar (b := true) rfl rfl rfl) rfl rfl rfl (zad (.inl rfl) (ev1 rfl)) (by simp only [upd, za, zaa]; exact rfl) ?_
      refine zai (zar (b := true) rfl rfl rfl) rfl rfl rfl (zad (.inl rfl) (ev1 rfl)) (by simp only [upd, za, zaa]; exact rfl) ?_
      refine zai (zar (b := true) rfl rfl rfl) rfl rfl rfl (zas rfl tb26 (ev1 rfl) rfl rfl) (by simp only [upd, za, zaa]; exact rfl) ?_
      refine zai (zar (b := true) rfl rfl rfl) rfl rfl rfl (op_y (i := 0) [0, 1] [] [] rfl (ev2 rfl) (ec (ev2 rfl) (ec (ev2 rfl) en)) rfl rfl rfl (askRound (askTo f k) k (by omega) (f.st k)) rfl rfl rfl rfl rfl) (by simp only [upd, za, zaa]; exact rfl) ?_
      refine zai (zar (b := true) rfl rfl rfl) rfl rfl rfl (op_not rfl (ev2 rfl)) (by simp only [upd, za, zaa]; exact rfl) ?_
      refine zab rfl rfl rfl (zaz rfl (ev1 rfl) (ev3 rfl (fun _ => rfl))) ?_
      refine zae ?_
      refine dwp_if_f rfl (rfl) ?_
      refine zak ?_
      refine zac ?_
      refine zab rfl rfl rfl (op_add' rfl (ev1 rfl) (ev1 rfl) (fun _ => IntWalk.i64_in _ (by omega))) ?_
      refine zab rfl rfl rfl (zad (.inl rfl) (ev1 rfl)) ?_
      refine zae ?_
      refine ⟨k + 1, [0, 1, 2, 3], by omega, by simp only []; omega, rfl, ⟨rfl, rfl, rfl, trivial⟩, ⟨rfl, by rw [← askTo_yes f hin]; rfl, rfl, rfl, trivial⟩⟩
    · refine zac ?_
      refine zab rfl rfl rfl (zap rfl fo26_0 (ev1 rfl)) ?_
      refine zab rfl rfl rfl ((op_ldo rfl tb4 (ev1 rfl) rfl rfl).cast (d' := .val (.bool false)) (by rw [show (f.st k).inn = false by simpa using hin])) ?_
      refine zab rfl rfl rfl (zad (.inl rfl) (ev1 rfl)) ?_
      refine zag (zar (b := false) rfl rfl rfl) rfl rfl rfl (zal (d := .junk)) ?_
      refine zag (zar (b := false) rfl rfl rfl) rfl rfl rfl (zal (d := .junk)) ?_
      refine zag (zar (b := false) rfl rfl rfl) rfl rfl rfl (zal (d := .junk)) ?_
      refine zag (zar (b := false) rfl rfl rfl) rfl rfl rfl (zal (d := .val (.bool false))) ?_
      refine zag (zar (b := false) rfl rfl rfl) rfl rfl rfl (zal (d := .val (.bool false))) ?_
      refine zab rfl rfl rfl (zaz rfl (ev1 rfl) (ev3 rfl id)) ?_
      refine zae ?_
      refine dwp_if_f rfl (rfl) ?_
      refine zak ?_
      refine zac ?_
      refine zab rfl rfl rfl (op_add' rfl (ev1 rfl) (ev1 rfl) (fun _ => IntWalk.i64_in _ (by omega))) ?_
      refine zab rfl rfl rfl (zad (.inl rfl) (ev1 rfl)) ?_
      refine zae ?_
      refine ⟨k + 1, [0, 1, 2, 3], by omega, by simp only []; omega, rfl, ⟨rfl, rfl, rfl, trivial⟩, ⟨rfl, by rw [← askTo_no f hin]; rfl, rfl, rfl, trivial⟩⟩
  · try simp only [decide_eq_true_eq, decide_eq_false_iff_not, beq_iff_eq, bne_iff_ne, beq_eq_false_iff_ne, bne_eq_false_iff_eq, Bool.not_eq_true', Bool.not_eq_false', Bool.and_eq_true, Bool.or_eq_true, Bool.or_eq_false_iff, ne_eq, Decidable.not_not, Int.not_lt, Int.not_le] at c1
    refine dwp_exit ?_
    have hk9 : k = 9 := by omega
    subst hk9
    refine kend [0, 1, 2, 3] (res_none rfl) rfl rfl ?_ ⟨rfl, rfl, rfl, rfl, trivial⟩
    rfl
set_option maxRecDepth 4000 in
set_option maxHeartbeats 1000000 in
theorem asked_d (f : FrM) (hf : frB f = true) : DFun Tryz.prog 54 [.loc 0 0] [.flat 101 (frC f)] (.val (.agg (c9 (askV f)).toArray)) [.flat 101 (frC f)] := by
  refine zba (N := 15) 1 (by kernel_rfl) Tryz.func54 rfl rfl rfl (by simp only [fr0, Nat.zero_add, Nat.reduceAdd]; exact rfl) rfl fun s0 hs0 => ?_
  refine zaf ?_
  refine zaj 1 (by simp only [holes, List.cons_append, List.nil_append]; exact rfl) ?_
  refine zac ?_
  refine zam rfl rfl rfl (zaq 1 rfl zr24 rfl) (by simp only [upd, za, zaa]; exact rfl) ?_
  refine zae ?_
  refine zaf ?_
  refine zaj 1 (by simp only [holes, List.cons_append, List.nil_append]; exact rfl) ?_
  refine zac ?_
  refine zam rfl rfl rfl (zaq 2 rfl zr24 rfl) (by simp only [upd, za, zaa]; exact rfl) ?_
  refine zae ?_
  refine zaf ?_
  refine zaf ?_
  refine zaj 1 (by simp only [holes, List.cons_append, List.nil_append]; exact rfl) ?_
  refine zac ?_
  refine zab rfl rfl rfl (zad (.inl rfl) (ev1 rfl)) ?_
  refine zam rfl rfl rfl (zah [0] [] [3] rfl (ev1 rfl) (ec (ev1 rfl) en) rfl rfl (regd_d _) rfl rfl rfl rfl rfl rfl) (by simp only [upd, za, zaa]; exact rfl) ?_
  refine zae ?_
  refine zat ?_
  refine dwp_hole ?_
  simp only [List.cons_append, List.nil_append]
  refine dwp_rf (FL := [(3, _)]) (st := .ready) (pe := none) [4, 2, 3, 0] [] [] 4 rfl rfl (ev1 rfl) rfl (subF_lk ⟨rfl, trivial⟩) rfl rfl rfl (rd_ask f) rfl rfl rfl rfl rfl rfl rfl (by simp) (fun e => ?_) (fun c e => ?_)
  · simp only [upd, za, zaa]
    refine zaf ?_
    refine zac ?_
    refine zab rfl rfl rfl (zas rfl tb24 (ev1 rfl) rfl rfl) ?_
    refine zax rfl rfl (op_stwa rfl tb24 (ev1 rfl) (ev1 rfl) rfl rfl rfl rfl) (by simp only [upd, za, zaa]; exact rfl) ?_
    refine zae ?_
    refine zau ?_
    refine kend [0] (rs1 rfl (rv_w tb24 rfl rfl rfl)) rfl rfl ?_ ⟨rfl, trivial⟩
    rw [← askTo_end hf]
  · cases e
end Go.Proofs.YtnjnhghafjlmbaaGreat
namespace Go.Proofs.YtnjnhghafjlmbaaGreat
set_option linter.unusedVariables false
set_option linter.unusedSimpArgs false
open Go.RowKit
theorem sl31 : slE Tryz.prog 31 = some (3, 1, 8) := by kernel_rfl
theorem tb31 : tyB Tryz.prog 31 = some (false, 1) := by kernel_rfl
theorem zr3 : zrC Tryz.prog 3 = some [.int .i64 0] := by kernel_rfl
theorem zr31 : zrC Tryz.prog 31 = some [.slice none 0 0] := by kernel_rfl
def wlTo (f : FrM) (v : Vec) (k : Nat) : List Int := ((List.range k).filter (waitB f v)).map fun i : Nat => (i : Int)
theorem wlTo_yes {f : FrM} {v : Vec} {k : Nat} (h : waitB f v k = true) : wlTo f v (k + 1) = wlTo f v k ++ [(k : Int)] := by
  unfold wlTo
  rw [List.range_succ, List.filter_append, List.filter_cons_of_pos h, List.filter_nil, List.map_append]
  rfl
theorem wlTo_no {f : FrM} {v : Vec} {k : Nat} (h : waitB f v k = false) : wlTo f v (k + 1) = wlTo f v k := by
  unfold wlTo
  rw [List.range_succ, List.filter_append, List.filter_cons_of_neg (by rw [h]; decide), List.filter_nil, List.append_nil]
theorem wlTo_len (f : FrM) (v : Vec) (k : Nat) : (wlTo f v k).length ≤ k := by
  unfold wlTo
  rw [List.length_map]
  exact Nat.le_trans (List.length_filter_le _ _) (by simp)
abbrev rowI (l : List Int) : Mem := .arr 3 1 l.length (l.flatMap inI)
theorem rowI_add (l : List Int) (z : Int) : Mem.arr 3 1 (l.length + 1) (l.flatMap inI ++ [.int .i64 z]) = rowI (l ++ [z]) := by
  unfold rowI
  simp [List.flatMap_append, inI]
theorem fam_new {Bs : List Mem} {B : Mem} {q : Nat} : (Bs.set q .gone ++ [B])[Bs.length]? = some B := by
  rw [List.getElem?_append_right (by simp)]
  simp
def wcB (f : FrM) (v : Vec) (k : Nat) : Bool := (decide (((f.st k).fl : Int) < (f.pr : Int)) || decide (((v k : Nat) : Int) < ((f.st k).fs : Int))) || !coB (f.st k).has (askV f)
theorem waitB_wc {f : FrM} {v : Vec} {k : Nat} (h : (f.st k).inn = true) : waitB f v k = wcB f v k := by
  unfold waitB wcB
  rw [h, Bool.true_and, natlt, natlt]
theorem waitB_out {f : FrM} {v : Vec} {k : Nat} (h : ¬ (f.st k).inn = true) : waitB f v k = false := by
  unfold waitB
  rw [show (f.st k).inn = false by simpa using h]; rfl
noncomputable def waiA : Code := rfA (pth [1, 0, 1, 1, 1, 0, 1, 0] (bodyOf Tryz.f53))
noncomputable def waiB : Code := rfB (pth [1, 0, 1, 1, 1, 0, 1, 0] (bodyOf Tryz.f53))
set_option maxRecDepth 4000 in
set_option maxHeartbeats 1000000 in
theorem waiRound_no (f : FrM) (v : Vec) (Bs : List Mem) (q : Nat) (j : Nat) (hj : j < 9) (hp : ¬ f.pr = 0) (h : wcB f v j = false) : DRound Tryz.prog 0 [.val (.int .i64 (j : Int)), .val (.agg (plC (f.st j)).toArray)] [.lp 49 [(2, .loc 1 0), (3, .loc 2 0), (5, .loc 3 0), (6, .loc 4 0)] #[13, 14] waiA waiB .ready none, .mix 97 [.loc 6 0], .flat 24 (c9 v), .mix 31 [.farr 5 q], .flat 24 (c9 (askV f)), .fam Bs, .flat 101 (frC f)] true [.lp 49 [(2, .loc 1 0), (3, .loc 2 0), (5, .loc 3 0), (6, .loc 4 0)] #[13, 14] waiA waiB .ready none, .mix 97 [.loc 6 0], .flat 24 (c9 v), .mix 31 [.farr 5 q], .flat 24 (c9 (askV f)), .fam Bs, .flat 101 (frC f)] := by
  refine dround_go 7 rfl rfl (by simp) rfl rfl fun s0 hs0 => ?_
  refine zaf ?_
  refine zac ?_
  refine zab rfl rfl rfl (zad (.inr rfl) (ev1 rfl)) ?_
  refine zae ?_
  refine zaj 1 (by simp only [holes, List.cons_append, List.nil_append]; exact rfl) ?_
  refine zac ?_
  refine zam rfl rfl rfl (zaq 7 rfl zr26 rfl) (by simp only [upd, za, zaa]; exact rfl) ?_
  refine zax rfl rfl (op_stwa rfl tb26 (ev1 rfl) (ev1 rfl) rfl rfl rfl rfl) (by simp only [upd, za, zaa]; exact rfl) ?_
  refine zae ?_
  refine ⟨rfl, ?_⟩
  simp only [za, zaa]
  refine zat ?_
  refine zaf ?_
  refine zaf ?_
  refine zac ?_
  refine zab rfl rfl rfl (zav rfl tb97 (ev1 rfl) rfl rfl) ?_
  refine zab rfl rfl rfl (op_nc rfl (ev1 rfl) (fun s v h => by cases h; exact ⟨_, rfl⟩)) ?_
  refine zab rfl rfl rfl (zap rfl fo101_0 (ev1 rfl)) ?_
  refine zab rfl rfl rfl (zap rfl fo29_2 (ev1 rfl)) ?_
  refine zab rfl rfl rfl (op_ldo rfl tb22 (ev1 rfl) rfl (frC_pr _)) ?_
  refine zab rfl rfl rfl (zb rfl (ev1 rfl) (ev1 rfl)) ?_
  refine zae ?_
  refine dwp_if_f rfl (by simp; omega) ?_
  refine zak ?_
  refine zaf ?_
  refine dwp_draw [([], []), ([7], []), ([1], []), ([], []), ([], []), ([], []), ([6], []), ([], []), ([], []), ([], []), ([7], []), ([], []), ([], []), ([2], []), ([], []), ([], []), ([], []), ([], []), ([7], []), ([4], []), ([], []), ([], []), ([], [])] mixed (by kernel_rfl) ?_
  refine lex_r rfl rfl (zap rfl fo26_1 (ev1 rfl)) ?_
  refine lex_r rfl rfl (op_ldo rfl tb22 (ev1 rfl) rfl rfl) ?_
  refine lex_r rfl rfl (zav rfl tb97 (ev1 rfl) rfl rfl) ?_
  refine lex_r rfl rfl (op_nc rfl (ev1 rfl) (fun s v h => by cases h; exact ⟨_, rfl⟩)) ?_
  refine lex_r rfl rfl (zap rfl fo101_0 (ev1 rfl)) ?_
  refine lex_r rfl rfl (zap rfl fo29_2 (ev1 rfl)) ?_
  refine lex_r rfl rfl (op_ldo rfl tb22 (ev1 rfl) rfl (frC_pr _)) ?_
  refine lex_r rfl rfl (op_lss rfl (ev1 rfl) (ev1 rfl)) ?_
  refine lex_r rfl rfl (zad (.inl rfl) (ev1 rfl)) ?_
  refine lex_gr (zan rfl rfl rfl) rfl rfl (zap rfl fo26_2 (ev1 rfl)) ?_
  refine lex_gr (zan rfl rfl rfl) rfl rfl (op_ldo rfl tb22 (ev2 rfl) rfl rfl) ?_
  refine lex_gr (zan rfl rfl rfl) rfl rfl (zad (.inl rfl) (ev1 rfl)) ?_
  refine lex_gr (zan rfl rfl rfl) rfl rfl (op_ixl rfl ar24 (ev1 rfl) (ev2 rfl) (fun _ => by omega)) ?_
  refine lex_gr (zan rfl rfl rfl) rfl rfl (op_ldo rfl tb22 (ev2 rfl) rfl (c9_atp (j := j) (by simp) hj)) ?_
  refine lex_gr (zan rfl rfl rfl) rfl rfl (op_gtr rfl (ev2 rfl) (ev2 rfl)) ?_
  refine lex_r rfl rfl (op_or rfl (ev1 rfl) (ev3 rfl id)) ?_
  refine lex_r rfl rfl (zad (.inl rfl) (ev1 rfl)) ?_
  refine lex_gr (zan rfl rfl rfl) rfl rfl (zap rfl fo26_3 (ev1 rfl)) ?_
  refine lex_gr (zan rfl rfl rfl) rfl rfl (op_ldr rfl tb24 (ev2 rfl) rfl rfl rfl) ?_
  refine lex_gr (zan rfl rfl rfl) rfl rfl (zas rfl tb24 (ev1 rfl) rfl rfl) ?_
  refine lex_gr (zan rfl rfl rfl) rfl rfl (zah [] [] [] rfl (ev1 rfl) (ec (ev2 rfl) (ec (ev2 rfl) en)) rfl rfl (covers_d _ _) rfl rfl rfl rfl rfl rfl) ?_
  refine lex_gr (zan rfl rfl rfl) rfl rfl (op_not rfl (ev2 rfl)) ?_
  refine lex_r rfl rfl (op_or rfl (ev1 rfl) (ev3 rfl id)) ?_
  refine lex_nil ?_
  refine dwp_if_f rfl (h) ?_
  refine zak ?_
  refine ⟨by first | rfl | assumption | simp_all, rfl, [0, 1, 2, 3, 4, 5, 6], rfl, ⟨rfl, rfl, rfl, rfl, rfl, rfl, rfl, trivial⟩⟩
set_option maxRecDepth 4000 in
set_option maxHeartbeats 1000000 in
theorem waiRound_yes (f : FrM) (v : Vec) (Bs : List Mem) (q : Nat) (j : Nat) (hj : j < 9) (l : List Int) (hl : l.length ≤ 9) (hB : Bs[q]? = some (rowI l)) (hp : ¬ f.pr = 0) (h : wcB f v j = true) : DRound Tryz.prog 0 [.val (.int .i64 (j : Int)), .val (.agg (plC (f.st j)).toArray)] [.lp 49 [(2, .loc 1 0), (3, .loc 2 0), (5, .loc 3 0), (6, .loc 4 0)] #[13, 14] waiA waiB .ready none, .mix 97 [.loc 6 0], .flat 24 (c9 v), .mix 31 [.farr 5 q], .flat 24 (c9 (askV f)), .fam Bs, .flat 101 (frC f)] true [.lp 49 [(2, .loc 1 0), (3, .loc 2 0), (5, .loc 3 0), (6, .loc 4 0)] #[13, 14] waiA waiB .ready none, .mix 97 [.loc 6 0], .flat 24 (c9 v), .mix 31 [.farr 5 Bs.length], .flat 24 (c9 (askV f)), .fam (Bs.set q .gone ++ [rowI (l ++ [(j : Int)])]), .flat 101 (frC f)] := by
  refine dround_go 7 rfl rfl (by simp) rfl rfl fun s0 hs0 => ?_
  refine zaf ?_
  refine zac ?_
  refine zab rfl rfl rfl (zad (.inr rfl) (ev1 rfl)) ?_
  refine zae ?_
  refine zaj 1 (by simp only [holes, List.cons_append, List.nil_append]; exact rfl) ?_
  refine zac ?_
  refine zam rfl rfl rfl (zaq 7 rfl zr26 rfl) (by simp only [upd, za, zaa]; exact rfl) ?_
  refine zax rfl rfl (op_stwa rfl tb26 (ev1 rfl) (ev1 rfl) rfl rfl rfl rfl) (by simp only [upd, za, zaa]; exact rfl) ?_
  refine zae ?_
  refine ⟨rfl, ?_⟩
  simp only [za, zaa]
  refine zat ?_
  refine zaf ?_
  refine zaf ?_
  refine zac ?_
  refine zab rfl rfl rfl (zav rfl tb97 (ev1 rfl) rfl rfl) ?_
  refine zab rfl rfl rfl (op_nc rfl (ev1 rfl) (fun s v h => by cases h; exact ⟨_, rfl⟩)) ?_
  refine zab rfl rfl rfl (zap rfl fo101_0 (ev1 rfl)) ?_
  refine zab rfl rfl rfl (zap rfl fo29_2 (ev1 rfl)) ?_
  refine zab rfl rfl rfl (op_ldo rfl tb22 (ev1 rfl) rfl (frC_pr _)) ?_
  refine zab rfl rfl rfl (zb rfl (ev1 rfl) (ev1 rfl)) ?_
  refine zae ?_
  refine dwp_if_f rfl (by simp; omega) ?_
  refine zak ?_
  refine zaf ?_
  refine dwp_draw [([], []), ([7], []), ([1], []), ([], []), ([], []), ([], []), ([6], []), ([], []), ([], []), ([], []), ([7], []), ([], []), ([], []), ([2], []), ([], []), ([], []), ([], []), ([], []), ([7], []), ([4], []), ([], []), ([], []), ([], [])] mixed (by kernel_rfl) ?_
  refine lex_r rfl rfl (zap rfl fo26_1 (ev1 rfl)) ?_
  refine lex_r rfl rfl (op_ldo rfl tb22 (ev1 rfl) rfl rfl) ?_
  refine lex_r rfl rfl (zav rfl tb97 (ev1 rfl) rfl rfl) ?_
  refine lex_r rfl rfl (op_nc rfl (ev1 rfl) (fun s v h => by cases h; exact ⟨_, rfl⟩)) ?_
  refine lex_r rfl rfl (zap rfl fo101_0 (ev1 rfl)) ?_
  refine lex_r rfl rfl (zap rfl fo29_2 (ev1 rfl)) ?_
  refine lex_r rfl rfl (op_ldo rfl tb22 (ev1 rfl) rfl (frC_pr _)) ?_
  refine lex_r rfl rfl (op_lss rfl (ev1 rfl) (ev1 rfl)) ?_
  refine lex_r rfl rfl (zad (.inl rfl) (ev1 rfl)) ?_
  refine lex_gr (zan rfl rfl rfl) rfl rfl (zap rfl fo26_2 (ev1 rfl)) ?_
  refine lex_gr (zan rfl rfl rfl) rfl rfl (op_ldo rfl tb22 (ev2 rfl) rfl rfl) ?_
  refine lex_gr (zan rfl rfl rfl) rfl rfl (zad (.inl rfl) (ev1 rfl)) ?_
  refine lex_gr (zan rfl rfl rfl) rfl rfl (op_ixl rfl ar24 (ev1 rfl) (ev2 rfl) (fun _ => by omega)) ?_
  refine lex_gr (zan rfl rfl rfl) rfl rfl (op_ldo rfl tb22 (ev2 rfl) rfl (c9_atp (j := j) (by simp) hj)) ?_
  refine lex_gr (zan rfl rfl rfl) rfl rfl (op_gtr rfl (ev2 rfl) (ev2 rfl)) ?_
  refine lex_r rfl rfl (op_or rfl (ev1 rfl) (ev3 rfl id)) ?_
  refine lex_r rfl rfl (zad (.inl rfl) (ev1 rfl)) ?_
  refine lex_gr (zan rfl rfl rfl) rfl rfl (zap rfl fo26_3 (ev1 rfl)) ?_
  refine lex_gr (zan rfl rfl rfl) rfl rfl (op_ldr rfl tb24 (ev2 rfl) rfl rfl rfl) ?_
  refine lex_gr (zan rfl rfl rfl) rfl rfl (zas rfl tb24 (ev1 rfl) rfl rfl) ?_
  refine lex_gr (zan rfl rfl rfl) rfl rfl (zah [] [] [] rfl (ev1 rfl) (ec (ev2 rfl) (ec (ev2 rfl) en)) rfl rfl (covers_d _ _) rfl rfl rfl rfl rfl rfl) ?_
  refine lex_gr (zan rfl rfl rfl) rfl rfl (op_not rfl (ev2 rfl)) ?_
  refine lex_r rfl rfl (op_or rfl (ev1 rfl) (ev3 rfl id)) ?_
  refine lex_nil ?_
  refine dwp_if_t rfl (h) ?_
  refine zaj 2 (by simp only [holes, List.cons_append, List.nil_append]; exact rfl) ?_
  refine zac ?_
  refine zab rfl rfl rfl (zav rfl tb31 (ev1 rfl) rfl rfl) ?_
  refine zab rfl rfl rfl (zad (.inl rfl) (ev1 rfl)) ?_
  refine zab rfl rfl rfl (op_bs (ps := [(0, .tmp 45)]) rfl sl31 zr3 rfl (vc (ev1 rfl) vn) rfl (by decide) (by decide)) ?_
  refine zam rfl rfl rfl (op_appF (j1 := 8) (j2 := 9) rfl rfl sl31 zr3 rfl (ev1 rfl) (ev1 rfl) rfl (hB) rfl rfl rfl (fun _ => rfl) (fun _ => ⟨by omega, by omega⟩)) (by simp only [upd, za, zaa]; exact rfl) ?_
  refine zax rfl rfl (op_stm rfl tb31 (ev1 rfl) (ev1 rfl) (fun s v h => by cases h <;> exact ⟨rfl, rfl⟩) rfl (by first | decide | exact Nat.le_of_ble_eq_true rfl | simp)) (by simp only [upd, za, zaa]; exact rfl) ?_
  refine zae ?_
  refine ⟨by first | rfl | assumption | simp_all, rfl, [0, 1, 2, 3, 4, 5, 6], rfl, ⟨rfl, rfl, rfl, rfl, rfl, by rw [← rowI_add]; rfl, rfl, trivial⟩⟩
set_option maxRecDepth 4000 in
set_option maxHeartbeats 1000000 in
theorem waiRound_stop (f : FrM) (v : Vec) (c : Value) (j : Nat) (p : Pl) (hp : f.pr = 0) : DRound Tryz.prog 0 [.val (.int .i64 (j : Int)), .val (.agg (plC p).toArray)] [.lp 49 [(2, .loc 1 0), (3, .loc 2 0), (5, .loc 3 0), (6, .loc 4 0)] #[13, 14] waiA waiB .ready none, .mix 97 [.loc 5 0], .flat 24 (c9 v), .flat 31 [c], .flat 24 (c9 (askV f)), .flat 101 (frC f)] false [.lp 49 [(2, .loc 1 0), (3, .loc 2 0), (5, .loc 3 0), (6, .loc 4 0)] #[13, 14] waiA waiB .done (some (.exit 0)), .mix 97 [.loc 5 0], .flat 24 (c9 v), .flat 31 [c], .flat 24 (c9 (askV f)), .flat 101 (frC f)] := by
  refine dround_go 6 rfl rfl (by simp) rfl rfl fun s0 hs0 => ?_
  refine zaf ?_
  refine zac ?_
  refine zab rfl rfl rfl (zad (.inr rfl) (ev1 rfl)) ?_
  refine zae ?_
  refine zaj 1 (by simp only [holes, List.cons_append, List.nil_append]; exact rfl) ?_
  refine zac ?_
  refine zam rfl rfl rfl (zaq 6 rfl zr26 rfl) (by simp only [upd, za, zaa]; exact rfl) ?_
  refine zax rfl rfl (op_stwa rfl tb26 (ev1 rfl) (ev1 rfl) rfl rfl rfl rfl) (by simp only [upd, za, zaa]; exact rfl) ?_
  refine zae ?_
  refine ⟨rfl, ?_⟩
  simp only [za, zaa]
  refine zat ?_
  refine zaf ?_
  refine zaf ?_
  refine zac ?_
  refine zab rfl rfl rfl (zav rfl tb97 (ev1 rfl) rfl rfl) ?_
  refine zab rfl rfl rfl (op_nc rfl (ev1 rfl) (fun s v h => by cases h; exact ⟨_, rfl⟩)) ?_
  refine zab rfl rfl rfl (zap rfl fo101_0 (ev1 rfl)) ?_
  refine zab rfl rfl rfl (zap rfl fo29_2 (ev1 rfl)) ?_
  refine zab rfl rfl rfl (op_ldo rfl tb22 (ev1 rfl) rfl (frC_pr _)) ?_
  refine zab rfl rfl rfl (zb rfl (ev1 rfl) (ev1 rfl)) ?_
  refine zae ?_
  refine dwp_if_t rfl (by simp; omega) ?_
  refine dwp_exit ?_
  refine ⟨by first | rfl | assumption | simp_all, rfl, [0, 1, 2, 3, 4, 5], rfl, ⟨rfl, rfl, rfl, rfl, rfl, rfl, trivial⟩⟩
def faB (f : FrM) (v : Vec) (Bs : List Mem) (q : Nat) : Nat → List Mem × Nat
  | 0 => (Bs, q)
  | k + 1 => if waitB f v k = true then ((faB f v Bs q k).1.set (faB f v Bs q k).2 .gone ++ [rowI (wlTo f v (k + 1))], (faB f v Bs q k).1.length) else faB f v Bs q k
theorem faB_yes {f : FrM} {v : Vec} {Bs : List Mem} {q k : Nat} (h : waitB f v k = true) : faB f v Bs q (k + 1) = ((faB f v Bs q k).1.set (faB f v Bs q k).2 .gone ++ [rowI (wlTo f v k ++ [(k : Int)])], (faB f v Bs q k).1.length) := by
  rw [← wlTo_yes h]
  show (if waitB f v k = true then _ else _) = _
  rw [if_pos h]
theorem faB_no {f : FrM} {v : Vec} {Bs : List Mem} {q k : Nat} (h : waitB f v k = false) : faB f v Bs q (k + 1) = faB f v Bs q k := by
  show (if waitB f v k = true then _ else _) = _
  rw [if_neg (by rw [h]; decide)]
theorem faB_row {f : FrM} {v : Vec} {Bs : List Mem} {q : Nat} (hB : Bs[q]? = some (rowI [])) : ∀ k, (faB f v Bs q k).1[(faB f v Bs q k).2]? = some (rowI (wlTo f v k))
  | 0 => hB
  | k + 1 => by
    cases h : waitB f v k
    · rw [faB_no h, wlTo_no h]; exact faB_row hB k
    · rw [faB_yes h, wlTo_yes h]; exact fam_new
theorem vw_fI {σ : List Nat} {V : Nat → Bool} {M : List Blk} {Bs : List Mem} {j k : Nat} {l : List Int} (hpj : pos σ j = none) (hVj : V j = true) (hMj : M[j]? = some (.fam Bs)) (hB : Bs[k]? = some (rowI l)) : vw σ V M (.farr j k) = some (.slf 1 l.length (l.flatMap inI)) := by
  unfold vw
  rw [hpj]
  show vwFarr V M j k = _
  unfold vwFarr
  rw [hVj, hMj]
  show (match Bs[k]? with | some (.arr _ sz n L) => some (D.slf sz n L) | _ => none) = _
  rw [hB]
set_option maxRecDepth 4000 in
set_option maxHeartbeats 1000000 in
theorem rd_wait (f : FrM) (v : Vec) (Bs : List Mem) (q : Nat) (hB : Bs[q]? = some (rowI [])) (hp : ¬ f.pr = 0) : DFun Tryz.prog 80 [.yld 0, .loc 6 0] [.lp 49 [(2, .loc 1 0), (3, .loc 2 0), (5, .loc 3 0), (6, .loc 4 0)] #[13, 14] waiA waiB .ready none, .mix 97 [.loc 7 0], .flat 24 (c9 v), .mix 31 [.farr 5 q], .flat 24 (c9 (askV f)), .fam Bs, .mix 97 [.loc 7 0], .flat 101 (frC f)] (.tup []) [.lp 49 [(2, .loc 1 0), (3, .loc 2 0), (5, .loc 3 0), (6, .loc 4 0)] #[13, 14] waiA waiB .ready none, .mix 97 [.loc 7 0], .flat 24 (c9 v), .mix 31 [.farr 5 (faB f v Bs q 9).2], .flat 24 (c9 (askV f)), .fam (faB f v Bs q 9).1, .mix 97 [.loc 7 0], .flat 101 (frC f)] := by
  refine zba (N := 24) 8 (by kernel_rfl) Tryz.func80 rfl rfl rfl (by simp only [fr0, Nat.zero_add, Nat.reduceAdd]; exact rfl) rfl fun s0 hs0 => ?_
  refine zaf ?_
  refine zac ?_
  refine zab rfl rfl rfl (zav rfl tb97 (ev1 rfl) rfl rfl) ?_
  refine zab rfl rfl rfl (op_nc rfl (ev1 rfl) (fun s v h => by cases h; exact ⟨_, rfl⟩)) ?_
  refine zab rfl rfl rfl (zap rfl fo101_0 (ev1 rfl)) ?_
  refine zab rfl rfl rfl (zap rfl fo29_3 (ev1 rfl)) ?_
  refine zab rfl rfl rfl (op_ldr rfl tb27 (ev1 rfl) rfl (stC_flat f) (by rw [sL_flat]; rfl)) ?_
  refine zab rfl rfl rfl (zad (.inl rfl) (ev1 rfl)) ?_
  refine zae ?_
  refine zat ?_
  refine dwp_loopS ⟨hs0, rfl⟩ (α := Nat) (fun k => [(10, .val (.int .i64 (k : Int)))]) [(0, _), (9, _)] (fun k => [(3, .mix 31 [.farr 5 (faB f v Bs q k).2]), (5, .fam (faB f v Bs q k).1)]) [_, _, _, .hole, _, .hole, _, _] (fun k => k ≤ 9) (fun k => 9 - k) 0 [0, 1, 2, 3, 4, 5, 6, 7] (by omega) rfl ⟨rfl, rfl, trivial⟩ ⟨rfl, trivial⟩ ⟨rfl, rfl, rfl, rfl, rfl, rfl, rfl, rfl, trivial⟩ ?_
  intro k hx
  simp only [upd, za, zaa, List.cons_append, List.nil_append]
  have hk := hx
  have hrow := faB_row (f := f) (v := v) hB k
  refine zaf ?_
  refine zac ?_
  refine zab rfl rfl rfl (op_lss rfl (ev1 rfl) (ev1 rfl)) ?_
  refine zae ?_
  refine zaf ?_
  refine zaw rfl (fun c1 => ?_) (fun c1 => ?_)
  · try simp only [decide_eq_true_eq, decide_eq_false_iff_not, beq_iff_eq, bne_iff_ne, beq_eq_false_iff_ne, bne_eq_false_iff_eq, Bool.not_eq_true', Bool.not_eq_false', Bool.and_eq_true, Bool.or_eq_true, Bool.or_eq_false_iff, ne_eq, Decidable.not_not, Int.not_lt, Int.not_le] at c1
    refine zak ?_
    refine zaf ?_
    refine zat ?_
    refine zaf ?_
    refine zaj 1 (by simp only [holes, List.cons_append, List.nil_append]; exact rfl) ?_
    refine zac ?_
    refine zab rfl rfl rfl (zad (.inl rfl) (ev1 rfl)) ?_
    refine zab rfl rfl rfl ((by rw [← sL_at f.st k (by omega)]; exact op_ixv (j := k) (zP) rfl av27 (ev1 rfl) (ev1 rfl) (fun _ => rfl) (fun _ => by omega) (sL_len _) (fun _ => rfl) : DOp _ _ _ _ _ _ (.val (.agg (plC (f.st k)).toArray)) _)) ?_
    refine zam rfl rfl rfl (zaq 8 rfl zr26 rfl) (by simp only [upd, za, zaa]; exact rfl) ?_
    refine zab rfl rfl rfl (zad (.inr rfl) (ev1 rfl)) ?_
    refine zax rfl rfl (op_stwa rfl tb26 (ev1 rfl) (ev1 rfl) rfl rfl rfl rfl) (by simp only [upd, za, zaa]; exact rfl) ?_
    refine zae ?_
    refine zaf ?_
    by_cases hin : (f.st k).inn = true
    · by_cases hw : waitB f v k = true
      · refine zac ?_
        refine zab rfl rfl rfl (zap rfl fo26_0 (ev1 rfl)) ?_
        refine zab rfl rfl rfl ((op_ldo rfl tb4 (ev1 rfl) rfl rfl).cast (d' := .val (.bool true)) (by rw [hin])) ?_
        refine zab rfl rfl rfl (zad (.inl rfl) (ev1 rfl)) ?_
        refine zai (zar (b := true) rfl rfl rfl) rfl rfl rfl (zad (.inl rfl) (ev1 rfl)) (by simp only [upd, za, zaa]; exact rfl) ?_
        refine zai (zar (b := true) rfl rfl rfl) rfl rfl rfl (zad (.inl rfl) (ev1 rfl)) (by simp only [upd, za, zaa]; exact rfl) ?_
        refine zai (zar (b := true) rfl rfl rfl) rfl rfl rfl (zas rfl tb26 (ev1 rfl) rfl rfl) (by simp only [upd, za, zaa]; exact rfl) ?_
        refine zai (zar (b := true) rfl rfl rfl) rfl rfl rfl (op_y (i := 0) [0, 1, 2, 3, 4, 5, 7] [] [] rfl (ev2 rfl) (ec (ev2 rfl) (ec (ev2 rfl) en)) rfl rfl rfl (waiRound_yes f v (faB f v Bs q k).1 (faB f v Bs q k).2 k (by omega) (wlTo f v k) (by have := wlTo_len f v k; omega) hrow hp (by rw [← waitB_wc hin]; exact hw)) rfl rfl rfl rfl rfl) (by simp only [upd, za, zaa]; exact rfl) ?_
        refine zai (zar (b := true) rfl rfl rfl) rfl rfl rfl (op_not rfl (ev2 rfl)) (by simp only [upd, za, zaa]; exact rfl) ?_
        refine zab rfl rfl rfl (zaz rfl (ev1 rfl) (ev3 rfl (fun _ => rfl))) ?_
        refine zae ?_
        refine dwp_if_f rfl (rfl) ?_
        refine zak ?_
        refine zac ?_
        refine zab rfl rfl rfl (op_add' rfl (ev1 rfl) (ev1 rfl) (fun _ => IntWalk.i64_in _ (by omega))) ?_
        refine zab rfl rfl rfl (zad (.inl rfl) (ev1 rfl)) ?_
        refine zae ?_
        refine ⟨k + 1, [0, 1, 2, 3, 4, 5, 6, 7], by omega, by simp only []; omega, rfl, ⟨rfl, rfl, rfl, trivial⟩, ⟨rfl, rfl, rfl, by rw [faB_yes hw]; rfl, rfl, by rw [faB_yes hw]; rfl, rfl, rfl, trivial⟩⟩
      · refine zac ?_
        refine zab rfl rfl rfl (zap rfl fo26_0 (ev1 rfl)) ?_
        refine zab rfl rfl rfl ((op_ldo rfl tb4 (ev1 rfl) rfl rfl).cast (d' := .val (.bool true)) (by rw [hin])) ?_
        refine zab rfl rfl rfl (zad (.inl rfl) (ev1 rfl)) ?_
        refine zai (zar (b := true) rfl rfl rfl) rfl rfl rfl (zad (.inl rfl) (ev1 rfl)) (by simp only [upd, za, zaa]; exact rfl) ?_
        refine zai (zar (b := true) rfl rfl rfl) rfl rfl rfl (zad (.inl rfl) (ev1 rfl)) (by simp only [upd, za, zaa]; exact rfl) ?_
        refine zai (zar (b := true) rfl rfl rfl) rfl rfl rfl (zas rfl tb26 (ev1 rfl) rfl rfl) (by simp only [upd, za, zaa]; exact rfl) ?_
        refine zai (zar (b := true) rfl rfl rfl) rfl rfl rfl (op_y (i := 0) [0, 1, 2, 3, 4, 5, 7] [] [] rfl (ev2 rfl) (ec (ev2 rfl) (ec (ev2 rfl) en)) rfl rfl rfl (waiRound_no f v (faB f v Bs q k).1 (faB f v Bs q k).2 k (by omega) hp (by rw [← waitB_wc hin]; simpa using hw)) rfl rfl rfl rfl rfl) (by simp only [upd, za, zaa]; exact rfl) ?_
        refine zai (zar (b := true) rfl rfl rfl) rfl rfl rfl (op_not rfl (ev2 rfl)) (by simp only [upd, za, zaa]; exact rfl) ?_
        refine zab rfl rfl rfl (zaz rfl (ev1 rfl) (ev3 rfl (fun _ => rfl))) ?_
        refine zae ?_
        refine dwp_if_f rfl (rfl) ?_
        refine zak ?_
        refine zac ?_
        refine zab rfl rfl rfl (op_add' rfl (ev1 rfl) (ev1 rfl) (fun _ => IntWalk.i64_in _ (by omega))) ?_
        refine zab rfl rfl rfl (zad (.inl rfl) (ev1 rfl)) ?_
        refine zae ?_
        refine ⟨k + 1, [0, 1, 2, 3, 4, 5, 6, 7], by omega, by simp only []; omega, rfl, ⟨rfl, rfl, rfl, trivial⟩, ⟨rfl, rfl, rfl, by rw [faB_no (f := f) (v := v) (k := k) (by simpa using hw)]; rfl, rfl, by rw [faB_no (f := f) (v := v) (k := k) (by simpa using hw)]; rfl, rfl, rfl, trivial⟩⟩
    · refine zac ?_
      refine zab rfl rfl rfl (zap rfl fo26_0 (ev1 rfl)) ?_
      refine zab rfl rfl rfl ((op_ldo rfl tb4 (ev1 rfl) rfl rfl).cast (d' := .val (.bool false)) (by rw [show (f.st k).inn = false by simpa using hin])) ?_
      refine zab rfl rfl rfl (zad (.inl rfl) (ev1 rfl)) ?_
      refine zag (zar (b := false) rfl rfl rfl) rfl rfl rfl (zal (d := .junk)) ?_
      refine zag (zar (b := false) rfl rfl rfl) rfl rfl rfl (zal (d := .junk)) ?_
      refine zag (zar (b := false) rfl rfl rfl) rfl rfl rfl (zal (d := .junk)) ?_
      refine zag (zar (b := false) rfl rfl rfl) rfl rfl rfl (zal (d := .val (.bool false))) ?_
      refine zag (zar (b := false) rfl rfl rfl) rfl rfl rfl (zal (d := .val (.bool false))) ?_
      refine zab rfl rfl rfl (zaz rfl (ev1 rfl) (ev3 rfl id)) ?_
      refine zae ?_
      refine dwp_if_f rfl (rfl) ?_
      refine zak ?_
      refine zac ?_
      refine zab rfl rfl rfl (op_add' rfl (ev1 rfl) (ev1 rfl) (fun _ => IntWalk.i64_in _ (by omega))) ?_
      refine zab rfl rfl rfl (zad (.inl rfl) (ev1 rfl)) ?_
      refine zae ?_
      refine ⟨k + 1, [0, 1, 2, 3, 4, 5, 6, 7], by omega, by simp only []; omega, rfl, ⟨rfl, rfl, rfl, trivial⟩, ⟨rfl, rfl, rfl, by rw [faB_no (waitB_out hin)]; rfl, rfl, by rw [faB_no (waitB_out hin)]; rfl, rfl, rfl, trivial⟩⟩
  · try simp only [decide_eq_true_eq, decide_eq_false_iff_not, beq_iff_eq, bne_iff_ne, beq_eq_false_iff_ne, bne_eq_false_iff_eq, Bool.not_eq_true', Bool.not_eq_false', Bool.and_eq_true, Bool.or_eq_true, Bool.or_eq_false_iff, ne_eq, Decidable.not_not, Int.not_lt, Int.not_le] at c1
    refine dwp_exit ?_
    have hk9 : k = 9 := by omega
    subst hk9
    refine kend [0, 1, 2, 3, 4, 5, 6, 7] (res_none rfl) rfl rfl ?_ ⟨rfl, rfl, rfl, rfl, rfl, rfl, rfl, rfl, trivial⟩
    rfl
set_option maxRecDepth 4000 in
set_option maxHeartbeats 1000000 in
theorem waits_o (f : FrM) (v : Vec) (hf : frB f = true) (hp : ¬ f.pr = 0) : DFun Tryz.prog 53 [.loc 0 0, .val (.agg (c9 v).toArray)] [.flat 101 (frC f)] (.farr 1 (faB f v [rowI []] 0 9).2) [.flat 101 (frC f), .fam (faB f v [rowI []] 0 9).1] := by
  refine zba (N := 49) 1 (by kernel_rfl) Tryz.func53 rfl rfl rfl (by simp only [fr0, Nat.zero_add, Nat.reduceAdd]; exact rfl) rfl fun s0 hs0 => ?_
  refine zaf ?_
  refine zaj 2 (by simp only [holes, List.cons_append, List.nil_append]; exact rfl) ?_
  refine zac ?_
  refine zam rfl rfl rfl (op_boxm 1 rfl (ev1 rfl) (fun s v h => by cases h <;> rfl) rfl) (by simp only [upd, za, zaa]; exact rfl) ?_
  refine zam rfl rfl rfl (op_boxa 2 rfl (ev1 rfl) rfl) (by simp only [upd, za, zaa]; exact rfl) ?_
  refine zab rfl rfl rfl (zad (.inr rfl) (ev1 rfl)) ?_
  refine zae ?_
  refine dwp_scope ?_
  refine zaf ?_
  refine zaj 1 (by simp only [holes, List.cons_append, List.nil_append]; exact rfl) ?_
  refine zac ?_
  refine zam rfl rfl rfl (zaq 3 rfl zr31 rfl) (by simp only [upd, za, zaa]; exact rfl) ?_
  refine zae ?_
  refine zaf ?_
  refine zaj 1 (by simp only [holes, List.cons_append, List.nil_append]; exact rfl) ?_
  refine zac ?_
  refine zab rfl rfl rfl (zav rfl tb97 (ev1 rfl) rfl rfl) ?_
  refine zam rfl rfl rfl (zah [0] [] [] rfl (ev1 rfl) (ec (ev1 rfl) en) rfl rfl (asked_d _ (by assumption)) rfl rfl rfl rfl rfl rfl) (by simp only [upd, za, zaa]; exact rfl) ?_
  refine zam rfl rfl rfl (zaq 4 rfl zr24 rfl) (by simp only [upd, za, zaa]; exact rfl) ?_
  refine zax rfl rfl (op_stwa rfl tb24 (ev1 rfl) (ev1 rfl) rfl rfl rfl rfl) (by simp only [upd, za, zaa]; exact rfl) ?_
  refine zae ?_
  refine zaf ?_
  refine dwp_label ?_
  refine zaf ?_
  refine zaf ?_
  refine zaj 1 (by simp only [holes, List.cons_append, List.nil_append]; exact rfl) ?_
  refine zac ?_
  refine zab rfl rfl rfl (zav rfl tb97 (ev1 rfl) rfl rfl) ?_
  refine zam rfl rfl rfl (zah [0] [] [5] rfl (ev1 rfl) (ec (ev1 rfl) en) rfl rfl (regd_d _) rfl rfl rfl rfl rfl rfl) (by simp only [upd, za, zaa]; exact rfl) ?_
  refine zae ?_
  refine zat ?_
  refine dwp_adoptm 3 3 1 rfl (by simp only [List.cons_append, List.nil_append, za, zaa, List.length_cons, List.length_nil, Nat.zero_add, Nat.reduceAdd]; exact rfl) ?_
  refine dwp_hole ?_
  refine dwp_fam 7 rfl (by simp only [List.cons_append, List.nil_append, za, zaa]; exact rfl) ?_
  refine dwp_absc 3 0 7 rfl rfl rfl rfl (by simp only [List.cons_append, List.nil_append, za, zaa]; exact rfl) ?_
  refine dwp_hole ?_
  simp only [List.cons_append, List.nil_append]
  refine dwp_rf (FL := [(2, _), (3, _), (5, _), (6, _)]) (st := .ready) (pe := none) [8, 1, 2, 3, 4, 7, 5, 0] [] [] 8 rfl rfl (ev1 rfl) rfl (subF_lk ⟨rfl, rfl, rfl, rfl, trivial⟩) rfl rfl rfl (rd_wait f v [rowI []] 0 rfl hp) rfl rfl rfl rfl rfl rfl rfl (by simp) (fun e => ?_) (fun c e => ?_)
  · simp only [upd, za, zaa]
    refine zaf ?_
    refine zac ?_
    refine zab rfl rfl rfl (zav rfl tb31 (ev1 rfl) rfl rfl) ?_
    refine zab rfl rfl rfl (zad (.inr rfl) (ev1 rfl)) ?_
    refine zae ?_
    refine zau ?_
    refine kend [0, 7] (rs1 rfl (rv_t rfl)) rfl rfl ?_ ⟨rfl, rfl, trivial⟩
    rfl
  · cases e
theorem waits_d (f : FrM) (v : Vec) (hf : frB f = true) (hp : ¬ f.pr = 0) : DFun Tryz.prog 53 [.loc 0 0, .val (.agg (c9 v).toArray)] [.flat 101 (frC f)] (.slf 1 (waitL f v).length ((waitL f v).flatMap inI)) [.flat 101 (frC f)] :=
  freezeN (waits_o f v hf hp) (σ := [0]) rfl rfl (vw_fI (Bs := (faB f v [rowI []] 0 9).1) rfl rfl rfl (faB_row (f := f) (v := v) (Bs := [rowI []]) (q := 0) rfl 9)) ⟨rfl, trivial⟩
def noneIn (f : FrM) (k : Nat) : Bool := (List.range' k (9 - k)).all fun i => !(f.st i).inn
theorem noneIn_step (f : FrM) {k : Nat} (hk : k < 9) : noneIn f k = (!(f.st k).inn && noneIn f (k + 1)) := by
  unfold noneIn
  rw [show 9 - k = (9 - (k + 1)) + 1 by omega, List.range'_succ, List.all_cons]
set_option maxRecDepth 4000 in
set_option maxHeartbeats 1000000 in
theorem rd_wait0 (f : FrM) (v : Vec) (hp : f.pr = 0) : DFun Tryz.prog 80 [.yld 0, .loc 5 0] [.lp 49 [(2, .loc 1 0), (3, .loc 2 0), (5, .loc 3 0), (6, .loc 4 0)] #[13, 14] waiA waiB .ready none, .mix 97 [.loc 6 0], .flat 24 (c9 v), .flat 31 [.slice none 0 0], .flat 24 (c9 (askV f)), .mix 97 [.loc 6 0], .flat 101 (frC f)] (.tup []) [.lp 49 [(2, .loc 1 0), (3, .loc 2 0), (5, .loc 3 0), (6, .loc 4 0)] #[13, 14] waiA waiB (rst (noneIn f 0)) (rpe (.exit 0) (noneIn f 0)), .mix 97 [.loc 6 0], .flat 24 (c9 v), .flat 31 [.slice none 0 0], .flat 24 (c9 (askV f)), .mix 97 [.loc 6 0], .flat 101 (frC f)] := by
  refine zba (N := 24) 7 (by kernel_rfl) Tryz.func80 rfl rfl rfl (by simp only [fr0, Nat.zero_add, Nat.reduceAdd]; exact rfl) rfl fun s0 hs0 => ?_
  refine zaf ?_
  refine zac ?_
  refine zab rfl rfl rfl (zav rfl tb97 (ev1 rfl) rfl rfl) ?_
  refine zab rfl rfl rfl (op_nc rfl (ev1 rfl) (fun s v h => by cases h; exact ⟨_, rfl⟩)) ?_
  refine zab rfl rfl rfl (zap rfl fo101_0 (ev1 rfl)) ?_
  refine zab rfl rfl rfl (zap rfl fo29_3 (ev1 rfl)) ?_
  refine zab rfl rfl rfl (op_ldr rfl tb27 (ev1 rfl) rfl (stC_flat f) (by rw [sL_flat]; rfl)) ?_
  refine zab rfl rfl rfl (zad (.inl rfl) (ev1 rfl)) ?_
  refine zae ?_
  refine zat ?_
  refine dwp_loopS ⟨hs0, rfl⟩ (α := Nat) (fun k => [(10, .val (.int .i64 (k : Int)))]) [(0, _), (9, _)] (fun k => []) [_, _, _, _, _, _, _] (fun k => k ≤ 9 ∧ noneIn f 0 = noneIn f k) (fun k => 9 - k) 0 [0, 1, 2, 3, 4, 5, 6] (⟨by omega, rfl⟩) rfl ⟨rfl, rfl, trivial⟩ ⟨rfl, trivial⟩ ⟨rfl, rfl, rfl, rfl, rfl, rfl, rfl, trivial⟩ ?_
  intro k hx
  simp only [upd, za, zaa, List.cons_append, List.nil_append]
  obtain ⟨hk, he⟩ := hx
  refine zaf ?_
  refine zac ?_
  refine zab rfl rfl rfl (op_lss rfl (ev1 rfl) (ev1 rfl)) ?_
  refine zae ?_
  refine zaf ?_
  refine zaw rfl (fun c1 => ?_) (fun c1 => ?_)
  · try simp only [decide_eq_true_eq, decide_eq_false_iff_not, beq_iff_eq, bne_iff_ne, beq_eq_false_iff_ne, bne_eq_false_iff_eq, Bool.not_eq_true', Bool.not_eq_false', Bool.and_eq_true, Bool.or_eq_true, Bool.or_eq_false_iff, ne_eq, Decidable.not_not, Int.not_lt, Int.not_le] at c1
    refine zak ?_
    refine zaf ?_
    refine zat ?_
    refine zaf ?_
    refine zaj 1 (by simp only [holes, List.cons_append, List.nil_append]; exact rfl) ?_
    refine zac ?_
    refine zab rfl rfl rfl (zad (.inl rfl) (ev1 rfl)) ?_
    refine zab rfl rfl rfl ((by rw [← sL_at f.st k (by omega)]; exact op_ixv (j := k) (zP) rfl av27 (ev1 rfl) (ev1 rfl) (fun _ => rfl) (fun _ => by omega) (sL_len _) (fun _ => rfl) : DOp _ _ _ _ _ _ (.val (.agg (plC (f.st k)).toArray)) _)) ?_
    refine zam rfl rfl rfl (zaq 7 rfl zr26 rfl) (by simp only [upd, za, zaa]; exact rfl) ?_
    refine zab rfl rfl rfl (zad (.inr rfl) (ev1 rfl)) ?_
    refine zax rfl rfl (op_stwa rfl tb26 (ev1 rfl) (ev1 rfl) rfl rfl rfl rfl) (by simp only [upd, za, zaa]; exact rfl) ?_
    refine zae ?_
    refine zaf ?_
    by_cases hin : (f.st k).inn = true
    · refine zac ?_
      refine zab rfl rfl rfl (zap rfl fo26_0 (ev1 rfl)) ?_
      refine zab rfl rfl rfl ((op_ldo rfl tb4 (ev1 rfl) rfl rfl).cast (d' := .val (.bool true)) (by rw [hin])) ?_
      refine zab rfl rfl rfl (zad (.inl rfl) (ev1 rfl)) ?_
      refine zai (zar (b := true) rfl rfl rfl) rfl rfl rfl (zad (.inl rfl) (ev1 rfl)) (by simp only [upd, za, zaa]; exact rfl) ?_
      refine zai (zar (b := true) rfl rfl rfl) rfl rfl rfl (zad (.inl rfl) (ev1 rfl)) (by simp only [upd, za, zaa]; exact rfl) ?_
      refine zai (zar (b := true) rfl rfl rfl) rfl rfl rfl (zas rfl tb26 (ev1 rfl) rfl rfl) (by simp only [upd, za, zaa]; exact rfl) ?_
      refine zai (zar (b := true) rfl rfl rfl) rfl rfl rfl (op_y (i := 0) [0, 1, 2, 3, 4, 6] [] [] rfl (ev2 rfl) (ec (ev2 rfl) (ec (ev2 rfl) en)) rfl rfl rfl (waiRound_stop f v (.slice none 0 0) k (f.st k) hp) rfl rfl rfl rfl rfl) (by simp only [upd, za, zaa]; exact rfl) ?_
      refine zai (zar (b := true) rfl rfl rfl) rfl rfl rfl (op_not rfl (ev2 rfl)) (by simp only [upd, za, zaa]; exact rfl) ?_
      refine zab rfl rfl rfl (zaz rfl (ev1 rfl) (ev3 rfl (fun _ => rfl))) ?_
      refine zae ?_
      refine dwp_if_t rfl (rfl) ?_
      refine zau ?_
      have e2 : noneIn f 0 = false := by rw [he, noneIn_step f (by omega), hin]; rfl
      rw [e2]
      refine kend [0, 1, 2, 3, 4, 5, 6] (res_none rfl) rfl rfl ?_ ⟨rfl, rfl, rfl, rfl, rfl, rfl, rfl, trivial⟩
      rfl
    · refine zac ?_
      refine zab rfl rfl rfl (zap rfl fo26_0 (ev1 rfl)) ?_
      refine zab rfl rfl rfl ((op_ldo rfl tb4 (ev1 rfl) rfl rfl).cast (d' := .val (.bool false)) (by rw [show (f.st k).inn = false by simpa using hin])) ?_
      refine zab rfl rfl rfl (zad (.inl rfl) (ev1 rfl)) ?_
      refine zag (zar (b := false) rfl rfl rfl) rfl rfl rfl (zal (d := .junk)) ?_
      refine zag (zar (b := false) rfl rfl rfl) rfl rfl rfl (zal (d := .junk)) ?_
      refine zag (zar (b := false) rfl rfl rfl) rfl rfl rfl (zal (d := .junk)) ?_
      refine zag (zar (b := false) rfl rfl rfl) rfl rfl rfl (zal (d := .val (.bool false))) ?_
      refine zag (zar (b := false) rfl rfl rfl) rfl rfl rfl (zal (d := .val (.bool false))) ?_
      refine zab rfl rfl rfl (zaz rfl (ev1 rfl) (ev3 rfl id)) ?_
      refine zae ?_
      refine dwp_if_f rfl (rfl) ?_
      refine zak ?_
      refine zac ?_
      refine zab rfl rfl rfl (op_add' rfl (ev1 rfl) (ev1 rfl) (fun _ => IntWalk.i64_in _ (by omega))) ?_
      refine zab rfl rfl rfl (zad (.inl rfl) (ev1 rfl)) ?_
      refine zae ?_
      refine ⟨k + 1, [0, 1, 2, 3, 4, 5, 6], ⟨by omega, by rw [he, noneIn_step f (by omega), show (f.st k).inn = false by simpa using hin]; rfl⟩, by simp only []; omega, rfl, ⟨rfl, rfl, rfl, trivial⟩, ⟨rfl, rfl, rfl, rfl, rfl, rfl, rfl, trivial⟩⟩
  · try simp only [decide_eq_true_eq, decide_eq_false_iff_not, beq_iff_eq, bne_iff_ne, beq_eq_false_iff_ne, bne_eq_false_iff_eq, Bool.not_eq_true', Bool.not_eq_false', Bool.and_eq_true, Bool.or_eq_true, Bool.or_eq_false_iff, ne_eq, Decidable.not_not, Int.not_lt, Int.not_le] at c1
    refine dwp_exit ?_
    have e2 : noneIn f 0 = true := by rw [he, show k = 9 by omega]; rfl
    rw [e2]
    refine kend [0, 1, 2, 3, 4, 5, 6] (res_none rfl) rfl rfl ?_ ⟨rfl, rfl, rfl, rfl, rfl, rfl, rfl, trivial⟩
    rfl
set_option maxRecDepth 4000 in
set_option maxHeartbeats 1000000 in
theorem waits_0 (f : FrM) (v : Vec) (hf : frB f = true) (hp : f.pr = 0) : DFun Tryz.prog 53 [.loc 0 0, .val (.agg (c9 v).toArray)] [.flat 101 (frC f)] (.val (.slice none 0 0)) [.flat 101 (frC f)] := by
  refine zba (N := 49) 1 (by kernel_rfl) Tryz.func53 rfl rfl rfl (by simp only [fr0, Nat.zero_add, Nat.reduceAdd]; exact rfl) rfl fun s0 hs0 => ?_
  refine zaf ?_
  refine zaj 2 (by simp only [holes, List.cons_append, List.nil_append]; exact rfl) ?_
  refine zac ?_
  refine zam rfl rfl rfl (op_boxm 1 rfl (ev1 rfl) (fun s v h => by cases h <;> rfl) rfl) (by simp only [upd, za, zaa]; exact rfl) ?_
  refine zam rfl rfl rfl (op_boxa 2 rfl (ev1 rfl) rfl) (by simp only [upd, za, zaa]; exact rfl) ?_
  refine zab rfl rfl rfl (zad (.inr rfl) (ev1 rfl)) ?_
  refine zae ?_
  refine dwp_scope ?_
  refine zaf ?_
  refine zaj 1 (by simp only [holes, List.cons_append, List.nil_append]; exact rfl) ?_
  refine zac ?_
  refine zam rfl rfl rfl (zaq 3 rfl zr31 rfl) (by simp only [upd, za, zaa]; exact rfl) ?_
  refine zae ?_
  refine zaf ?_
  refine zaj 1 (by simp only [holes, List.cons_append, List.nil_append]; exact rfl) ?_
  refine zac ?_
  refine zab rfl rfl rfl (zav rfl tb97 (ev1 rfl) rfl rfl) ?_
  refine zam rfl rfl rfl (zah [0] [] [] rfl (ev1 rfl) (ec (ev1 rfl) en) rfl rfl (asked_d _ (by assumption)) rfl rfl rfl rfl rfl rfl) (by simp only [upd, za, zaa]; exact rfl) ?_
  refine zam rfl rfl rfl (zaq 4 rfl zr24 rfl) (by simp only [upd, za, zaa]; exact rfl) ?_
  refine zax rfl rfl (op_stwa rfl tb24 (ev1 rfl) (ev1 rfl) rfl rfl rfl rfl) (by simp only [upd, za, zaa]; exact rfl) ?_
  refine zae ?_
  refine zaf ?_
  refine dwp_label ?_
  refine zaf ?_
  refine zaf ?_
  refine zaj 1 (by simp only [holes, List.cons_append, List.nil_append]; exact rfl) ?_
  refine zac ?_
  refine zab rfl rfl rfl (zav rfl tb97 (ev1 rfl) rfl rfl) ?_
  refine zam rfl rfl rfl (zah [0] [] [5] rfl (ev1 rfl) (ec (ev1 rfl) en) rfl rfl (regd_d _) rfl rfl rfl rfl rfl rfl) (by simp only [upd, za, zaa]; exact rfl) ?_
  refine zae ?_
  refine zat ?_
  refine dwp_hole ?_
  simp only [List.cons_append, List.nil_append]
  refine dwp_rf (FL := [(2, _), (3, _), (5, _), (6, _)]) (st := (rst (noneIn f 0))) (pe := (rpe (.exit 0) (noneIn f 0))) [6, 1, 2, 3, 4, 5, 0] [] [] 6 rfl rfl (ev1 rfl) rfl (subF_lk ⟨rfl, rfl, rfl, rfl, trivial⟩) rfl rfl rfl (rd_wait0 f v hp) rfl rfl rfl rfl rfl rfl rfl (rst_busy _) (fun e => ?_) (fun c e => ?_)
  · simp only [upd, za, zaa]
    refine zaf ?_
    refine zac ?_
    refine zab rfl rfl rfl (op_ldo rfl tb31 (ev1 rfl) rfl rfl) ?_
    refine zab rfl rfl rfl (zad (.inr rfl) (ev1 rfl)) ?_
    refine zae ?_
    refine zau ?_
    refine kend [0] (rs1 rfl (rv_t rfl)) rfl rfl ?_ ⟨rfl, trivial⟩
    rfl
  · obtain ⟨e1, rfl⟩ : noneIn f 0 = false ∧ c = .exit 0 := by
      cases h : noneIn f 0 <;> simp_all [rpe]
    simp only [upd, za, zaa]
    refine dwp_exit ?_
    refine zaf ?_
    refine zac ?_
    refine zab rfl rfl rfl (op_ldo rfl tb31 (ev1 rfl) rfl rfl) ?_
    refine zab rfl rfl rfl (zad (.inr rfl) (ev1 rfl)) ?_
    refine zae ?_
    refine zau ?_
    refine kend [0] (rs1 rfl (rv_t rfl)) rfl rfl ?_ ⟨rfl, trivial⟩
    rfl
end Go.Proofs.YtnjnhghafjlmbaaGreat
