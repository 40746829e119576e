/- A region that draws its order: walked once, in the text's order. Conditions: the kernel's look at its edges; Ends of calls; structs built; bools and strings compared; least and greatest; slices taken over, and given up. Conditions: what a type is, by the kernel; From a contract to the statement: a law whose call returns true whatever its arguments read as; with listed variables, too.  but the kernel's look at the program; Memory that stays from now on, within a call; arrays as rows of elements; parts of arrays; what types are; frontiers that register sites, and hear; frontiers that rise; the sites; the law of frontiers that rise; arguments that are opened. No condition. -/
import Derived.Test.YtnjnhghafjlmbaaGreatQ6
import Derived.WalkKit
import Derived.Below
import Derived.Laws.AppendOwn
import Derived.RangeFuncRecord
import Derived.RangeFuncLeaves
import Derived.OrdersIn
import Derived.Deep.MidRow
import Derived.Laws.MakeOwn
import Derived.IntWalk
import Derived.Laws.OwnMore
import Derived.OwnWalk
import Derived.Test.YtnjnhghafjlmbaaGreatRows
import Derived.Test.YtnjnhghafjlmbaaGreatProg
import Derived.OpenShut
import Derived.ChangeArms
import Derived.DataReads
import Derived.Deep.Slices
import Derived.JoinedOf
import Derived.JoinedAt
import Derived.Lib.SmallJoins
import Derived.Carry
import Derived.ProofKit
import Derived.RowKit3
import Derived.Recover
import Derived.RangeFuncIn
import Derived.Laws.StructEq
import Derived.LaidMore
import Derived.Handed
import Derived.LaidHandle
import Derived.Stop.Joined
import Derived.Laws.IdiomCopy
import Derived.Laws.Pointers
import Derived.Laws.LoneSync
namespace Go.Proofs.YtnjnhghafjlmbaaGreat
set_option linter.unusedVariables false
set_option linter.unusedSimpArgs false
open Go.RowKit
/-- behind a guard that is known to hold -/
theorem lex_k {P : Program} {ops : Array Oper} {o : Oper} {rest : List Oper} {fp wi : List Nat} {fps : List (List Nat × List Nat)} {F : Fr} {M M' : List Blk} {Q : Fr → List Blk → Prop} {d : D} {t : Nat} {wr : List (Nat × Blk)} (hg : Gd ops o F true) (hn : o.guard.isSome = true) (hd : o.dst = some t) (h : DOp P true o F M fp d wr) (hw : wr.map (·.1) = wi) (hM : upd M wr = M')
    (hk : Lex P ops rest fps ((t, .opt true d) :: F) M' Q) : Lex P ops (o :: rest) ((fp, wi) :: fps) F M Q :=
by
  unfold Lex
  refine ⟨true, d, wr, hg, h, hw, (fun h => by cases h), ?_⟩
  unfold gdd
  cases e : o.guard with
  | none => rw [e] at hn; cases hn
  | some x => rw [hd, hM]; exact hk
section
variable {l : List Oper} {E : List Rc} {F : Fr} {M : List Blk}
end
end Go.Proofs.YtnjnhghafjlmbaaGreat
namespace Go.Proofs.YtnjnhghafjlmbaaGreat
set_option linter.unusedVariables false
set_option linter.unusedSimpArgs false
open Go.RowKit
section
variable {P : Program} {fn : Func} {F : Fr} {M : List Blk} {t u v : Tmp} {d d' e f dr : D}
end
section
variable {P : Program} {pc : Bool} {o : Oper} {F : Fr} {M : List Blk}

/-! ### structs built -/
theorem op_neb {T T' : TypeId} {x y : Operand} {p q : Bool} (ho : o.op = .binOp .neq T x y T') (hT : P.underlying T = some .bool) (hx : Ev pc F x (.val (.bool p))) (hy : Ev pc F y (.val (.bool q))) : DOp P pc o F M [] (.val (.bool (p != q))) [] :=
  op_nev ho hx hy (fun w => by unfold eqGuard; rfl) fun w => by
    have h : ∀ d, (Op.equalIn (d + 1) T (.bool p) (.bool q)).run P w = .ok (p == q) w := fun d => by simp [Op.equalIn, run_underlying hT]
    show (do pure (Value.bool (!(← Op.equalIn (9999 + 1) T (.bool p) (.bool q)))) : Sem Value).run P w = _
    rw [Sem.run_bind, h 9999]; rfl
end
section
variable {P : Program} {s0 : St} {n : Cx}
end
end Go.Proofs.YtnjnhghafjlmbaaGreat
namespace Go.Proofs.YtnjnhghafjlmbaaGreat
set_option linter.unusedVariables false
set_option linter.unusedSimpArgs false
open Go.ChangeShapes Go.WideShapes Go.ChangeAt Go.RowKit Go.Joins Go.Deep
set_option maxRecDepth 100000
section
variable {H : Type} {enc : TypeId × Value → H} {w : World} {base b0 : Nat} {r : Reach} {spare : Nat → Bool} {held : Bool} {v : Value} {d : DataW H} {p : List MemPlace}
theorem open_arrayT {α : Type} {t e : TypeId} {n : Nat} {ps : List Prim} (f : Nat) (en : α → List Value) (ok : α → Prop) (hP : ∀ cs, fitsP ps cs → ∃ a, ok a ∧ cs = en a) (hu : Tryz.prog.underlying t = some (.array n e)) (hf : flatT Tryz.prog f t = some ps)
    (hv : Value.okWide Tryz.prog w r b0 t v) (h : DataW.Trod enc Tryz.prog w base spare held t v d p) : ∃ a, ok a ∧ v = .agg (en a).toArray := by
  simp only [Value.okWide, hu] at hv
  obtain ⟨cs, rfl, hsz, _⟩ := hv
  obtain ⟨fuel, hfu⟩ := h
  obtain ⟨a, hr, e⟩ := hP _ (flat_trod f _ _ _ _ _ hf hfu)
  refine ⟨a, hr, ?_⟩
  have e2 : cs.toList = en a := e
  rw [← e2]
end
end Go.Proofs.YtnjnhghafjlmbaaGreat
namespace Go.Proofs.YtnjnhghafjlmbaaGreat
set_option linter.unusedVariables false
set_option linter.unusedSimpArgs false
open Go.RowKit
section
variable {P : Program} {s0 : St} {n : Cx}
end
section
variable {P : Program} {pc : Bool} {o : Oper} {F : Fr} {M : List Blk} {T T' : TypeId} {x y : Operand} {i n sz : Nat} {k : IntKind} {z : Int} {α : Type} {en : α → List Value} {l : List α} {j : Nat}
end
section
variable {P : Program} {pc : Bool} {o : Oper} {F : Fr} {M : List Blk}
/-- something with addresses, into a variable that had none -/
theorem op_stfm {T T' : TypeId} {x y : Operand} {i p : Nat} {rw' : Bool} {d : D} {L : List Value} (ho : o.op = .store T x y) (hT : tyB P T = some (rw', 1)) (hx : Ev pc F x (.loc i p)) (hy : Ev pc F y d) (h1 : ∀ (s : St) v, Rep s d v → v.cells = #[v] ∧ v.oneCell' = true) (hM : M[i]? = some (.flat T' L)) (hfit : p < L.length) : DOp P pc o F M [i] .junk [(i, .mix T' ((L.map .val).set p d))] := by
  intro hp a s hok hops hfp
  have hr := ev_at hp hx (by simp [ho, Op.operands]) hops
  have hry := ev_at hp hy (by simp [ho, Op.operands]) hops
  obtain ⟨hc1, hc2⟩ := h1 s _ hry
  have hM' : s.M[i]? = some (.flat T' L) := by rw [hfp i (by simp)]; exact hM
  generalize hv : a.eval x = vx at hr
  cases hr with
  | @loc _ _ b h =>
    obtain ⟨b', e1, e2⟩ := hok.blk i _ _ hM' h
    cases e1
    obtain ⟨vs, hvs⟩ : ∃ vs, vs = L := ⟨_, rfl⟩
    rw [← hvs] at e2 hfit
    have e3 : vs.length = (L.map D.val).length := by rw [hvs]; simp
    have e4 : ∀ (j : Nat) d v, (L.map D.val)[j]? = some d → vs[j]? = some v → Rep s d v := fun j d v h1 h2 => by
      rw [hvs] at h2
      simp [h2] at h1
      subst h1
      exact .val _
    have hcell := cellsAt_block e2 0
    have hrun := run_store (P := P) (w := s.w) (C := [a.eval y]) ho hT hv rfl (by rw [hc1]) rfl (fun j hj => by
        have hj0 : j = 0 := by simp at hj; exact hj
        subst hj0
        have hp' : p < vs.length := by omega
        have := hcell p vs[p] (by simp [hp'])
        rw [Nat.zero_add] at this
        rw [Nat.add_zero, this]; rfl) (fun j hj => by simp [World.frozen?, e2]) (fun u hu => by rw [List.mem_singleton.1 hu]; exact hc2)
    refine dg_skip (s' := ⟨s.β.set i (.pointer (some ⟨b, 0, none⟩)), s.I, s.M.set i (.mix T' ((L.map .val).set p d)), s.w.setCells b p [a.eval y]⟩) hrun (tr_store hok hM' rfl h rfl p _ ?_) rfl
    refine ⟨b, vs.set p (a.eval y), rfl, setCells_block b _ p s.w vs T' e2, by simp [e3], fun j e v hj hv' => ?_⟩
    have hβ : s.β.set i (.pointer (some ⟨b, 0, none⟩)) = s.β := by
      apply List.ext_getElem?
      intro k
      by_cases e : i = k
      · subst e; rw [List.getElem?_set_self (List.getElem?_eq_some_iff.1 h).1, h]
      · rw [List.getElem?_set_ne e]
    have lift : ∀ {e : D} {v : Value}, Rep s e v → Rep ⟨s.β.set i (.pointer (some ⟨b, 0, none⟩)), s.I, s.M.set i (.mix T' ((L.map .val).set p d)), s.w.setCells b p [a.eval y]⟩ e v := by
      intro e v hr
      refine Rep.mono' (s := s) (s' := ⟨s.β.set i (.pointer (some ⟨b, 0, none⟩)), s.I, s.M.set i (.mix T' ((L.map .val).set p d)), s.w.setCells b p [a.eval y]⟩) (fun k x hk _ => by show (s.β.set i _)[k]? = _; rw [hβ]; exact hk) (fun _ h => h) (fun b' hI => setCells_other b _ p s.w b' fun e => ?_) hr
      subst e
      exact (hok.lt b' (live_of hM' rfl h rfl)).2 hI
    by_cases e' : p = j
    · subst e'
      rw [List.getElem?_set_self (by omega)] at hj
      rw [List.getElem?_set_self (by omega)] at hv'
      cases hj; cases hv'
      exact lift hry
    · rw [List.getElem?_set_ne e'] at hj hv'
      exact lift (e4 j e v hj hv')
end
section
variable {P : Program} {s0 : St} {n : Cx}
end
end Go.Proofs.YtnjnhghafjlmbaaGreat
namespace Go.Proofs.YtnjnhghafjlmbaaGreat
set_option linter.unusedVariables false
set_option linter.unusedSimpArgs false
open Go.RowKit
theorem frB_sw {f : FrM} {j : Nat} {p : Pl} (h : frB f = true) (hp : siB f.fo j p = true) : frB (f.sw j p) = true := by
  obtain ⟨h1, h2, h3, h4, h5⟩ := frB_iff.1 h
  refine frB_iff.2 ⟨h1, h2, h3, h4, fun i hi => ?_⟩
  rw [sw_st]
  by_cases hij : i = j
  · rw [if_pos hij, hij]; exact hp
  · rw [if_neg hij]; exact h5 i hi
theorem regF_ok {f : FrM} {s : Int} (h : frB f = true) (hs : isS s = true) : siB f.fo s.toNat ⟨true, max f.fo f.pr, 0, z9⟩ = true := by
  obtain ⟨h1, h2, h3, h4, h5⟩ := frB_iff.1 h
  have := isS_iff.1 hs
  refine siB_iff.2 (.inr ⟨by omega, plB_iff.2 ⟨rfl, ?_, ?_, vB_z9⟩, ?_⟩)
  · show max _ _ ≤ LAST
    omega
  · show 0 ≤ LAST
    omega
  · show _ ≤ max _ _
    omega
/-- what waits for nobody -/
theorem waitL_nil {f : FrM} {v : Vec} (h : (waitL f v).isEmpty = true) : ∀ i, i < 9 → waitB f v i = false := by
  intro i hi
  unfold waitL at h
  rw [List.isEmpty_iff, List.map_eq_nil_iff, List.filter_eq_nil_iff] at h
  have := h i (List.mem_range.2 hi)
  simpa using this
theorem folF_ok {f : FrM} {v : Vec} (h : frB f = true) (hr : readyB f v = true) : frB ⟨f.pr, askV f, 0, f.st⟩ = true ∧ f.fo < f.pr := by
  obtain ⟨h1, h2, h3, h4, h5⟩ := frB_iff.1 h
  unfold readyB at hr
  rw [Bool.and_eq_true] at hr
  obtain ⟨r1, r2⟩ := hr
  have r1 := of_decide_eq_true r1
  have hw := waitL_nil r2
  refine ⟨frB_iff.2 ⟨h3, vB_iff.2 ⟨?_, fun i hi => ?_⟩, Nat.zero_le _, .inl rfl, fun i hi => ?_⟩, by omega⟩
  · have := h5 0 (by omega)
    rcases siB_iff.1 this with e | e
    · exact (eqP_zP.1 e).2.2.1
    · exact absurd rfl e.1
  · rcases siB_iff.1 (h5 i hi) with e | e
    · show (f.st i).fs ≤ LAST
      rw [(eqP_zP.1 e).2.2.1]; exact Nat.zero_le _
    · exact (plB_iff.1 e.2.1).2.2.1
  · rcases siB_iff.1 (h5 i hi) with e | e
    · exact siB_iff.2 (.inl e)
    · refine siB_iff.2 (.inr ⟨e.1, e.2.1, ?_⟩)
      have := hw i hi
      unfold waitB at this
      rw [(plB_iff.1 e.2.1).1] at this
      simp at this
      exact this.1.1
end Go.Proofs.YtnjnhghafjlmbaaGreat
namespace Go.Proofs.YtnjnhghafjlmbaaGreat
set_option linter.unusedVariables false
set_option linter.unusedSimpArgs false
open Go.RowKit
set_option maxRecDepth 4000 in
set_option maxHeartbeats 1000000 in
theorem rise1_idle (e : Int) : DDef Tryz.prog 59 [.loc 0 0] [.flat 34 [.int .i64 e]] none none [.flat 34 [.int .i64 0]] := by
  refine ddef_go1 (dr := .tup []) (t := 1) (N := 3) 1 (by kernel_rfl) Tryz.func59 rfl rfl rfl (by simp only [fr0, Nat.zero_add, Nat.reduceAdd]; exact rfl) rfl rfl rfl rfl rfl fun s0 hs0 => ?_
  refine zab rfl rfl rfl (zah [] [] [] rfl (ev1 rfl) (ec (ev1 rfl) en) rfl rfl (ftold_no) rfl rfl rfl rfl rfl rfl) ?_
  refine zax rfl rfl (op_stwi rfl tb34 (ev1 rfl) (ev1 rfl) rfl) (by simp only [upd, za, zaa]; exact rfl) ?_
  refine zae ?_
  refine kend [0] (res_none rfl) rfl rfl ?_ ⟨rfl, trivial⟩
  rfl
set_option maxRecDepth 4000 in
set_option maxHeartbeats 1000000 in
theorem rise1_caught (e n : Int) : DDef Tryz.prog 59 [.loc 0 0] [.flat 34 [.int .i64 e]] (some (.ifc 126 (.val (.agg #[.int .i64 n])))) none [.flat 34 [.int .i64 n]] := by
  refine ddef_go1 (dr := .tup []) (t := 1) (N := 3) 1 (by kernel_rfl) Tryz.func59 rfl rfl rfl (by simp only [fr0, Nat.zero_add, Nat.reduceAdd]; exact rfl) rfl rfl rfl rfl rfl fun s0 hs0 => ?_
  refine zab rfl rfl rfl (zah [] [] [] rfl (ev1 rfl) (ec (ev1 rfl) en) rfl rfl (ftold_w n) rfl rfl rfl rfl rfl rfl) ?_
  refine zax rfl rfl (op_stwi rfl tb34 (ev1 rfl) (ev1 rfl) rfl) (by simp only [upd, za, zaa]; exact rfl) ?_
  refine zae ?_
  refine kend [0] (res_none rfl) rfl rfl ?_ ⟨rfl, trivial⟩
  rfl
end Go.Proofs.YtnjnhghafjlmbaaGreat
namespace Go.Proofs.YtnjnhghafjlmbaaGreat
set_option linter.unusedVariables false
set_option linter.unusedSimpArgs false
open Go.RowKit
theorem tb84 : tyB Tryz.prog 84 = some (false, 1) := by kernel_rfl
theorem zr84 : zrC Tryz.prog 84 = some [.nilFunc] := by kernel_rfl
def risTo (f : FrM) (k : Nat) : FrM := { f with st := fun i => if i < k then risP f.fo (f.st i) else f.st i }
theorem risTo_0 (f : FrM) : risTo f 0 = f := by
  unfold risTo
  simp
theorem risTo_yes (f : FrM) {k : Nat} (h : (f.st k).inn = true) : (risTo f k).sw k ⟨true, f.fo, 0, z9⟩ = risTo f (k + 1) := by
  unfold risTo FrM.sw upV
  congr 1
  funext i
  dsimp only
  by_cases e : i = k
  · subst e
    rw [if_pos rfl, if_pos (by omega)]
    unfold risP
    rw [if_pos h]
  · rw [if_neg e]
    by_cases h2 : i < k
    · rw [if_pos h2, if_pos (by omega)]
    · rw [if_neg h2, if_neg (by omega)]
theorem risTo_no (f : FrM) {k : Nat} (h : ¬ (f.st k).inn = true) : risTo f k = risTo f (k + 1) := by
  unfold risTo
  congr 1
  funext i
  by_cases e : i = k
  · subst e
    rw [if_neg (by omega), if_pos (by omega)]
    unfold risP
    rw [if_neg h]
  · by_cases h2 : i < k
    · rw [if_pos h2, if_pos (by omega)]
    · rw [if_neg h2, if_neg (by omega)]
theorem risTo_end (f : FrM) : frC { (risTo f 9) with pr := 0 } = frC ⟨f.fo, f.bv, 0, fun i => risP f.fo (f.st i)⟩ := by
  unfold frC risTo stC
  rfl
set_option maxRecDepth 4000 in
set_option maxHeartbeats 1000000 in
theorem forget_d (f : FrM) (j : Nat) (hj : j < 9) : DFun Tryz.prog 60 [.loc 0 0, .val (.int .i64 (j : Int))] [.flat 101 (frC f)] (.tup []) [.flat 101 (frC (f.sw j ⟨true, f.fo, 0, z9⟩))] := by
  refine zba (N := 16) 1 (by kernel_rfl) Tryz.func60 rfl rfl rfl (by simp only [fr0, Nat.zero_add, Nat.reduceAdd]; exact rfl) rfl fun s0 hs0 => ?_
  refine dwp_draw [([], []), ([], []), ([], []), ([], []), ([], []), ([], []), ([0], []), ([], []), ([], []), ([], []), ([], []), ([], []), ([0], [0])] mixed (by kernel_rfl) ?_
  refine lex_r rfl rfl (zad (.inl rfl) (ev1 rfl)) ?_
  refine lex_r rfl rfl (zad (.inl rfl) (ev1 rfl)) ?_
  refine lex_r rfl rfl (zad (.inl rfl) (ev1 rfl)) ?_
  refine lex_r rfl rfl (op_nc rfl (ev1 rfl) (fun s v h => by cases h; exact ⟨_, rfl⟩)) ?_
  refine lex_r rfl rfl (zap rfl fo101_0 (ev1 rfl)) ?_
  refine lex_r rfl rfl (zap rfl fo29_0 (ev1 rfl)) ?_
  refine lex_r rfl rfl (op_ldo rfl tb22 (ev1 rfl) rfl rfl) ?_
  refine lex_r rfl rfl (op_build (ps := [(0, .const (.bool true)), (1, .tmp 10)]) rfl fl26 zr26 (vc (ev1 rfl) (vc (ev1 rfl) vn)) rfl rfl) ?_
  refine lex_r rfl rfl (op_nc rfl (ev1 rfl) (fun s v h => by cases h; exact ⟨_, rfl⟩)) ?_
  refine lex_r rfl rfl (zap rfl fo101_0 (ev1 rfl)) ?_
  refine lex_r rfl rfl (zap rfl fo29_3 (ev1 rfl)) ?_
  refine lex_r rfl rfl (op_ixl rfl ar27 (ev1 rfl) (ev1 rfl) (fun _ => by omega)) ?_
  refine lex_s rfl rfl (op_st (C := plC ⟨true, f.fo, 0, z9⟩) rfl tb26 (ev1 rfl) (ev1 rfl) rfl rfl rfl rfl (by simp only [zao, plC_len]; omega) (frC_swp (j := j) (by omega) hj)) rfl (by simp only [upd, za, zaa]; exact rfl) ?_
  refine lex_nil ?_
  refine kend [0] (res_none rfl) rfl rfl ?_ ⟨rfl, trivial⟩
  rfl
noncomputable def risA : Code := rfA (pth [1, 1, 1, 1, 0, 1, 0] (bodyOf Tryz.f24))
noncomputable def risB : Code := rfB (pth [1, 1, 1, 1, 0, 1, 0] (bodyOf Tryz.f24))
set_option maxRecDepth 4000 in
set_option maxHeartbeats 1000000 in
theorem risRound (f : FrM) (j : Nat) (hj : j < 9) (p : Pl) : DRound Tryz.prog 0 [.val (.int .i64 (j : Int)), .val (.agg (plC p).toArray)] [.lp 27 [(5, .loc 1 0)] #[14, 15] risA risB .ready none, .mix 84 [.fn (.func 60) [.loc 2 0] []], .flat 101 (frC f)] true [.lp 27 [(5, .loc 1 0)] #[14, 15] risA risB .ready none, .mix 84 [.fn (.func 60) [.loc 2 0] []], .flat 101 (frC (f.sw j ⟨true, f.fo, 0, z9⟩))] := by
  refine dround_go 3 rfl rfl (by simp) rfl rfl fun s0 hs0 => ?_
  refine zac ?_
  refine zab rfl rfl rfl (zad (.inr rfl) (ev1 rfl)) ?_
  refine zae ?_
  refine ⟨rfl, ?_⟩
  simp only [za, zaa]
  refine zat ?_
  refine zac ?_
  refine zab rfl rfl rfl (zav rfl tb84 (ev1 rfl) rfl rfl) ?_
  refine zab rfl rfl rfl (zad (.inl rfl) (ev1 rfl)) ?_
  refine zam rfl rfl rfl (zah [2] [] [] rfl (ev1 rfl) (ec (ev1 rfl) en) rfl rfl (forget_d f j hj) rfl rfl rfl rfl rfl rfl) (by simp only [upd, za, zaa]; exact rfl) ?_
  refine zae ?_
  refine ⟨by first | rfl | assumption | simp_all, rfl, [0, 1, 2], rfl, ⟨rfl, rfl, rfl, trivial⟩⟩
set_option maxRecDepth 4000 in
set_option maxHeartbeats 1000000 in
theorem rd_rise (f : FrM) : DFun Tryz.prog 80 [.yld 0, .loc 2 0] [.lp 27 [(5, .loc 1 0)] #[14, 15] risA risB .ready none, .mix 84 [.fn (.func 60) [.loc 3 0] []], .mix 97 [.loc 3 0], .flat 101 (frC f)] (.tup []) [.lp 27 [(5, .loc 1 0)] #[14, 15] risA risB .ready none, .mix 84 [.fn (.func 60) [.loc 3 0] []], .mix 97 [.loc 3 0], .flat 101 (frC (risTo f 9))] := by
  refine zba (N := 24) 4 (by kernel_rfl) Tryz.func80 rfl rfl rfl (by simp only [fr0, Nat.zero_add, Nat.reduceAdd]; exact rfl) rfl fun s0 hs0 => ?_
  refine zaf ?_
  refine zac ?_
  refine zab rfl rfl rfl (zav rfl tb97 (ev1 rfl) rfl rfl) ?_
  refine zab rfl rfl rfl (op_nc rfl (ev1 rfl) (fun s v h => by cases h; exact ⟨_, rfl⟩)) ?_
  refine zab rfl rfl rfl (zap rfl fo101_0 (ev1 rfl)) ?_
  refine zab rfl rfl rfl (zap rfl fo29_3 (ev1 rfl)) ?_
  refine zab rfl rfl rfl (op_ldr rfl tb27 (ev1 rfl) rfl (stC_flat f) (by rw [sL_flat]; rfl)) ?_
  refine zab rfl rfl rfl (zad (.inl rfl) (ev1 rfl)) ?_
  refine zae ?_
  refine zat ?_
  refine dwp_loopS ⟨hs0, rfl⟩ (α := Nat) (fun k => [(10, .val (.int .i64 (k : Int)))]) [(0, _), (9, _)] (fun k => [(3, .flat 101 (frC (risTo f k)))]) [_, _, _, .hole] (fun k => k ≤ 9) (fun k => 9 - k) 0 [0, 1, 2, 3] (by omega) rfl ⟨rfl, rfl, trivial⟩ ⟨rfl, trivial⟩ ⟨rfl, rfl, rfl, by rw [risTo_0]; rfl, trivial⟩ ?_
  intro k hx
  simp only [upd, za, zaa, List.cons_append, List.nil_append]
  have hk := hx
  refine zaf ?_
  refine zac ?_
  refine zab rfl rfl rfl (op_lss rfl (ev1 rfl) (ev1 rfl)) ?_
  refine zae ?_
  refine zaf ?_
  refine zaw rfl (fun c1 => ?_) (fun c1 => ?_)
  · try simp only [decide_eq_true_eq, decide_eq_false_iff_not, beq_iff_eq, bne_iff_ne, beq_eq_false_iff_ne, bne_eq_false_iff_eq, Bool.not_eq_true', Bool.not_eq_false', Bool.and_eq_true, Bool.or_eq_true, Bool.or_eq_false_iff, ne_eq, Decidable.not_not, Int.not_lt, Int.not_le] at c1
    refine zak ?_
    refine zaf ?_
    refine zat ?_
    refine zaf ?_
    refine zaj 1 (by simp only [holes, List.cons_append, List.nil_append]; exact rfl) ?_
    refine zac ?_
    refine zab rfl rfl rfl (zad (.inl rfl) (ev1 rfl)) ?_
    refine zab rfl rfl rfl ((by rw [← sL_at f.st k (by omega)]; exact op_ixv (j := k) (zP) rfl av27 (ev1 rfl) (ev1 rfl) (fun _ => rfl) (fun _ => by omega) (sL_len _) (fun _ => rfl) : DOp _ _ _ _ _ _ (.val (.agg (plC (f.st k)).toArray)) _)) ?_
    refine zam rfl rfl rfl (zaq 4 rfl zr26 rfl) (by simp only [upd, za, zaa]; exact rfl) ?_
    refine zab rfl rfl rfl (zad (.inr rfl) (ev1 rfl)) ?_
    refine zax rfl rfl (op_stwa rfl tb26 (ev1 rfl) (ev1 rfl) rfl rfl rfl rfl) (by simp only [upd, za, zaa]; exact rfl) ?_
    refine zae ?_
    refine zaf ?_
    by_cases hin : (f.st k).inn = true
    · refine zac ?_
      refine zab rfl rfl rfl (zap rfl fo26_0 (ev1 rfl)) ?_
      refine zab rfl rfl rfl ((op_ldo rfl tb4 (ev1 rfl) rfl rfl).cast (d' := .val (.bool true)) (by rw [hin])) ?_
      refine zab rfl rfl rfl (zad (.inl rfl) (ev1 rfl)) ?_
      refine zai (zar (b := true) rfl rfl rfl) rfl rfl rfl (zad (.inl rfl) (ev1 rfl)) (by simp only [upd, za, zaa]; exact rfl) ?_
      refine zai (zar (b := true) rfl rfl rfl) rfl rfl rfl (zad (.inl rfl) (ev1 rfl)) (by simp only [upd, za, zaa]; exact rfl) ?_
      refine zai (zar (b := true) rfl rfl rfl) rfl rfl rfl (zas rfl tb26 (ev1 rfl) rfl rfl) (by simp only [upd, za, zaa]; exact rfl) ?_
      refine zai (zar (b := true) rfl rfl rfl) rfl rfl rfl (op_y (i := 0) [0, 1, 3] [] [] rfl (ev2 rfl) (ec (ev2 rfl) (ec (ev2 rfl) en)) rfl rfl rfl (risRound (risTo f k) k (by omega) (f.st k)) rfl rfl rfl rfl rfl) (by simp only [upd, za, zaa]; exact rfl) ?_
      refine zai (zar (b := true) rfl rfl rfl) rfl rfl rfl (op_not rfl (ev2 rfl)) (by simp only [upd, za, zaa]; exact rfl) ?_
      refine zab rfl rfl rfl (zaz rfl (ev1 rfl) (ev3 rfl (fun _ => rfl))) ?_
      refine zae ?_
      refine dwp_if_f rfl (rfl) ?_
      refine zak ?_
      refine zac ?_
      refine zab rfl rfl rfl (op_add' rfl (ev1 rfl) (ev1 rfl) (fun _ => IntWalk.i64_in _ (by omega))) ?_
      refine zab rfl rfl rfl (zad (.inl rfl) (ev1 rfl)) ?_
      refine zae ?_
      refine ⟨k + 1, [0, 1, 2, 3], by omega, by simp only []; omega, rfl, ⟨rfl, rfl, rfl, trivial⟩, ⟨rfl, rfl, rfl, by rw [← risTo_yes f hin]; rfl, trivial⟩⟩
    · refine zac ?_
      refine zab rfl rfl rfl (zap rfl fo26_0 (ev1 rfl)) ?_
      refine zab rfl rfl rfl ((op_ldo rfl tb4 (ev1 rfl) rfl rfl).cast (d' := .val (.bool false)) (by rw [show (f.st k).inn = false by simpa using hin])) ?_
      refine zab rfl rfl rfl (zad (.inl rfl) (ev1 rfl)) ?_
      refine zag (zar (b := false) rfl rfl rfl) rfl rfl rfl (zal (d := .junk)) ?_
      refine zag (zar (b := false) rfl rfl rfl) rfl rfl rfl (zal (d := .junk)) ?_
      refine zag (zar (b := false) rfl rfl rfl) rfl rfl rfl (zal (d := .junk)) ?_
      refine zag (zar (b := false) rfl rfl rfl) rfl rfl rfl (zal (d := .val (.bool false))) ?_
      refine zag (zar (b := false) rfl rfl rfl) rfl rfl rfl (zal (d := .val (.bool false))) ?_
      refine zab rfl rfl rfl (zaz rfl (ev1 rfl) (ev3 rfl id)) ?_
      refine zae ?_
      refine dwp_if_f rfl (rfl) ?_
      refine zak ?_
      refine zac ?_
      refine zab rfl rfl rfl (op_add' rfl (ev1 rfl) (ev1 rfl) (fun _ => IntWalk.i64_in _ (by omega))) ?_
      refine zab rfl rfl rfl (zad (.inl rfl) (ev1 rfl)) ?_
      refine zae ?_
      refine ⟨k + 1, [0, 1, 2, 3], by omega, by simp only []; omega, rfl, ⟨rfl, rfl, rfl, trivial⟩, ⟨rfl, rfl, rfl, by rw [← risTo_no f hin]; rfl, trivial⟩⟩
  · try simp only [decide_eq_true_eq, decide_eq_false_iff_not, beq_iff_eq, bne_iff_ne, beq_eq_false_iff_ne, bne_eq_false_iff_eq, Bool.not_eq_true', Bool.not_eq_false', Bool.and_eq_true, Bool.or_eq_true, Bool.or_eq_false_iff, ne_eq, Decidable.not_not, Int.not_lt, Int.not_le] at c1
    refine dwp_exit ?_
    have hk9 : k = 9 := by omega
    subst hk9
    refine kend [0, 1, 2, 3] (res_none rfl) rfl rfl ?_ ⟨rfl, rfl, rfl, rfl, trivial⟩
    rfl
set_option maxRecDepth 4000 in
set_option maxHeartbeats 1000000 in
theorem ris_no (f : FrM) (hf : frB f = false) : DFun Tryz.prog 24 [.val (.agg (frC f).toArray)] [] (.tup [.val (.agg (frC zF).toArray), .val (.int .i64 280)]) [] := by
  refine dcalls_body (N := 27) 0 (by kernel_rfl) Tryz.func24 rfl rfl rfl (by simp only [fr0, Nat.zero_add, Nat.reduceAdd]; exact rfl) rfl fun s0 hs0 => ?_
  refine dbody_seq rfl hs0 ?_
  refine zaj 3 (by simp only [holes, List.cons_append, List.nil_append]; exact rfl) ?_
  refine zac ?_
  refine zam rfl rfl rfl (op_boxa 0 rfl (ev1 rfl) rfl) (by simp only [upd, za, zaa]; exact rfl) ?_
  refine zam rfl rfl rfl (zaq 1 rfl zr29 rfl) (by simp only [upd, za, zaa]; exact rfl) ?_
  refine zam rfl rfl rfl (zaq 2 rfl zr34 rfl) (by simp only [upd, za, zaa]; exact rfl) ?_
  refine zae ?_
  refine dbody_defer (l0 := [_]) rfl rfl rfl rfl rfl hs0 ?_
  refine zab rfl rfl rfl (op_mkf rfl en (ec (ev1 rfl) en)) ?_
  refine zae ⟨_, _, _, 3, ev1 rfl, Nat.le_trans hs0 (by decide), rfl, ?_⟩
  have hs1 : s0.M.length ≤ 3 := Nat.le_trans hs0 (by decide)
  refine dbody_end rfl hs0 ?_
  refine zaf ?_
  refine zac ?_
  refine zab rfl rfl rfl (zas rfl tb29 (ev1 rfl) rfl (zao _)) ?_
  refine walk_p rfl (dop_callP [] [] [] rfl (ev1 rfl) (ec (ev1 rfl) en) rfl rfl (chOf_no f hf) rfl rfl rfl rfl rfl rfl) rfl ?_
  refine kdef (dturn_caught [2] [] rfl rfl rfl (rise1_caught _ _) rfl rfl rfl rfl rfl) ?_
  refine kend0 (rs2 rfl (rv_w tb29 rfl rfl (zao _)) (rv_1 tb34 rfl rfl rfl)) rfl ?_
  rfl
set_option maxRecDepth 4000 in
set_option maxHeartbeats 1000000 in
theorem ris_ok (f : FrM) (hf : frB f = true) : DFun Tryz.prog 24 [.val (.agg (frC f).toArray)] [] (.tup [.val (.agg (frC ⟨f.fo, f.bv, 0, fun i => risP f.fo (f.st i)⟩).toArray), .val (.int .i64 0)]) [] := by
  refine dcalls_body (N := 27) 0 (by kernel_rfl) Tryz.func24 rfl rfl rfl (by simp only [fr0, Nat.zero_add, Nat.reduceAdd]; exact rfl) rfl fun s0 hs0 => ?_
  refine dbody_seq rfl hs0 ?_
  refine zaj 3 (by simp only [holes, List.cons_append, List.nil_append]; exact rfl) ?_
  refine zac ?_
  refine zam rfl rfl rfl (op_boxa 0 rfl (ev1 rfl) rfl) (by simp only [upd, za, zaa]; exact rfl) ?_
  refine zam rfl rfl rfl (zaq 1 rfl zr29 rfl) (by simp only [upd, za, zaa]; exact rfl) ?_
  refine zam rfl rfl rfl (zaq 2 rfl zr34 rfl) (by simp only [upd, za, zaa]; exact rfl) ?_
  refine zae ?_
  refine dbody_defer (l0 := [_]) rfl rfl rfl rfl rfl hs0 ?_
  refine zab rfl rfl rfl (op_mkf rfl en (ec (ev1 rfl) en)) ?_
  refine zae ⟨_, _, _, 3, ev1 rfl, Nat.le_trans hs0 (by decide), rfl, ?_⟩
  have hs1 : s0.M.length ≤ 3 := Nat.le_trans hs0 (by decide)
  refine dbody_end rfl hs0 ?_
  refine zaf ?_
  refine zaj 1 (by simp only [holes, List.cons_append, List.nil_append]; exact rfl) ?_
  refine zac ?_
  refine zab rfl rfl rfl (zas rfl tb29 (ev1 rfl) rfl (zao _)) ?_
  refine zam rfl rfl rfl (zah [] [] [3] rfl (ev1 rfl) (ec (ev1 rfl) en) rfl rfl (chOf_ok f hf) rfl rfl rfl rfl rfl rfl) (by simp only [upd, za, zaa]; exact rfl) ?_
  refine zab rfl rfl rfl (zad (.inr rfl) (ev1 rfl)) ?_
  refine zae ?_
  refine zaf ?_
  refine zaj 1 (by simp only [holes, List.cons_append, List.nil_append]; exact rfl) ?_
  refine zac ?_
  refine zab rfl rfl rfl (zad (.inl rfl) (ev1 rfl)) ?_
  refine zab rfl rfl rfl (op_mkf rfl (ec (ev1 rfl) en) en) ?_
  refine zam rfl rfl rfl (zaq 4 rfl zr84 rfl) (by simp only [upd, za, zaa]; exact rfl) ?_
  refine zax rfl rfl (op_stfm rfl tb84 (ev1 rfl) (ev1 rfl) (fun s v h => by cases h <;> exact ⟨rfl, rfl⟩) rfl (by decide)) (by simp only [upd, za, zaa]; exact rfl) ?_
  refine zae ?_
  refine zaf ?_
  refine zaf ?_
  refine zaj 1 (by simp only [holes, List.cons_append, List.nil_append]; exact rfl) ?_
  refine zac ?_
  refine zab rfl rfl rfl (zad (.inl rfl) (ev1 rfl)) ?_
  refine zam rfl rfl rfl (zah [3] [] [5] rfl (ev1 rfl) (ec (ev1 rfl) en) rfl rfl (regd_d _) rfl rfl rfl rfl rfl rfl) (by simp only [upd, za, zaa]; exact rfl) ?_
  refine zae ?_
  refine zat ?_
  refine dwp_hole ?_
  simp only [List.cons_append, List.nil_append]
  refine dwp_rf (FL := [(5, _)]) (st := .ready) (pe := none) [6, 4, 5, 3] [] [] 6 rfl rfl (ev1 rfl) rfl (subF_lk ⟨rfl, trivial⟩) rfl rfl rfl (rd_rise f) rfl rfl rfl rfl rfl rfl rfl (by simp) (fun e => ?_) (fun c e => ?_)
  · simp only [upd, za, zaa]
    refine zaf ?_
    refine zac ?_
    refine zab rfl rfl rfl (zad (.inl rfl) (ev1 rfl)) ?_
    refine zab rfl rfl rfl (op_nc rfl (ev1 rfl) (fun s v h => by cases h; exact ⟨_, rfl⟩)) ?_
    refine zab rfl rfl rfl (zap rfl fo101_0 (ev1 rfl)) ?_
    refine zab rfl rfl rfl (zap rfl fo29_2 (ev1 rfl)) ?_
    refine zax rfl rfl (op_st1 rfl tb22 (ev1 rfl) (ev1 rfl) rfl (by simp only [zao]; omega) (frC_wpr _)) (by simp only [upd, za, zaa]; exact rfl) ?_
    refine zae ?_
    refine zaf ?_
    refine zac ?_
    refine zab rfl rfl rfl (zad (.inl rfl) (ev1 rfl)) ?_
    refine zab rfl rfl rfl (op_nc rfl (ev1 rfl) (fun s v h => by cases h; exact ⟨_, rfl⟩)) ?_
    refine zab rfl rfl rfl (zap rfl fo101_0 (ev1 rfl)) ?_
    refine zab rfl rfl rfl (zas rfl tb29 (ev1 rfl) rfl (zao _)) ?_
    refine zax rfl rfl (op_stwa rfl tb29 (ev1 rfl) (ev1 rfl) rfl (zao _) (frC_oc _) rfl) (by simp only [upd, za, zaa]; exact rfl) ?_
    refine zax rfl rfl (op_stwi rfl tb34 (ev1 rfl) (ev1 rfl) rfl) (by simp only [upd, za, zaa]; exact rfl) ?_
    refine zae ?_
    refine zau ?_
    refine kdef (dturn_idle [2] [] rfl rfl (rise1_idle _) rfl rfl rfl rfl rfl) ?_
    refine kend0 (rs2 rfl (rv_w tb29 rfl rfl (zao _)) (rv_1 tb34 rfl rfl rfl)) rfl ?_
    rw [← risTo_end]
  · cases e
end Go.Proofs.YtnjnhghafjlmbaaGreat
namespace Go.Proofs.YtnjnhghafjlmbaaGreat
set_option linter.unusedVariables false
set_option linter.unusedSimpArgs false
open Go.RowKit
theorem un4 : Tryz.prog.underlying 4 = some .bool := by kernel_rfl
theorem ris_u (f : FrM) (hf : frB f = true) : DFun Tryz.prog 24 [.val (.agg (frC f).toArray)] [] (.tup [.val (.agg (frC (uF f)).toArray), .val (.int .i64 0)]) [] := ris_ok f hf
theorem folF_yes {f : FrM} {v : Vec} (hf : frB f = true) (h : (folF f v).2 = 0) : vB v = true ∧ readyB f v = true ∧ (folF f v).1 = ⟨f.pr, askV f, 0, f.st⟩ := by
  unfold folF at h ⊢
  rw [hf] at h ⊢
  cases hv : vB v
  · rw [hv] at h; simp at h
  · cases hr : readyB f v
    · rw [hv, hr] at h; simp at h
    · exact ⟨rfl, rfl, rfl⟩
theorem u3 {f : FrM} {v : Vec} (hf : frB f = true) (h : (folF f v).2 = 0) : ((decide (((folF f v).1.fo : Int) ≤ (f.fo : Int)) || (errOr (frB (folF f v).1) 280 != 0)) || decide (0 < ((waiF f v).length : Int))) = false := by
  obtain ⟨hv, hr, e⟩ := folF_yes hf h
  obtain ⟨h1, h2⟩ := folF_ok hf hr
  rw [e, h1]
  have hw : waiF f v = [] := by
    unfold waiF
    split
    · unfold readyB at hr
      rw [Bool.and_eq_true] at hr
      exact List.isEmpty_iff.1 hr.2
    · rfl
  rw [hw, natle, decide_eq_false (by show ¬ f.pr ≤ f.fo; omega)]
  rfl
theorem sit1 {g : FrM} (hg : frB g = true) (s : Int) : sitF g [s] = if inS g s = true then [s] else [] := by
  unfold sitF
  rw [hg]
  cases h : inS g s
  · simp [h]
  · simp [h]
theorem reg_cases {g : FrM} (hg : frB g = true) (s : Int) : (inS g s = false ∧ regF g s = (zF, 2)) ∨ (inS g s = true ∧ regF g s = (zF, 5)) ∨ (inS g s = false ∧ isS s = true ∧ regF g s = (g.sw s.toNat ⟨true, max g.fo g.pr, 0, z9⟩, 0)) := by
  unfold regF inS
  rw [hg]
  cases h1 : isS s
  · exact .inl ⟨rfl, rfl⟩
  · cases h2 : (g.st s.toNat).inn
    · exact .inr (.inr ⟨rfl, rfl, rfl⟩)
    · exact .inr (.inl ⟨rfl, rfl⟩)
theorem u4 {g : FrM} (hg : frB g = true) (s : Int) : (((regF g s).2 == 5) != (((sitF g [s]).length : Int) == 1)) = false := by
  rw [sit1 hg]
  rcases reg_cases hg s with ⟨h1, h2⟩ | ⟨h1, h2⟩ | ⟨h1, _, h2⟩ <;> rw [h1, h2] <;> rfl
theorem u5 {g : FrM} (hg : frB g = true) (hp : g.pr = 0) {s : Int} (h : (regF g s).2 = 0) : isS s = true ∧ frB (regF g s).1 = true ∧ (regF g s).1.pr = 0 ∧ (((sitF (regF g s).1 [s]).length : Int) != 1) = false ∧ ((((regF g s).1.st s.toNat).fl : Int) != (g.fo : Int)) = false := by
  rcases reg_cases hg s with ⟨h1, h2⟩ | ⟨h1, h2⟩ | ⟨h1, h3, h2⟩
  · rw [h2] at h; exact absurd h (by decide)
  · rw [h2] at h; exact absurd h (by decide)
  · have hb : frB (regF g s).1 = true := by rw [h2]; exact frB_sw hg (regF_ok hg h3)
    refine ⟨h3, hb, by rw [h2]; exact hp, ?_, ?_⟩
    · rw [sit1 hb, if_pos (by rw [h2]; unfold inS; rw [h3, sw_at]; rfl)]
      rfl
    · rw [h2, sw_at, hp]
      simp
set_option maxRecDepth 4000 in
set_option maxHeartbeats 1000000 in
theorem rises_no (f : FrM) (v : Vec) (s : List Int) (hf : frB f = false) : DFun Tryz.prog 8 [.val (.agg (frC f).toArray), .val (.agg (c9 v).toArray), .slf 1 (s).length ((s).flatMap inI)] [] (.val (.bool true)) [] := by
  refine zba (N := 158) 0 (by kernel_rfl) Tryz.func8 rfl rfl rfl (by simp only [fr0, Nat.zero_add, Nat.reduceAdd]; exact rfl) rfl fun s0 hs0 => ?_
  refine dwp_len (t := 2) rfl fun hl2 hL2 => ?_
  refine zaf ?_
  refine zaj 2 (by simp only [holes, List.cons_append, List.nil_append]; exact rfl) ?_
  refine zac ?_
  refine zam rfl rfl rfl (op_boxa 0 rfl (ev1 rfl) rfl) (by simp only [upd, za, zaa]; exact rfl) ?_
  refine zam rfl rfl rfl (op_boxa 1 rfl (ev1 rfl) rfl) (by simp only [upd, za, zaa]; exact rfl) ?_
  refine zab rfl rfl rfl (zad (.inr rfl) (ev1 rfl)) ?_
  refine zae ?_
  refine zaf ?_
  refine zaf ?_
  refine zac ?_
  refine zab rfl rfl rfl (zah [] [] [] rfl (ev1 rfl) en rfl rfl (wakes_d) rfl rfl rfl rfl rfl rfl) ?_
  refine zab rfl rfl rfl (op_not rfl (ev1 rfl)) ?_
  refine zae ?_
  refine dwp_if_f rfl (rfl) ?_
  refine zak ?_
  refine zaf ?_
  refine zaj 1 (by simp only [holes, List.cons_append, List.nil_append]; exact rfl) ?_
  refine zac ?_
  refine zab rfl rfl rfl (zas rfl tb29 (ev1 rfl) rfl (zao _)) ?_
  refine zab rfl rfl rfl (zah [] [] [] rfl (ev1 rfl) (ec (ev1 rfl) en) rfl rfl (ris_no f hf) rfl rfl rfl rfl rfl rfl) ?_
  refine zab rfl rfl rfl (zad (.inl rfl) (ev1 rfl)) ?_
  refine zab rfl rfl rfl (op_ext rfl (ev1 rfl) rfl) ?_
  refine zab rfl rfl rfl (op_ext rfl (ev1 rfl) rfl) ?_
  refine zam rfl rfl rfl (zaq 2 rfl zr29 rfl) (by simp only [upd, za, zaa]; exact rfl) ?_
  refine zax rfl rfl (op_stwa rfl tb29 (ev1 rfl) (ev1 rfl) rfl (zao _) (frC_oc _) rfl) (by simp only [upd, za, zaa]; exact rfl) ?_
  refine zab rfl rfl rfl (zad (.inr rfl) (ev1 rfl)) ?_
  refine zae ?_
  refine zaf ?_
  refine zaf ?_
  refine zac ?_
  refine zab rfl rfl rfl (zad (.inl rfl) (ev1 rfl)) ?_
  refine zab rfl rfl rfl (op_neq rfl (ev1 rfl) (ev1 rfl)) ?_
  refine zae ?_
  refine dwp_if_t rfl (rfl) ?_
  refine zaf ?_
  refine zac ?_
  refine zab rfl rfl rfl (zas rfl tb29 (ev1 rfl) rfl (zao _)) ?_
  refine zab rfl rfl rfl (op_build0 rfl fl29 zr29) ?_
  refine zab rfl rfl rfl (op_eqr eq29 rfl gd29 tb29 (ev1 rfl) (ev1 rfl)) ?_
  refine zab rfl rfl rfl (zad (.inl rfl) (ev1 rfl)) ?_
  refine zag (zar rfl rfl rfl) rfl rfl rfl (zas rfl tb29 (ev1 rfl) rfl (zao _)) ?_
  refine zag (zar rfl rfl rfl) rfl rfl rfl (zah [] [] [] rfl (ev1 rfl) (ec (ev2 rfl) en) rfl rfl (fCheck_d _) rfl rfl rfl rfl rfl rfl) ?_
  refine zag (zar rfl rfl rfl) rfl rfl rfl (zad (.inl rfl) (ev1 rfl)) ?_
  refine zag (zar rfl rfl rfl) rfl rfl rfl (zb rfl (ev2 rfl) (ev2 rfl)) ?_
  refine zab rfl rfl rfl (zaz rfl (ev1 rfl) (ev3 rfl id)) ?_
  refine zab rfl rfl rfl (zad (.inr rfl) (ev1 rfl)) ?_
  refine zae ?_
  refine zau ?_
  refine kend0 (rs1 rfl (rv_t rfl)) rfl ?_
  rw [hf, show eqF zF zF = true from eqF_refl _]
  rfl
set_option maxRecDepth 4000 in
set_option maxHeartbeats 1000000 in
theorem rises_ok (f : FrM) (v : Vec) (s : List Int) (hf : frB f = true) : DFun Tryz.prog 8 [.val (.agg (frC f).toArray), .val (.agg (c9 v).toArray), .slf 1 (s).length ((s).flatMap inI)] [] (.val (.bool true)) [] := by
  refine zba (N := 158) 0 (by kernel_rfl) Tryz.func8 rfl rfl rfl (by simp only [fr0, Nat.zero_add, Nat.reduceAdd]; exact rfl) rfl fun s0 hs0 => ?_
  refine dwp_len (t := 2) rfl fun hl2 hL2 => ?_
  refine zaf ?_
  refine zaj 2 (by simp only [holes, List.cons_append, List.nil_append]; exact rfl) ?_
  refine zac ?_
  refine zam rfl rfl rfl (op_boxa 0 rfl (ev1 rfl) rfl) (by simp only [upd, za, zaa]; exact rfl) ?_
  refine zam rfl rfl rfl (op_boxa 1 rfl (ev1 rfl) rfl) (by simp only [upd, za, zaa]; exact rfl) ?_
  refine zab rfl rfl rfl (zad (.inr rfl) (ev1 rfl)) ?_
  refine zae ?_
  refine zaf ?_
  refine zaf ?_
  refine zac ?_
  refine zab rfl rfl rfl (zah [] [] [] rfl (ev1 rfl) en rfl rfl (wakes_d) rfl rfl rfl rfl rfl rfl) ?_
  refine zab rfl rfl rfl (op_not rfl (ev1 rfl)) ?_
  refine zae ?_
  refine dwp_if_f rfl (rfl) ?_
  refine zak ?_
  refine zaf ?_
  refine zaj 1 (by simp only [holes, List.cons_append, List.nil_append]; exact rfl) ?_
  refine zac ?_
  refine zab rfl rfl rfl (zas rfl tb29 (ev1 rfl) rfl (zao _)) ?_
  refine zab rfl rfl rfl (zah [] [] [] rfl (ev1 rfl) (ec (ev1 rfl) en) rfl rfl (ris_u f hf) rfl rfl rfl rfl rfl rfl) ?_
  refine zab rfl rfl rfl (zad (.inl rfl) (ev1 rfl)) ?_
  refine zab rfl rfl rfl (op_ext rfl (ev1 rfl) rfl) ?_
  refine zab rfl rfl rfl (op_ext rfl (ev1 rfl) rfl) ?_
  refine zam rfl rfl rfl (zaq 2 rfl zr29 rfl) (by simp only [upd, za, zaa]; exact rfl) ?_
  refine zax rfl rfl (op_stwa rfl tb29 (ev1 rfl) (ev1 rfl) rfl (zao _) (frC_oc _) rfl) (by simp only [upd, za, zaa]; exact rfl) ?_
  refine zab rfl rfl rfl (zad (.inr rfl) (ev1 rfl)) ?_
  refine zae ?_
  refine zaf ?_
  refine zaf ?_
  refine zac ?_
  refine zab rfl rfl rfl (zad (.inl rfl) (ev1 rfl)) ?_
  refine zab rfl rfl rfl (op_neq rfl (ev1 rfl) (ev1 rfl)) ?_
  refine zae ?_
  refine dwp_if_f rfl (rfl) ?_
  refine zak ?_
  refine zaf ?_
  refine zaf ?_
  refine dwp_draw [([], []), ([2], []), ([], []), ([0], []), ([], []), ([], []), ([], []), ([2], []), ([], []), ([0], []), ([], []), ([], []), ([], []), ([], []), ([2], []), ([], []), ([], []), ([], []), ([2], []), ([], []), ([], []), ([], []), ([], []), ([2], []), ([], []), ([0], []), ([], []), ([], []), ([], []), ([], [])] mixed (by kernel_rfl) ?_
  refine lex_r rfl rfl (zap rfl fo29_0 (ev1 rfl)) ?_
  refine lex_r rfl rfl (op_ldo rfl tb22 (ev1 rfl) rfl rfl) ?_
  refine lex_r rfl rfl (zap rfl fo29_0 (ev1 rfl)) ?_
  refine lex_r rfl rfl (op_ldo rfl tb22 (ev1 rfl) rfl rfl) ?_
  refine lex_r rfl rfl (op_neq rfl (ev1 rfl) (ev1 rfl)) ?_
  refine lex_r rfl rfl (zad (.inl rfl) (ev1 rfl)) ?_
  refine lex_gr (zan rfl rfl rfl) rfl rfl (zap rfl fo29_1 (ev1 rfl)) ?_
  refine lex_gr (zan rfl rfl rfl) rfl rfl (op_ldr rfl tb24 (ev2 rfl) rfl (frC_bv _) rfl) ?_
  refine lex_gr (zan rfl rfl rfl) rfl rfl (zap rfl fo29_1 (ev1 rfl)) ?_
  refine lex_gr (zan rfl rfl rfl) rfl rfl (op_ldr rfl tb24 (ev2 rfl) rfl (frC_bv _) rfl) ?_
  refine lex_gr (zan rfl rfl rfl) rfl rfl (op_ner eq24 rfl gd24 tb24 (ev2 rfl) (ev2 rfl)) ?_
  refine lex_r rfl rfl (op_or rfl (ev1 rfl) (ev3 rfl id)) ?_
  refine lex_r rfl rfl (zad (.inl rfl) (ev1 rfl)) ?_
  refine lex_gr (zan rfl rfl rfl) rfl rfl (zap rfl fo29_2 (ev1 rfl)) ?_
  refine lex_gr (zan rfl rfl rfl) rfl rfl (op_ldo rfl tb22 (ev2 rfl) rfl (frC_pr _)) ?_
  refine lex_gr (zan rfl rfl rfl) rfl rfl (op_neq rfl (ev2 rfl) (ev1 rfl)) ?_
  refine lex_r rfl rfl (op_or rfl (ev1 rfl) (ev3 rfl id)) ?_
  refine lex_r rfl rfl (zad (.inl rfl) (ev1 rfl)) ?_
  refine lex_gr (zan rfl rfl rfl) rfl rfl (zas rfl tb29 (ev1 rfl) rfl (zao _)) ?_
  refine lex_gr (zan rfl rfl rfl) rfl rfl (zah [] [] [] rfl (ev1 rfl) (ec (ev2 rfl) en) rfl rfl (fCheck_d _) rfl rfl rfl rfl rfl rfl) ?_
  refine lex_gr (zan rfl rfl rfl) rfl rfl (op_neq rfl (ev2 rfl) (ev1 rfl)) ?_
  refine lex_r rfl rfl (op_or rfl (ev1 rfl) (ev3 rfl id)) ?_
  refine lex_r rfl rfl (zad (.inl rfl) (ev1 rfl)) ?_
  refine lex_gr (zan rfl rfl rfl) rfl rfl (zas rfl tb29 (ev1 rfl) rfl (zao _)) ?_
  refine lex_gr (zan rfl rfl rfl) rfl rfl (zah [] [] [] rfl (ev1 rfl) (ec (ev2 rfl) (ec (evnil 1 (ev1 rfl)) en)) rfl rfl (sit_d _ [] (by simp)) rfl rfl rfl rfl rfl rfl) ?_
  refine lex_gr (zan rfl rfl rfl) rfl rfl (zas rfl tb29 (ev1 rfl) rfl (zao _)) ?_
  refine lex_gr (zan rfl rfl rfl) rfl rfl (zah [] [] [] rfl (ev1 rfl) (ec (ev2 rfl) (ec (evnil 1 (ev1 rfl)) en)) rfl rfl (sit_d _ [] (by simp)) rfl rfl rfl rfl rfl rfl) ?_
  refine lex_gr (zan rfl rfl rfl) rfl rfl (zah [] [] [] rfl (ev1 rfl) (ec (ev2 rfl) (ec (ev2 rfl) en)) rfl rfl (equalI _ _) rfl rfl rfl rfl rfl rfl) ?_
  refine lex_gr (zan rfl rfl rfl) rfl rfl (op_not rfl (ev2 rfl)) ?_
  refine lex_r rfl rfl (op_or rfl (ev1 rfl) (ev3 rfl id)) ?_
  refine lex_nil ?_
  refine dwp_if_f rfl ((u1 hf)) ?_
  refine zak ?_
  refine zaf ?_
  refine zaf ?_
  refine zaj 1 (by simp only [holes, List.cons_append, List.nil_append]; exact rfl) ?_
  refine zac ?_
  refine zab rfl rfl rfl (zas rfl tb29 (ev1 rfl) rfl (zao _)) ?_
  refine zab rfl rfl rfl (zas rfl tb24 (ev1 rfl) rfl rfl) ?_
  refine zab rfl rfl rfl (zah [] [] [] rfl (ev1 rfl) (ec (ev1 rfl) (ec (ev1 rfl) en)) rfl rfl (rdy_d _ _) rfl rfl rfl rfl rfl rfl) ?_
  refine zab rfl rfl rfl (zad (.inl rfl) (ev1 rfl)) ?_
  refine zab rfl rfl rfl (op_ext rfl (ev1 rfl) rfl) ?_
  refine zab rfl rfl rfl (op_ext rfl (ev1 rfl) rfl) ?_
  refine zam rfl rfl rfl (zaq 3 rfl zr24 rfl) (by simp only [upd, za, zaa]; exact rfl) ?_
  refine zax rfl rfl (op_stwa rfl tb24 (ev1 rfl) (ev1 rfl) rfl rfl rfl rfl) (by simp only [upd, za, zaa]; exact rfl) ?_
  refine zab rfl rfl rfl (zad (.inr rfl) (ev1 rfl)) ?_
  refine zae ?_
  refine zaf ?_
  refine zac ?_
  refine zab rfl rfl rfl (zad (.inl rfl) (ev1 rfl)) ?_
  refine zab rfl rfl rfl (zad (.inl rfl) (ev1 rfl)) ?_
  refine zag (zan rfl rfl rfl) rfl rfl rfl (zas rfl tb29 (ev1 rfl) rfl (zao _)) ?_
  refine zag (zan rfl rfl rfl) rfl rfl rfl (zas rfl tb24 (ev1 rfl) rfl rfl) ?_
  refine zag (zan rfl rfl rfl) rfl rfl rfl (zah [] [] [] rfl (ev1 rfl) (ec (ev2 rfl) (ec (ev2 rfl) en)) rfl rfl (wai_d _ _) rfl rfl rfl rfl rfl rfl) ?_
  refine zag (zan rfl rfl rfl) rfl rfl rfl (op_len rfl sl31 (ev2 rfl)) ?_
  refine zag (zan rfl rfl rfl) rfl rfl rfl (op_gtr rfl (ev2 rfl) (ev1 rfl)) ?_
  refine zab rfl rfl rfl (op_or rfl (ev1 rfl) (ev3 rfl id)) ?_
  refine zae ?_
  refine dwp_if_f rfl ((u2 f v)) ?_
  refine zak ?_
  refine zaf ?_
  refine zaf ?_
  refine zaj 1 (by simp only [holes, List.cons_append, List.nil_append]; exact rfl) ?_
  refine zac ?_
  refine zab rfl rfl rfl (zas rfl tb29 (ev1 rfl) rfl (zao _)) ?_
  refine zab rfl rfl rfl (zas rfl tb24 (ev1 rfl) rfl rfl) ?_
  refine zab rfl rfl rfl (zah [] [] [] rfl (ev1 rfl) (ec (ev1 rfl) (ec (ev1 rfl) en)) rfl rfl (fol_d _ _) rfl rfl rfl rfl rfl rfl) ?_
  refine zab rfl rfl rfl (zad (.inl rfl) (ev1 rfl)) ?_
  refine zab rfl rfl rfl (op_ext rfl (ev1 rfl) rfl) ?_
  refine zab rfl rfl rfl (op_ext rfl (ev1 rfl) rfl) ?_
  refine zam rfl rfl rfl (zaq 4 rfl zr29 rfl) (by simp only [upd, za, zaa]; exact rfl) ?_
  refine zax rfl rfl (op_stwa rfl tb29 (ev1 rfl) (ev1 rfl) rfl (zao _) (frC_oc _) rfl) (by simp only [upd, za, zaa]; exact rfl) ?_
  refine zab rfl rfl rfl (zad (.inr rfl) (ev1 rfl)) ?_
  refine zae ?_
  refine zaf ?_
  refine zac ?_
  refine zab rfl rfl rfl (zad (.inl rfl) (ev1 rfl)) ?_
  refine zab rfl rfl rfl (zb rfl (ev1 rfl) (ev1 rfl)) ?_
  refine zae ?_
  refine zaw rfl (fun hfo => ?_) (fun hfo => ?_)
  · have hfo : (folF f v).2 = 0 := by simpa using hfo
    refine zaf ?_
    refine zac ?_
    refine zab rfl rfl rfl (zap rfl fo29_0 (ev1 rfl)) ?_
    refine zab rfl rfl rfl (op_ldo rfl tb22 (ev1 rfl) rfl rfl) ?_
    refine zab rfl rfl rfl (zap rfl fo29_0 (ev1 rfl)) ?_
    refine zab rfl rfl rfl (op_ldo rfl tb22 (ev1 rfl) rfl rfl) ?_
    refine zab rfl rfl rfl (op_leq rfl (ev1 rfl) (ev1 rfl)) ?_
    refine zab rfl rfl rfl (zad (.inl rfl) (ev1 rfl)) ?_
    refine zag (zan rfl rfl rfl) rfl rfl rfl (zas rfl tb29 (ev1 rfl) rfl (zao _)) ?_
    refine zag (zan rfl rfl rfl) rfl rfl rfl (zah [] [] [] rfl (ev1 rfl) (ec (ev2 rfl) en) rfl rfl (fCheck_d _) rfl rfl rfl rfl rfl rfl) ?_
    refine zag (zan rfl rfl rfl) rfl rfl rfl (op_neq rfl (ev2 rfl) (ev1 rfl)) ?_
    refine zab rfl rfl rfl (op_or rfl (ev1 rfl) (ev3 rfl id)) ?_
    refine zab rfl rfl rfl (zad (.inl rfl) (ev1 rfl)) ?_
    refine zag (zan rfl rfl rfl) rfl rfl rfl (zas rfl tb29 (ev1 rfl) rfl (zao _)) ?_
    refine zag (zan rfl rfl rfl) rfl rfl rfl (zas rfl tb24 (ev1 rfl) rfl rfl) ?_
    refine zag (zan rfl rfl rfl) rfl rfl rfl (zah [] [] [] rfl (ev1 rfl) (ec (ev2 rfl) (ec (ev2 rfl) en)) rfl rfl (wai_d _ _) rfl rfl rfl rfl rfl rfl) ?_
    refine zag (zan rfl rfl rfl) rfl rfl rfl (op_len rfl sl31 (ev2 rfl)) ?_
    refine zag (zan rfl rfl rfl) rfl rfl rfl (op_gtr rfl (ev2 rfl) (ev1 rfl)) ?_
    refine zab rfl rfl rfl (op_or rfl (ev1 rfl) (ev3 rfl id)) ?_
    refine zae ?_
    refine dwp_if_f rfl ((u3 hf hfo)) ?_
    refine zak ?_
    refine zaf ?_
    refine zaj 1 (by simp only [holes, List.cons_append, List.nil_append]; exact rfl) ?_
    refine zac ?_
    refine zab rfl rfl rfl (zas rfl tb29 (ev1 rfl) rfl (zao _)) ?_
    refine zam rfl rfl rfl (zaq 5 rfl zr29 rfl) (by simp only [upd, za, zaa]; exact rfl) ?_
    refine zax rfl rfl (op_stwa rfl tb29 (ev1 rfl) (ev1 rfl) rfl (zao _) (frC_oc _) rfl) (by simp only [upd, za, zaa]; exact rfl) ?_
    refine zae ?_
    refine zaf ?_
    refine zaf ?_
    refine zac ?_
    refine zab rfl rfl rfl (zad (.inl rfl) (ev1 rfl)) ?_
    refine zab rfl rfl rfl (op_len rfl sl31 (ev1 rfl)) ?_
    refine zab rfl rfl rfl (zad (.inl rfl) (ev1 rfl)) ?_
    refine zae ?_
    refine zat ?_
    refine dwp_loopS ⟨hs0, rfl⟩ (α := Nat × FrM) (fun x => [(109, .val (.int .i64 (x.1 : Int)))]) [(13, _), (107, _), (108, _)] (fun x => [(5, .flat 29 (frC x.2))]) [_, _, _, _, _, .hole] (fun x => x.1 ≤ s.length ∧ x.1 ≤ 9 ∧ frB x.2 = true ∧ x.2.pr = 0) (fun x => s.length - x.1) (0, uF f) [0, 1, 2, 3, 4, 5] (⟨by simp, by simp, uF_ok hf, rfl⟩) rfl ⟨rfl, rfl, rfl, trivial⟩ ⟨rfl, trivial⟩ ⟨rfl, rfl, rfl, rfl, rfl, rfl, trivial⟩ ?_
    intro x hx
    simp only [upd, za, zaa, List.cons_append, List.nil_append]
    obtain ⟨k, g⟩ := x
    obtain ⟨hk, hk9, hg, hp⟩ := hx
    dsimp only at hk hk9 hg hp ⊢
    refine zaf ?_
    refine zac ?_
    refine zab rfl rfl rfl (op_lss rfl (ev1 rfl) (ev1 rfl)) ?_
    refine zae ?_
    refine zaf ?_
    refine zaw rfl (fun c7 => ?_) (fun c7 => ?_)
    · try simp only [decide_eq_true_eq, decide_eq_false_iff_not, beq_iff_eq, bne_iff_ne, beq_eq_false_iff_ne, bne_eq_false_iff_eq, Bool.not_eq_true', Bool.not_eq_false', Bool.and_eq_true, Bool.or_eq_true, Bool.or_eq_false_iff, ne_eq, Decidable.not_not, Int.not_lt, Int.not_le] at c7
      refine zak ?_
      refine zaf ?_
      refine zat ?_
      refine zaf ?_
      refine zac ?_
      refine zab rfl rfl rfl (zad (.inl rfl) (ev1 rfl)) ?_
      refine zab rfl rfl rfl (op_ixsr (j := k) rfl sl31 (ev1 rfl) (ev1 rfl) (fun _ => rfl) (by decide) (by omega) (by omega)) ?_
      refine zab rfl rfl rfl (op_ldod rfl tb3 (ev1 rfl) rfl) ?_
      refine zab rfl rfl rfl (zad (.inr rfl) (ev1 rfl)) ?_
      refine zab rfl rfl rfl (zad (.inr rfl) (ev1 rfl)) ?_
      refine zae ?_
      refine zaf ?_
      refine zaf ?_
      refine zac ?_
      refine zab rfl rfl rfl (zad (.inl rfl) (ev1 rfl)) ?_
      refine zab rfl rfl rfl (zb rfl (ev1 rfl) (ev1 rfl)) ?_
      refine zae ?_
      refine zaw rfl (fun c8 => ?_) (fun c8 => ?_)
      · try simp only [decide_eq_true_eq, decide_eq_false_iff_not, beq_iff_eq, bne_iff_ne, beq_eq_false_iff_ne, bne_eq_false_iff_eq, Bool.not_eq_true', Bool.not_eq_false', Bool.and_eq_true, Bool.or_eq_true, Bool.or_eq_false_iff, ne_eq, Decidable.not_not, Int.not_lt, Int.not_le] at c8
        refine dwp_exit ?_
        refine zaf ?_
        refine zac ?_
        refine zab rfl rfl rfl (zad (.inr rfl) (ev1 rfl)) ?_
        refine zae ?_
        refine zau ?_
        refine kend0 (rs1 rfl (rv_t rfl)) rfl ?_
        rfl
      · try simp only [decide_eq_true_eq, decide_eq_false_iff_not, beq_iff_eq, bne_iff_ne, beq_eq_false_iff_ne, bne_eq_false_iff_eq, Bool.not_eq_true', Bool.not_eq_false', Bool.and_eq_true, Bool.or_eq_true, Bool.or_eq_false_iff, ne_eq, Decidable.not_not, Int.not_lt, Int.not_le] at c8
        refine zak ?_
        refine zaf ?_
        refine zac ?_
        refine zab rfl rfl rfl (zas rfl tb29 (ev1 rfl) rfl (zao _)) ?_
        refine zab rfl rfl rfl (zad (.inl rfl) (ev1 rfl)) ?_
        refine zab rfl rfl rfl (op_bs (ps := [(0, .tmp 117)]) rfl sl31 zr3 rfl (vc (ev1 rfl) vn) rfl (by decide) (by decide)) ?_
        refine zab rfl rfl rfl (zah [] [] [] rfl (ev1 rfl) (ec (ev1 rfl) (ec (ev1 rfl) en)) rfl rfl (sit_d _ [s[k]] (by simp)) rfl rfl rfl rfl rfl rfl) ?_
        refine zab rfl rfl rfl (op_len rfl sl31 (ev1 rfl)) ?_
        refine zab rfl rfl rfl (zad (.inr rfl) (ev1 rfl)) ?_
        refine zae ?_
        refine zaf ?_
        refine zaj 1 (by simp only [holes, List.cons_append, List.nil_append]; exact rfl) ?_
        refine zac ?_
        refine zab rfl rfl rfl (zas rfl tb29 (ev1 rfl) rfl (zao _)) ?_
        refine zab rfl rfl rfl (zad (.inl rfl) (ev1 rfl)) ?_
        refine zab rfl rfl rfl (zah [] [] [] rfl (ev1 rfl) (ec (ev1 rfl) (ec (ev1 rfl) en)) rfl rfl (reg_d _ _) rfl rfl rfl rfl rfl rfl) ?_
        refine zab rfl rfl rfl (zad (.inl rfl) (ev1 rfl)) ?_
        refine zab rfl rfl rfl (op_ext rfl (ev1 rfl) rfl) ?_
        refine zab rfl rfl rfl (op_ext rfl (ev1 rfl) rfl) ?_
        refine zam rfl rfl rfl (zaq 6 rfl zr29 rfl) (by simp only [upd, za, zaa]; exact rfl) ?_
        refine zax rfl rfl (op_stwa rfl tb29 (ev1 rfl) (ev1 rfl) rfl (zao _) (frC_oc _) rfl) (by simp only [upd, za, zaa]; exact rfl) ?_
        refine zab rfl rfl rfl (zad (.inr rfl) (ev1 rfl)) ?_
        refine zae ?_
        refine zaf ?_
        refine zaf ?_
        by_cases hok : (regF g s[k]).2 = 0
        · refine dwp_draw [([], []), ([], []), ([], []), ([], []), ([], []), ([], []), ([], []), ([], []), ([], []), ([6], []), ([], []), ([], []), ([], []), ([], []), ([], []), ([], []), ([], []), ([], []), ([], []), ([], []), ([6], []), ([], []), ([5], []), ([], []), ([], []), ([], []), ([], [])] mixed (by kernel_rfl) ?_
          refine lex_r rfl rfl (zad (.inl rfl) (ev1 rfl)) ?_
          refine lex_r rfl rfl (zb rfl (ev1 rfl) (ev1 rfl)) ?_
          refine lex_r rfl rfl (zad (.inl rfl) (ev1 rfl)) ?_
          refine lex_r rfl rfl (zb rfl (ev1 rfl) (ev1 rfl)) ?_
          refine lex_r rfl rfl ((op_neb rfl un4 (ev1 rfl) (ev1 rfl)).cast (d' := .val (.bool false)) (by rw [u4 hg s[k]])) ?_
          refine lex_r rfl rfl (zad (.inl rfl) (ev1 rfl)) ?_
          refine lex_k (zan (b := false) rfl rfl rfl) rfl rfl (zad (.inl rfl) (ev1 rfl)) rfl (by simp only [upd, za, zaa]; exact rfl) ?_
          refine lex_k (zan (b := false) rfl rfl rfl) rfl rfl ((zb rfl (ev2 rfl) (ev1 rfl)).cast (d' := .val (.bool true)) (by rw [hok]; rfl)) rfl (by simp only [upd, za, zaa]; exact rfl) ?_
          refine lex_k (zan (b := false) rfl rfl rfl) rfl rfl (zad (.inl rfl) (ev2 rfl)) rfl (by simp only [upd, za, zaa]; exact rfl) ?_
          refine lex_k (zay (g := true) (b := true) rfl rfl rfl) rfl rfl (zas rfl tb29 (ev1 rfl) rfl (zao _)) rfl (by simp only [upd, za, zaa]; exact rfl) ?_
          refine lex_k (zay (g := true) (b := true) rfl rfl rfl) rfl rfl (zad (.inl rfl) (ev1 rfl)) rfl (by simp only [upd, za, zaa]; exact rfl) ?_
          refine lex_k (zay (g := true) (b := true) rfl rfl rfl) rfl rfl (op_bs (ps := [(0, .tmp 137)]) rfl sl31 zr3 rfl (vc (ev2 rfl) vn) rfl (by decide) (by decide)) rfl (by simp only [upd, za, zaa]; exact rfl) ?_
          refine lex_k (zay (g := true) (b := true) rfl rfl rfl) rfl rfl (zah [] [] [] rfl (ev1 rfl) (ec (ev2 rfl) (ec (ev2 rfl) en)) rfl rfl (sit_d _ [s[k]] (by simp)) rfl rfl rfl rfl rfl rfl) rfl (by simp only [upd, za, zaa]; exact rfl) ?_
          refine lex_k (zay (g := true) (b := true) rfl rfl rfl) rfl rfl (op_len rfl sl31 (ev2 rfl)) rfl (by simp only [upd, za, zaa]; exact rfl) ?_
          refine lex_k (zay (g := true) (b := true) rfl rfl rfl) rfl rfl ((op_neq rfl (ev2 rfl) (ev1 rfl)).cast (d' := .val (.bool false)) (by rw [(u5 hg hp hok).2.2.2.1])) rfl (by simp only [upd, za, zaa]; exact rfl) ?_
          refine lex_k (zay (g := true) (b := true) rfl rfl rfl) rfl rfl (zad (.inl rfl) (ev2 rfl)) rfl (by simp only [upd, za, zaa]; exact rfl) ?_
          refine lex_k (gd_ff (g := true) (b := false) rfl rfl rfl) rfl rfl (zad (.inl rfl) (ev1 rfl)) rfl (by simp only [upd, za, zaa]; exact rfl) ?_
          refine lex_k (gd_ff (g := true) (b := false) rfl rfl rfl) rfl rfl (zap rfl fo29_3 (ev1 rfl)) rfl (by simp only [upd, za, zaa]; exact rfl) ?_
          refine lex_k (gd_ff (g := true) (b := false) rfl rfl rfl) rfl rfl (op_ixl rfl ar27 (ev2 rfl) (ev2 rfl) (fun _ => by have := isS_iff.1 (u5 hg hp hok).1; omega)) rfl (by simp only [upd, za, zaa]; exact rfl) ?_
          refine lex_k (gd_ff (g := true) (b := false) rfl rfl rfl) rfl rfl (zap rfl fo26_1 (ev2 rfl)) rfl (by simp only [upd, za, zaa]; exact rfl) ?_
          refine lex_k (gd_ff (g := true) (b := false) rfl rfl rfl) rfl rfl (op_ldo rfl tb22 (ev2 rfl) rfl (frC_flp (j := (s[k]).toNat) (by omega) (by have := isS_iff.1 (u5 hg hp hok).1; omega))) rfl (by simp only [upd, za, zaa]; exact rfl) ?_
          refine lex_k (gd_ff (g := true) (b := false) rfl rfl rfl) rfl rfl (zap rfl fo29_0 (ev1 rfl)) rfl (by simp only [upd, za, zaa]; exact rfl) ?_
          refine lex_k (gd_ff (g := true) (b := false) rfl rfl rfl) rfl rfl (op_ldo rfl tb22 (ev2 rfl) rfl rfl) rfl (by simp only [upd, za, zaa]; exact rfl) ?_
          refine lex_k (gd_ff (g := true) (b := false) rfl rfl rfl) rfl rfl ((op_neq rfl (ev2 rfl) (ev2 rfl)).cast (d' := .val (.bool false)) (by rw [(u5 hg hp hok).2.2.2.2])) rfl (by simp only [upd, za, zaa]; exact rfl) ?_
          refine lex_k (zay (g := true) (b := true) rfl rfl rfl) rfl rfl (op_or rfl (ev2 rfl) (ev3 rfl (fun _ => rfl))) rfl (by simp only [upd, za, zaa]; exact rfl) ?_
          refine lex_k (zan (b := false) rfl rfl rfl) rfl rfl (zaz rfl (ev2 rfl) (ev3 rfl (fun _ => rfl))) rfl (by simp only [upd, za, zaa]; exact rfl) ?_
          refine lex_r rfl rfl (op_or rfl (ev1 rfl) (ev3 rfl (fun _ => rfl))) ?_
          refine lex_nil ?_
          refine dwp_if_f rfl (rfl) ?_
          refine zak ?_
          refine zaf ?_
          have h5 := u5 hg hp hok
          refine zac ?_
          refine zab rfl rfl rfl (zad (.inl rfl) (ev1 rfl)) ?_
          refine zab rfl rfl rfl (zb rfl (ev1 rfl) (ev1 rfl)) ?_
          refine zae ?_
          refine dwp_if_t rfl (by rw [hok]; rfl) ?_
          refine zac ?_
          refine zab rfl rfl rfl (zas rfl tb29 (ev1 rfl) rfl (zao _)) ?_
          refine zax rfl rfl (op_stwa rfl tb29 (ev1 rfl) (ev1 rfl) rfl (zao _) (frC_oc _) rfl) (by simp only [upd, za, zaa]; exact rfl) ?_
          refine zae ?_
          refine zac ?_
          refine zab rfl rfl rfl (op_add' rfl (ev1 rfl) (ev1 rfl) (fun _ => IntWalk.i64_in _ (by omega))) ?_
          refine zab rfl rfl rfl (zad (.inl rfl) (ev1 rfl)) ?_
          refine zae ?_
          refine ⟨(k + 1, (regF g s[k]).1), [0, 1, 2, 3, 4, 5], ⟨by dsimp only; omega, by dsimp only; omega, h5.2.1, h5.2.2.1⟩, by simp only []; omega, rfl, ⟨rfl, rfl, rfl, rfl, trivial⟩, ⟨rfl, rfl, rfl, rfl, rfl, rfl, trivial⟩⟩
        · refine dwp_draw [([], []), ([], []), ([], []), ([], []), ([], []), ([], []), ([], []), ([], []), ([], []), ([], []), ([], []), ([], []), ([], []), ([], []), ([], []), ([], []), ([], []), ([], []), ([], []), ([], []), ([], []), ([], []), ([], []), ([], []), ([], []), ([], []), ([], [])] mixed (by kernel_rfl) ?_
          refine lex_r rfl rfl (zad (.inl rfl) (ev1 rfl)) ?_
          refine lex_r rfl rfl (zb rfl (ev1 rfl) (ev1 rfl)) ?_
          refine lex_r rfl rfl (zad (.inl rfl) (ev1 rfl)) ?_
          refine lex_r rfl rfl (zb rfl (ev1 rfl) (ev1 rfl)) ?_
          refine lex_r rfl rfl ((op_neb rfl un4 (ev1 rfl) (ev1 rfl)).cast (d' := .val (.bool false)) (by rw [u4 hg s[k]])) ?_
          refine lex_r rfl rfl (zad (.inl rfl) (ev1 rfl)) ?_
          refine lex_k (zan (b := false) rfl rfl rfl) rfl rfl (zad (.inl rfl) (ev1 rfl)) rfl (by simp only [upd, za, zaa]; exact rfl) ?_
          refine lex_k (zan (b := false) rfl rfl rfl) rfl rfl ((zb rfl (ev2 rfl) (ev1 rfl)).cast (d' := .val (.bool false)) (by rw [show ((regF g s[k]).2 == 0) = false by simpa using hok])) rfl (by simp only [upd, za, zaa]; exact rfl) ?_
          refine lex_k (zan (b := false) rfl rfl rfl) rfl rfl (zad (.inl rfl) (ev2 rfl)) rfl (by simp only [upd, za, zaa]; exact rfl) ?_
          refine lex_gr (zay (g := true) (b := false) rfl rfl rfl) rfl rfl (zal (d := .junk)) ?_
          refine lex_gr (zay (g := true) (b := false) rfl rfl rfl) rfl rfl (zal (d := .junk)) ?_
          refine lex_gr (zay (g := true) (b := false) rfl rfl rfl) rfl rfl (zal (d := .junk)) ?_
          refine lex_gr (zay (g := true) (b := false) rfl rfl rfl) rfl rfl (zal (d := .junk)) ?_
          refine lex_gr (zay (g := true) (b := false) rfl rfl rfl) rfl rfl (zal (d := .junk)) ?_
          refine lex_gr (zay (g := true) (b := false) rfl rfl rfl) rfl rfl (zal (d := .val (.bool false))) ?_
          refine lex_gr (zay (g := true) (b := false) rfl rfl rfl) rfl rfl (zal (d := .val (.bool false))) ?_
          refine lex_gr (gd_ff (g := false) (b := false) rfl rfl rfl) rfl rfl (zal (d := .junk)) ?_
          refine lex_gr (gd_ff (g := false) (b := false) rfl rfl rfl) rfl rfl (zal (d := .junk)) ?_
          refine lex_gr (gd_ff (g := false) (b := false) rfl rfl rfl) rfl rfl (zal (d := .junk)) ?_
          refine lex_gr (gd_ff (g := false) (b := false) rfl rfl rfl) rfl rfl (zal (d := .junk)) ?_
          refine lex_gr (gd_ff (g := false) (b := false) rfl rfl rfl) rfl rfl (zal (d := .junk)) ?_
          refine lex_gr (gd_ff (g := false) (b := false) rfl rfl rfl) rfl rfl (zal (d := .junk)) ?_
          refine lex_gr (gd_ff (g := false) (b := false) rfl rfl rfl) rfl rfl (zal (d := .junk)) ?_
          refine lex_gr (gd_ff (g := false) (b := false) rfl rfl rfl) rfl rfl (zal (d := .val (.bool false))) ?_
          refine lex_gr (zay (g := true) (b := false) rfl rfl rfl) rfl rfl (zal (d := .val (.bool false))) ?_
          refine lex_k (zan (b := false) rfl rfl rfl) rfl rfl (zaz rfl (ev2 rfl) (ev3 rfl id)) rfl (by simp only [upd, za, zaa]; exact rfl) ?_
          refine lex_r rfl rfl (op_or rfl (ev1 rfl) (ev3 rfl (fun _ => rfl))) ?_
          refine lex_nil ?_
          refine dwp_if_f rfl (rfl) ?_
          refine zak ?_
          refine zaf ?_
          refine zac ?_
          refine zab rfl rfl rfl (zad (.inl rfl) (ev1 rfl)) ?_
          refine zab rfl rfl rfl (zb rfl (ev1 rfl) (ev1 rfl)) ?_
          refine zae ?_
          refine dwp_if_f rfl (by simpa using hok) ?_
          refine zak ?_
          refine zac ?_
          refine zab rfl rfl rfl (op_add' rfl (ev1 rfl) (ev1 rfl) (fun _ => IntWalk.i64_in _ (by omega))) ?_
          refine zab rfl rfl rfl (zad (.inl rfl) (ev1 rfl)) ?_
          refine zae ?_
          refine ⟨(k + 1, g), [0, 1, 2, 3, 4, 5], ⟨by dsimp only; omega, by dsimp only; omega, hg, hp⟩, by simp only []; omega, rfl, ⟨rfl, rfl, rfl, rfl, trivial⟩, ⟨rfl, rfl, rfl, rfl, rfl, rfl, trivial⟩⟩
    · try simp only [decide_eq_true_eq, decide_eq_false_iff_not, beq_iff_eq, bne_iff_ne, beq_eq_false_iff_ne, bne_eq_false_iff_eq, Bool.not_eq_true', Bool.not_eq_false', Bool.and_eq_true, Bool.or_eq_true, Bool.or_eq_false_iff, ne_eq, Decidable.not_not, Int.not_lt, Int.not_le] at c7
      refine dwp_exit ?_
      refine zaf ?_
      refine zac ?_
      refine zab rfl rfl rfl (zad (.inr rfl) (ev1 rfl)) ?_
      refine zae ?_
      refine zau ?_
      refine kend0 (rs1 rfl (rv_t rfl)) rfl ?_
      rfl
  · refine zak ?_
    refine zaf ?_
    refine zaj 1 (by simp only [holes, List.cons_append, List.nil_append]; exact rfl) ?_
    refine zac ?_
    refine zab rfl rfl rfl (zas rfl tb29 (ev1 rfl) rfl (zao _)) ?_
    refine zam rfl rfl rfl (zaq 5 rfl zr29 rfl) (by simp only [upd, za, zaa]; exact rfl) ?_
    refine zax rfl rfl (op_stwa rfl tb29 (ev1 rfl) (ev1 rfl) rfl (zao _) (frC_oc _) rfl) (by simp only [upd, za, zaa]; exact rfl) ?_
    refine zae ?_
    refine zaf ?_
    refine zaf ?_
    refine zac ?_
    refine zab rfl rfl rfl (zad (.inl rfl) (ev1 rfl)) ?_
    refine zab rfl rfl rfl (op_len rfl sl31 (ev1 rfl)) ?_
    refine zab rfl rfl rfl (zad (.inl rfl) (ev1 rfl)) ?_
    refine zae ?_
    refine zat ?_
    refine dwp_loopS ⟨hs0, rfl⟩ (α := Nat × FrM) (fun x => [(109, .val (.int .i64 (x.1 : Int)))]) [(13, _), (107, _), (108, _)] (fun x => [(5, .flat 29 (frC x.2))]) [_, _, _, _, _, .hole] (fun x => x.1 ≤ s.length ∧ x.1 ≤ 9 ∧ frB x.2 = true ∧ x.2.pr = 0) (fun x => s.length - x.1) (0, uF f) [0, 1, 2, 3, 4, 5] (⟨by simp, by simp, uF_ok hf, rfl⟩) rfl ⟨rfl, rfl, rfl, trivial⟩ ⟨rfl, trivial⟩ ⟨rfl, rfl, rfl, rfl, rfl, rfl, trivial⟩ ?_
    intro x hx
    simp only [upd, za, zaa, List.cons_append, List.nil_append]
    obtain ⟨k, g⟩ := x
    obtain ⟨hk, hk9, hg, hp⟩ := hx
    dsimp only at hk hk9 hg hp ⊢
    refine zaf ?_
    refine zac ?_
    refine zab rfl rfl rfl (op_lss rfl (ev1 rfl) (ev1 rfl)) ?_
    refine zae ?_
    refine zaf ?_
    refine zaw rfl (fun c13 => ?_) (fun c13 => ?_)
    · try simp only [decide_eq_true_eq, decide_eq_false_iff_not, beq_iff_eq, bne_iff_ne, beq_eq_false_iff_ne, bne_eq_false_iff_eq, Bool.not_eq_true', Bool.not_eq_false', Bool.and_eq_true, Bool.or_eq_true, Bool.or_eq_false_iff, ne_eq, Decidable.not_not, Int.not_lt, Int.not_le] at c13
      refine zak ?_
      refine zaf ?_
      refine zat ?_
      refine zaf ?_
      refine zac ?_
      refine zab rfl rfl rfl (zad (.inl rfl) (ev1 rfl)) ?_
      refine zab rfl rfl rfl (op_ixsr (j := k) rfl sl31 (ev1 rfl) (ev1 rfl) (fun _ => rfl) (by decide) (by omega) (by omega)) ?_
      refine zab rfl rfl rfl (op_ldod rfl tb3 (ev1 rfl) rfl) ?_
      refine zab rfl rfl rfl (zad (.inr rfl) (ev1 rfl)) ?_
      refine zab rfl rfl rfl (zad (.inr rfl) (ev1 rfl)) ?_
      refine zae ?_
      refine zaf ?_
      refine zaf ?_
      refine zac ?_
      refine zab rfl rfl rfl (zad (.inl rfl) (ev1 rfl)) ?_
      refine zab rfl rfl rfl (zb rfl (ev1 rfl) (ev1 rfl)) ?_
      refine zae ?_
      refine zaw rfl (fun c14 => ?_) (fun c14 => ?_)
      · try simp only [decide_eq_true_eq, decide_eq_false_iff_not, beq_iff_eq, bne_iff_ne, beq_eq_false_iff_ne, bne_eq_false_iff_eq, Bool.not_eq_true', Bool.not_eq_false', Bool.and_eq_true, Bool.or_eq_true, Bool.or_eq_false_iff, ne_eq, Decidable.not_not, Int.not_lt, Int.not_le] at c14
        refine dwp_exit ?_
        refine zaf ?_
        refine zac ?_
        refine zab rfl rfl rfl (zad (.inr rfl) (ev1 rfl)) ?_
        refine zae ?_
        refine zau ?_
        refine kend0 (rs1 rfl (rv_t rfl)) rfl ?_
        rfl
      · try simp only [decide_eq_true_eq, decide_eq_false_iff_not, beq_iff_eq, bne_iff_ne, beq_eq_false_iff_ne, bne_eq_false_iff_eq, Bool.not_eq_true', Bool.not_eq_false', Bool.and_eq_true, Bool.or_eq_true, Bool.or_eq_false_iff, ne_eq, Decidable.not_not, Int.not_lt, Int.not_le] at c14
        refine zak ?_
        refine zaf ?_
        refine zac ?_
        refine zab rfl rfl rfl (zas rfl tb29 (ev1 rfl) rfl (zao _)) ?_
        refine zab rfl rfl rfl (zad (.inl rfl) (ev1 rfl)) ?_
        refine zab rfl rfl rfl (op_bs (ps := [(0, .tmp 117)]) rfl sl31 zr3 rfl (vc (ev1 rfl) vn) rfl (by decide) (by decide)) ?_
        refine zab rfl rfl rfl (zah [] [] [] rfl (ev1 rfl) (ec (ev1 rfl) (ec (ev1 rfl) en)) rfl rfl (sit_d _ [s[k]] (by simp)) rfl rfl rfl rfl rfl rfl) ?_
        refine zab rfl rfl rfl (op_len rfl sl31 (ev1 rfl)) ?_
        refine zab rfl rfl rfl (zad (.inr rfl) (ev1 rfl)) ?_
        refine zae ?_
        refine zaf ?_
        refine zaj 1 (by simp only [holes, List.cons_append, List.nil_append]; exact rfl) ?_
        refine zac ?_
        refine zab rfl rfl rfl (zas rfl tb29 (ev1 rfl) rfl (zao _)) ?_
        refine zab rfl rfl rfl (zad (.inl rfl) (ev1 rfl)) ?_
        refine zab rfl rfl rfl (zah [] [] [] rfl (ev1 rfl) (ec (ev1 rfl) (ec (ev1 rfl) en)) rfl rfl (reg_d _ _) rfl rfl rfl rfl rfl rfl) ?_
        refine zab rfl rfl rfl (zad (.inl rfl) (ev1 rfl)) ?_
        refine zab rfl rfl rfl (op_ext rfl (ev1 rfl) rfl) ?_
        refine zab rfl rfl rfl (op_ext rfl (ev1 rfl) rfl) ?_
        refine zam rfl rfl rfl (zaq 6 rfl zr29 rfl) (by simp only [upd, za, zaa]; exact rfl) ?_
        refine zax rfl rfl (op_stwa rfl tb29 (ev1 rfl) (ev1 rfl) rfl (zao _) (frC_oc _) rfl) (by simp only [upd, za, zaa]; exact rfl) ?_
        refine zab rfl rfl rfl (zad (.inr rfl) (ev1 rfl)) ?_
        refine zae ?_
        refine zaf ?_
        refine zaf ?_
        by_cases hok : (regF g s[k]).2 = 0
        · refine dwp_draw [([], []), ([], []), ([], []), ([], []), ([], []), ([], []), ([], []), ([], []), ([], []), ([6], []), ([], []), ([], []), ([], []), ([], []), ([], []), ([], []), ([], []), ([], []), ([], []), ([], []), ([6], []), ([], []), ([5], []), ([], []), ([], []), ([], []), ([], [])] mixed (by kernel_rfl) ?_
          refine lex_r rfl rfl (zad (.inl rfl) (ev1 rfl)) ?_
          refine lex_r rfl rfl (zb rfl (ev1 rfl) (ev1 rfl)) ?_
          refine lex_r rfl rfl (zad (.inl rfl) (ev1 rfl)) ?_
          refine lex_r rfl rfl (zb rfl (ev1 rfl) (ev1 rfl)) ?_
          refine lex_r rfl rfl ((op_neb rfl un4 (ev1 rfl) (ev1 rfl)).cast (d' := .val (.bool false)) (by rw [u4 hg s[k]])) ?_
          refine lex_r rfl rfl (zad (.inl rfl) (ev1 rfl)) ?_
          refine lex_k (zan (b := false) rfl rfl rfl) rfl rfl (zad (.inl rfl) (ev1 rfl)) rfl (by simp only [upd, za, zaa]; exact rfl) ?_
          refine lex_k (zan (b := false) rfl rfl rfl) rfl rfl ((zb rfl (ev2 rfl) (ev1 rfl)).cast (d' := .val (.bool true)) (by rw [hok]; rfl)) rfl (by simp only [upd, za, zaa]; exact rfl) ?_
          refine lex_k (zan (b := false) rfl rfl rfl) rfl rfl (zad (.inl rfl) (ev2 rfl)) rfl (by simp only [upd, za, zaa]; exact rfl) ?_
          refine lex_k (zay (g := true) (b := true) rfl rfl rfl) rfl rfl (zas rfl tb29 (ev1 rfl) rfl (zao _)) rfl (by simp only [upd, za, zaa]; exact rfl) ?_
          refine lex_k (zay (g := true) (b := true) rfl rfl rfl) rfl rfl (zad (.inl rfl) (ev1 rfl)) rfl (by simp only [upd, za, zaa]; exact rfl) ?_
          refine lex_k (zay (g := true) (b := true) rfl rfl rfl) rfl rfl (op_bs (ps := [(0, .tmp 137)]) rfl sl31 zr3 rfl (vc (ev2 rfl) vn) rfl (by decide) (by decide)) rfl (by simp only [upd, za, zaa]; exact rfl) ?_
          refine lex_k (zay (g := true) (b := true) rfl rfl rfl) rfl rfl (zah [] [] [] rfl (ev1 rfl) (ec (ev2 rfl) (ec (ev2 rfl) en)) rfl rfl (sit_d _ [s[k]] (by simp)) rfl rfl rfl rfl rfl rfl) rfl (by simp only [upd, za, zaa]; exact rfl) ?_
          refine lex_k (zay (g := true) (b := true) rfl rfl rfl) rfl rfl (op_len rfl sl31 (ev2 rfl)) rfl (by simp only [upd, za, zaa]; exact rfl) ?_
          refine lex_k (zay (g := true) (b := true) rfl rfl rfl) rfl rfl ((op_neq rfl (ev2 rfl) (ev1 rfl)).cast (d' := .val (.bool false)) (by rw [(u5 hg hp hok).2.2.2.1])) rfl (by simp only [upd, za, zaa]; exact rfl) ?_
          refine lex_k (zay (g := true) (b := true) rfl rfl rfl) rfl rfl (zad (.inl rfl) (ev2 rfl)) rfl (by simp only [upd, za, zaa]; exact rfl) ?_
          refine lex_k (gd_ff (g := true) (b := false) rfl rfl rfl) rfl rfl (zad (.inl rfl) (ev1 rfl)) rfl (by simp only [upd, za, zaa]; exact rfl) ?_
          refine lex_k (gd_ff (g := true) (b := false) rfl rfl rfl) rfl rfl (zap rfl fo29_3 (ev1 rfl)) rfl (by simp only [upd, za, zaa]; exact rfl) ?_
          refine lex_k (gd_ff (g := true) (b := false) rfl rfl rfl) rfl rfl (op_ixl rfl ar27 (ev2 rfl) (ev2 rfl) (fun _ => by have := isS_iff.1 (u5 hg hp hok).1; omega)) rfl (by simp only [upd, za, zaa]; exact rfl) ?_
          refine lex_k (gd_ff (g := true) (b := false) rfl rfl rfl) rfl rfl (zap rfl fo26_1 (ev2 rfl)) rfl (by simp only [upd, za, zaa]; exact rfl) ?_
          refine lex_k (gd_ff (g := true) (b := false) rfl rfl rfl) rfl rfl (op_ldo rfl tb22 (ev2 rfl) rfl (frC_flp (j := (s[k]).toNat) (by omega) (by have := isS_iff.1 (u5 hg hp hok).1; omega))) rfl (by simp only [upd, za, zaa]; exact rfl) ?_
          refine lex_k (gd_ff (g := true) (b := false) rfl rfl rfl) rfl rfl (zap rfl fo29_0 (ev1 rfl)) rfl (by simp only [upd, za, zaa]; exact rfl) ?_
          refine lex_k (gd_ff (g := true) (b := false) rfl rfl rfl) rfl rfl (op_ldo rfl tb22 (ev2 rfl) rfl rfl) rfl (by simp only [upd, za, zaa]; exact rfl) ?_
          refine lex_k (gd_ff (g := true) (b := false) rfl rfl rfl) rfl rfl ((op_neq rfl (ev2 rfl) (ev2 rfl)).cast (d' := .val (.bool false)) (by rw [(u5 hg hp hok).2.2.2.2])) rfl (by simp only [upd, za, zaa]; exact rfl) ?_
          refine lex_k (zay (g := true) (b := true) rfl rfl rfl) rfl rfl (op_or rfl (ev2 rfl) (ev3 rfl (fun _ => rfl))) rfl (by simp only [upd, za, zaa]; exact rfl) ?_
          refine lex_k (zan (b := false) rfl rfl rfl) rfl rfl (zaz rfl (ev2 rfl) (ev3 rfl (fun _ => rfl))) rfl (by simp only [upd, za, zaa]; exact rfl) ?_
          refine lex_r rfl rfl (op_or rfl (ev1 rfl) (ev3 rfl (fun _ => rfl))) ?_
          refine lex_nil ?_
          refine dwp_if_f rfl (rfl) ?_
          refine zak ?_
          refine zaf ?_
          have h5 := u5 hg hp hok
          refine zac ?_
          refine zab rfl rfl rfl (zad (.inl rfl) (ev1 rfl)) ?_
          refine zab rfl rfl rfl (zb rfl (ev1 rfl) (ev1 rfl)) ?_
          refine zae ?_
          refine dwp_if_t rfl (by rw [hok]; rfl) ?_
          refine zac ?_
          refine zab rfl rfl rfl (zas rfl tb29 (ev1 rfl) rfl (zao _)) ?_
          refine zax rfl rfl (op_stwa rfl tb29 (ev1 rfl) (ev1 rfl) rfl (zao _) (frC_oc _) rfl) (by simp only [upd, za, zaa]; exact rfl) ?_
          refine zae ?_
          refine zac ?_
          refine zab rfl rfl rfl (op_add' rfl (ev1 rfl) (ev1 rfl) (fun _ => IntWalk.i64_in _ (by omega))) ?_
          refine zab rfl rfl rfl (zad (.inl rfl) (ev1 rfl)) ?_
          refine zae ?_
          refine ⟨(k + 1, (regF g s[k]).1), [0, 1, 2, 3, 4, 5], ⟨by dsimp only; omega, by dsimp only; omega, h5.2.1, h5.2.2.1⟩, by simp only []; omega, rfl, ⟨rfl, rfl, rfl, rfl, trivial⟩, ⟨rfl, rfl, rfl, rfl, rfl, rfl, trivial⟩⟩
        · refine dwp_draw [([], []), ([], []), ([], []), ([], []), ([], []), ([], []), ([], []), ([], []), ([], []), ([], []), ([], []), ([], []), ([], []), ([], []), ([], []), ([], []), ([], []), ([], []), ([], []), ([], []), ([], []), ([], []), ([], []), ([], []), ([], []), ([], []), ([], [])] mixed (by kernel_rfl) ?_
          refine lex_r rfl rfl (zad (.inl rfl) (ev1 rfl)) ?_
          refine lex_r rfl rfl (zb rfl (ev1 rfl) (ev1 rfl)) ?_
          refine lex_r rfl rfl (zad (.inl rfl) (ev1 rfl)) ?_
          refine lex_r rfl rfl (zb rfl (ev1 rfl) (ev1 rfl)) ?_
          refine lex_r rfl rfl ((op_neb rfl un4 (ev1 rfl) (ev1 rfl)).cast (d' := .val (.bool false)) (by rw [u4 hg s[k]])) ?_
          refine lex_r rfl rfl (zad (.inl rfl) (ev1 rfl)) ?_
          refine lex_k (zan (b := false) rfl rfl rfl) rfl rfl (zad (.inl rfl) (ev1 rfl)) rfl (by simp only [upd, za, zaa]; exact rfl) ?_
          refine lex_k (zan (b := false) rfl rfl rfl) rfl rfl ((zb rfl (ev2 rfl) (ev1 rfl)).cast (d' := .val (.bool false)) (by rw [show ((regF g s[k]).2 == 0) = false by simpa using hok])) rfl (by simp only [upd, za, zaa]; exact rfl) ?_
          refine lex_k (zan (b := false) rfl rfl rfl) rfl rfl (zad (.inl rfl) (ev2 rfl)) rfl (by simp only [upd, za, zaa]; exact rfl) ?_
          refine lex_gr (zay (g := true) (b := false) rfl rfl rfl) rfl rfl (zal (d := .junk)) ?_
          refine lex_gr (zay (g := true) (b := false) rfl rfl rfl) rfl rfl (zal (d := .junk)) ?_
          refine lex_gr (zay (g := true) (b := false) rfl rfl rfl) rfl rfl (zal (d := .junk)) ?_
          refine lex_gr (zay (g := true) (b := false) rfl rfl rfl) rfl rfl (zal (d := .junk)) ?_
          refine lex_gr (zay (g := true) (b := false) rfl rfl rfl) rfl rfl (zal (d := .junk)) ?_
          refine lex_gr (zay (g := true) (b := false) rfl rfl rfl) rfl rfl (zal (d := .val (.bool false))) ?_
          refine lex_gr (zay (g := true) (b := false) rfl rfl rfl) rfl rfl (zal (d := .val (.bool false))) ?_
          refine lex_gr (gd_ff (g := false) (b := false) rfl rfl rfl) rfl rfl (zal (d := .junk)) ?_
          refine lex_gr (gd_ff (g := false) (b := false) rfl rfl rfl) rfl rfl (zal (d := .junk)) ?_
          refine lex_gr (gd_ff (g := false) (b := false) rfl rfl rfl) rfl rfl (zal (d := .junk)) ?_
          refine lex_gr (gd_ff (g := false) (b := false) rfl rfl rfl) rfl rfl (zal (d := .junk)) ?_
          refine lex_gr (gd_ff (g := false) (b := false) rfl rfl rfl) rfl rfl (zal (d := .junk)) ?_
          refine lex_gr (gd_ff (g := false) (b := false) rfl rfl rfl) rfl rfl (zal (d := .junk)) ?_
          refine lex_gr (gd_ff (g := false) (b := false) rfl rfl rfl) rfl rfl (zal (d := .junk)) ?_
          refine lex_gr (gd_ff (g := false) (b := false) rfl rfl rfl) rfl rfl (zal (d := .val (.bool false))) ?_
          refine lex_gr (zay (g := true) (b := false) rfl rfl rfl) rfl rfl (zal (d := .val (.bool false))) ?_
          refine lex_k (zan (b := false) rfl rfl rfl) rfl rfl (zaz rfl (ev2 rfl) (ev3 rfl id)) rfl (by simp only [upd, za, zaa]; exact rfl) ?_
          refine lex_r rfl rfl (op_or rfl (ev1 rfl) (ev3 rfl (fun _ => rfl))) ?_
          refine lex_nil ?_
          refine dwp_if_f rfl (rfl) ?_
          refine zak ?_
          refine zaf ?_
          refine zac ?_
          refine zab rfl rfl rfl (zad (.inl rfl) (ev1 rfl)) ?_
          refine zab rfl rfl rfl (zb rfl (ev1 rfl) (ev1 rfl)) ?_
          refine zae ?_
          refine dwp_if_f rfl (by simpa using hok) ?_
          refine zak ?_
          refine zac ?_
          refine zab rfl rfl rfl (op_add' rfl (ev1 rfl) (ev1 rfl) (fun _ => IntWalk.i64_in _ (by omega))) ?_
          refine zab rfl rfl rfl (zad (.inl rfl) (ev1 rfl)) ?_
          refine zae ?_
          refine ⟨(k + 1, g), [0, 1, 2, 3, 4, 5], ⟨by dsimp only; omega, by dsimp only; omega, hg, hp⟩, by simp only []; omega, rfl, ⟨rfl, rfl, rfl, rfl, trivial⟩, ⟨rfl, rfl, rfl, rfl, rfl, rfl, trivial⟩⟩
    · try simp only [decide_eq_true_eq, decide_eq_false_iff_not, beq_iff_eq, bne_iff_ne, beq_eq_false_iff_ne, bne_eq_false_iff_eq, Bool.not_eq_true', Bool.not_eq_false', Bool.and_eq_true, Bool.or_eq_true, Bool.or_eq_false_iff, ne_eq, Decidable.not_not, Int.not_lt, Int.not_le] at c13
      refine dwp_exit ?_
      refine zaf ?_
      refine zac ?_
      refine zab rfl rfl rfl (zad (.inr rfl) (ev1 rfl)) ?_
      refine zae ?_
      refine zau ?_
      refine kend0 (rs1 rfl (rv_t rfl)) rfl ?_
      rfl
theorem rises_d (f : FrM) (v : Vec) (s : List Int) : DFun Tryz.prog 8 [.val (.agg (frC f).toArray), .val (.agg (c9 v).toArray), .slf 1 (s).length ((s).flatMap inI)] [] (.val (.bool true)) [] := by
  cases hf : frB f
  · exact rises_no f v s hf
  · exact rises_ok f v s hf
end Go.Proofs.YtnjnhghafjlmbaaGreat
namespace Go.Proofs.YtnjnhghafjlmbaaGreat
set_option linter.unusedVariables false
set_option linter.unusedSimpArgs false
open Go.RowKit
open Go.ChangeShapes Go.WideShapes Go.ChangeAt Go.Joins Go.Deep
theorem fits_i64 : ∀ cs, fitsP [.int .i64] cs → ∃ a : Int, (-9223372036854775808 ≤ a ∧ a ≤ 9223372036854775807) ∧ cs = inI a
  | [c0], h => by
    obtain ⟨h0, _⟩ := h
    obtain ⟨a, w, rfl⟩ := fits_prim_i64 h0
    exact ⟨a, w, rfl⟩
  | [], h => by cases h
  | _ :: _ :: _, h => by obtain ⟨_, h⟩ := h; cases h
end Go.Proofs.YtnjnhghafjlmbaaGreat
