/- Memory that stays from now on, within a call; arrays as rows of elements; parts of arrays; What is known of a value, told otherwise: nil slices as rows of nothing, plain structs as lists of cells; Arrays of words that are values, read at a place; cells at a place that is not known; what types are; numbers of sites: which may be; Rows of operations, and vectors, as bytes; Vectors, as bytes; Fields one by one; bytes of numbers; what is taken, step by step; laying: ids, vectors, operations; laying: operations, and rows of them; taking: vectors, operations; taking: rows of operations; what each function takes; taking from the front of bytes; the law of the bytes that were read. No condition. -/
import Derived.Test.YtmacjicebemgoaaGreatQ7
import Derived.Test.YtmacjicebemgoaaGreatRows
namespace Go.Proofs.YtmacjicebemgoaaGreat
set_option linter.unusedVariables false
set_option linter.unusedSimpArgs false
open Go.RowKit
section
variable {P : Program} {s0 : St} {n : Cx}
end
section
variable {P : Program} {pc : Bool} {o : Oper} {F : Fr} {M : List Blk} {T T' : TypeId} {x y : Operand} {i n sz : Nat} {k : IntKind} {z : Int} {α : Type} {en : α → List Value} {l : List α} {j : Nat}
/-- a part of an array that stays -/
theorem op_slad {lo hi : Option Operand} {lz hz : Int} {p q : Nat} (ho : o.op = .slice T x lo hi none) (hT : arE P T = some (n, sz)) (hx : Ev pc F x (.dpf (l.flatMap en))) (hlo : Bd pc F lo 0 lz) (hhi : Bd pc F hi n hz) (hp' : pc = true → lz = (p : Int)) (hq : pc = true → hz = (q : Int)) (hb : pc = true → p ≤ q ∧ q ≤ n) (hl : l.length = n) (hn : n ≤ maxLen) (hen : ∀ a, (en a).length = sz) :
    DOp P pc o F M [] (.slf sz ((l.drop p).take (q - p)).length (((l.drop p).take (q - p)).flatMap en)) [] := by
  intro hp a s hok hops _
  obtain ⟨b1, b2⟩ := hb hp
  have hr := ev_at hp hx (by simp [ho, Op.operands]) hops
  have hlo' := bd_at hp hlo (fun u e => by subst e; simp [ho, Op.operands]) hops
  have hhi' := bd_at hp hhi (fun u e => by subst e; simp [ho, Op.operands]) hops
  rw [hp' hp] at hlo'
  rw [hq hp] at hhi'
  obtain ⟨e, i, e1, e2, e3⟩ := arE_spec hT
  have hlen : ((l.drop p).take (q - p)).length = q - p := by rw [List.length_take, List.length_drop]; omega
  generalize hv : a.eval x = vx at hr
  cases hr with
  | @dpf b off _ hI hc =>
    have sb : ∀ (k : IntKind) (z : Nat) (m : Nat) (cd : BoundsCode), z ≤ m → (Instr.sliceBound (.int k z) m cd).run P s.w = .ok z s.w := fun k z m cd b => by
      simp [Instr.sliceBound, asIntOf, b]
    have hbs : (Instr.sliceBounds false n n (lo.map a.eval) (hi.map a.eval) none).run P s.w = .ok (p, q, n) s.w := by
      rcases hlo' with ⟨q1, q3⟩ | ⟨kl, q1⟩ <;> rcases hhi' with ⟨q2, q4⟩ | ⟨kh, q2⟩ <;> rw [q1, q2]
      · have g1 : p = 0 := by omega
        have g2 : q = n := by omega
        simp [Instr.sliceBounds, g1, g2]
      · have g1 : p = 0 := by omega
        simp [Instr.sliceBounds, g1, sb kh q n _ b2]
      · have g2 : q = n := by omega
        simp [Instr.sliceBounds, g2, sb kl p n _ (by omega)]
      · simp [Instr.sliceBounds, sb kh q n _ b2, sb kl p q _ b1]
    have hrun : (execOp a.eval o).run P s.w = .ok (.value (.slice (some (if n = p then ⟨b, off, none⟩ else (⟨b, off, none⟩ : Addr).add (p * sz))) (q - p) (n - p))) s.w := by
      unfold execOp
      simp only [ho, hv]
      refine run_v ?_
      simp [Instr.sliceAt, Instr.sureAddr, run_underlying e1, Sem.run_bind, hbs, sizeOf, typeInfo, e2, e3]
    refine dg_val hok hrun ?_
    rw [hlen]
    have hpart : ((l.drop p).take (q - p)).flatMap en = ((l.flatMap en).drop (p * sz)).take ((q - p) * sz) := by rw [flat_drop hen, flat_take hen]
    rw [hpart]
    refine .slf (by rw [← hpart, flat_len hen, hlen]) (by omega) (by omega) (fun e => by cases e) ?_
    by_cases hz0 : q - p = 0
    · left; rw [hz0]; simp
    · right
      rw [if_neg (by omega)]
      exact ⟨b, off + p * sz, by rw [addr_lit], hI, cellsAt_sub hc _ _⟩
end
section
variable {P : Program} {pc : Bool} {o : Oper} {F : Fr} {M : List Blk}
/-- an array of zeros -/
theorem op_build0a {T : TypeId} {q : Nat × Nat} {Z : List Value} (ho : o.op = .build T #[]) (hT : arE P T = some q) (hZ : zrC P T = some Z) : DOp P pc o F M [] (.val (.agg Z.toArray)) [] := by
  intro hp a s hok hops _
  obtain ⟨i, z, e1, e2, e3⟩ := zrC_spec hZ
  obtain ⟨e, i', h1, h2, h3⟩ := arE_spec (n := q.1) (sz := q.2) hT
  refine dg_val (v := .agg Z.toArray) hok ?_ (.val _)
  have hz0 : (zeroValue T).run P s.w = .ok z s.w := by simp [zeroValue, typeInfo, e1, e2]
  have hz1 : z.cells = Z.toArray := by rw [← e3]
  unfold execOp
  simp only [ho]
  refine run_v ?_
  simp [Instr.build, Sem.run_bind, hz0, run_underlying h1, sizeOf, typeInfo, h2, Instr.fill, hz1]
end
section
variable {P : Program} {s0 : St} {n : Cx}
end
end Go.Proofs.YtmacjicebemgoaaGreat
namespace Go.Proofs.YtmacjicebemgoaaGreat
set_option linter.unusedVariables false
set_option linter.unusedSimpArgs false
open Go.RowKit
theorem Wk.of_eq {d d' : D} (h : d = d') : Wk d d' := h ▸ Wk.refl d
section
variable {P : Program} {s0 : St} {n : Cx}
/-- .. of what a slot holds -/
theorem dwp_wk {c : Code} {F : Fr} {M : List Blk} {K : Cont} {d d' : D} (t : Nat) (ht : lk F t = some d) (hw : Wk d d') (h : dwp P s0 n c ((t, d') :: F) M K) : dwp P s0 n c F M K := by
  intro a w hi
  refine h a w ?_
  obtain ⟨h0, s, h1, h2, h3, h4, h5, h6⟩ := hi
  refine ⟨h0, s, h1, h2, h3, fun x e he => ?_, h5, h6⟩
  rw [lk_cons] at he
  split at he
  · rename_i e'
    subst e'
    obtain rfl := Option.some.inj he
    exact hw s _ (h4 t _ ht)
  · exact h4 x e he
end
section
variable {P : Program} {pc : Bool} {o : Oper} {F : Fr} {M : List Blk} {T : TypeId} {x : Operand}
end
end Go.Proofs.YtmacjicebemgoaaGreat
namespace Go.Proofs.YtmacjicebemgoaaGreat
set_option linter.unusedVariables false
set_option linter.unusedSimpArgs false
open Go.RowKit
section
variable {P : Program} {pc : Bool} {o : Oper} {F : Fr} {M : List Blk} {T : TypeId} {x y : Operand} {k : IntKind} {z : Int} {n : Nat}
/-- an array of single cells, at a place -/
theorem op_ixu {L : List Value} {v : Value} (j : Nat) (ho : o.op = .index T x y) (hT : arW P T = some n) (hx : Ev pc F x (.val (.agg L.toArray))) (hy : Ev pc F y (.val (.int k z))) (hz : pc = true → z = (j : Int)) (hj : j < n) (hd : L[j]? = some v) : DOp P pc o F M [] (.val v) [] :=
  op_ixw (ds := L.map D.val) j ho hT (evwk hx (Wk.vagg L)) hy hz hj (by rw [List.getElem?_map, hd]; rfl)
end
end Go.Proofs.YtmacjicebemgoaaGreat
namespace Go.Proofs.YtmacjicebemgoaaGreat
set_option linter.unusedVariables false
set_option linter.unusedSimpArgs false
open Go.RowKit
theorem lt9 {P : Nat → Prop} (h0 : P 0) (h1 : P 1) (h2 : P 2) (h3 : P 3) (h4 : P 4) (h5 : P 5) (h6 : P 6) (h7 : P 7) (h8 : P 8) : ∀ j, j < 9 → P j
  | 0, _ => h0 | 1, _ => h1 | 2, _ => h2 | 3, _ => h3 | 4, _ => h4 | 5, _ => h5 | 6, _ => h6 | 7, _ => h7 | 8, _ => h8
  | n + 9, h => absurd h (by omega)
theorem c9_len (v : Vec) : (c9 v).length = 9 := rfl
theorem c9_at (v : Vec) : ∀ j, j < 9 → (c9 v)[j]? = some (.int .u64 (v j)) := lt9 rfl rfl rfl rfl rfl rfl rfl rfl rfl
theorem c9_set (v : Vec) (x : Nat) : ∀ j, j < 9 → (c9 v).set j (.int .u64 x) = c9 (upV v j x) := lt9 rfl rfl rfl rfl rfl rfl rfl rfl rfl
def eqV (v w : Vec) : Bool := (List.range 9).all fun i => v i == w i
theorem all9 {P : Nat → Bool} : (List.range 9).all P = true ↔ ∀ i, i < 9 → P i = true := by
  simp
theorem vB_iff {v : Vec} : vB v = true ↔ v 0 = 0 ∧ ∀ i, i < 9 → v i ≤ LAST := by
  unfold vB
  rw [Bool.and_eq_true, all9]
  simp
def vOne (v : Vec) (i : Nat) : Prop := v i ≤ 4611686018427387904 ∧ (i = 0 → v i = 0)
theorem vB_all {v : Vec} : vB v = true ↔ ∀ i, i < 9 → vOne v i := by
  rw [vB_iff]
  constructor
  · intro h i hi
    exact ⟨h.2 i hi, fun e => by rw [e]; exact h.1⟩
  · intro h
    exact ⟨(h 0 (by omega)).2 rfl, fun i hi => (h i hi).1⟩
theorem vB_no {v : Vec} {i : Nat} (hi : i < 9) (h : ¬ vOne v i) : vB v = false := by
  rw [← Bool.not_eq_true, vB_all]
  exact fun e => h (e i hi)
theorem vOne_step {v : Vec} {k : Nat} (h : ∀ i, i < k → vOne v i) (hk : vOne v k) : ∀ i, i < k + 1 → vOne v i := fun i hi => by
  by_cases e : i = k
  · rw [e]; exact hk
  · exact h i (by omega)
theorem vB_eq0 {v : Vec} (h : ∀ i, i < 9 → v i = 0) : vB v = true := vB_all.2 fun i hi => ⟨by rw [h i hi]; omega, fun _ => h i hi⟩
theorem c9_setp {v : Vec} {x p j : Nat} (hp : p = j) (hj : j < 9) : (c9 v).set p (.int .u64 x) = c9 (upV v j x) := by rw [hp]; exact c9_set v x j hj
def eqn (a b : Nat) : Bool := (a : Int) == (b : Int)
theorem eqn_eq (a b : Nat) : eqn a b = (a == b) := by
  unfold eqn
  rw [Bool.eq_iff_iff]
  simp
  omega
def eqVx (v w : Vec) : Bool := eqn (v 0) (w 0) && (eqn (v 1) (w 1) && (eqn (v 2) (w 2) && (eqn (v 3) (w 3) && (eqn (v 4) (w 4) && (eqn (v 5) (w 5) && (eqn (v 6) (w 6) && (eqn (v 7) (w 7) && (eqn (v 8) (w 8) && true))))))))
theorem eqVx_eq (v w : Vec) : eqVx v w = eqV v w := by
  unfold eqVx eqV
  simp only [eqn_eq, List.range, List.range.loop, List.all_cons, List.all_nil]
theorem eqV_z9 {v : Vec} (h : eqV v z9 = true) : vB v = true := vB_eq0 fun i hi => by
  unfold eqV at h
  rw [all9] at h
  simpa [z9] using h i hi
def uc (n : Int) : List Value := [.int .u64 n]
theorem eq25 {v w : Vec} : eqT Tryz.prog 9 25 (c9 v) (c9 w) = some (eqV v w) := by
  rw [← eqVx_eq]; kernel_rfl
theorem gd25 : Tryz.prog.eqGuardType Tryz.prog.depth 25 = false := by kernel_rfl
theorem zr25 : zrC Tryz.prog 25 = some (c9 z9) := by kernel_rfl
end Go.Proofs.YtmacjicebemgoaaGreat
namespace Go.Proofs.YtmacjicebemgoaaGreat
set_option linter.unusedVariables false
set_option linter.unusedSimpArgs false
open Go.RowKit
theorem ar25 : arE Tryz.prog 25 = some (9, 1) := by kernel_rfl
theorem aw25 : arW Tryz.prog 25 = some 9 := by kernel_rfl
theorem tb25 : tyB Tryz.prog 25 = some (true, 9) := by kernel_rfl
set_option maxRecDepth 4000 in
set_option maxHeartbeats 1000000 in
theorem vCheck_d (v : Vec) : DFun Tryz.prog 36 [.val (.agg (c9 v).toArray)] [] (.val (.int .i64 (errOr (vB v) 230))) [] := by
  refine zal (N := 24) 0 (by kernel_rfl) Tryz.func36 rfl rfl rfl (by simp only [fr0, Nat.zero_add, Nat.reduceAdd]; exact rfl) rfl fun s0 hs0 => ?_
  refine zaf ?_
  refine zaj 1 (by simp only [holes, List.cons_append, List.nil_append]; exact rfl) ?_
  refine zad ?_
  refine zak rfl rfl rfl (op_boxa 0 rfl (ev1 rfl) rfl) (by simp only [upd, za, zaa]; exact rfl) ?_
  refine zab rfl rfl rfl (zac (.inr rfl) (ev1 rfl)) ?_
  refine zae ?_
  refine zaf ?_
  refine zaf ?_
  refine zad ?_
  refine zab rfl rfl rfl (op_ldw rfl tb25 (ev1 rfl) rfl rfl) ?_
  refine zab rfl rfl rfl (op_build0a rfl ar25 zr25) ?_
  refine zab rfl rfl rfl (op_eqr eq25 rfl gd25 tb25 (ev1 rfl) (ev1 rfl)) ?_
  refine zae ?_
  refine dwp_cond rfl (fun c1 => ?_) (fun c1 => ?_)
  · refine zaf ?_
    refine zad ?_
    refine zab rfl rfl rfl (zac (.inr rfl) (ev1 rfl)) ?_
    refine zae ?_
    refine zan ?_
    refine kend0 (rs1 rfl (rv_t rfl)) rfl ?_
    rw [eqV_z9 c1]
    rfl
  · refine zam ?_
    refine zaf ?_
    refine zaf ?_
    refine zad ?_
    refine zab rfl rfl rfl (op_ldw rfl tb25 (ev1 rfl) rfl rfl) ?_
    refine zab rfl rfl rfl (zac (.inl rfl) (ev1 rfl)) ?_
    refine zae ?_
    refine zat ?_
    refine dwp_loopS ⟨hs0, rfl⟩ (α := Nat) (fun k => [(9, .val (.int .i64 (k : Int)))]) [(8, _)] (fun k => []) [_] (fun k => k ≤ 9 ∧ ∀ i, i < k → vOne v i) (fun k => 9 - k) 0 [0] (⟨by omega, fun i hi => absurd hi (by omega)⟩) rfl ⟨rfl, trivial⟩ ⟨rfl, trivial⟩ ⟨rfl, trivial⟩ ?_
    intro k hx
    simp only [upd, za, zaa, List.cons_append, List.nil_append]
    obtain ⟨hk, he⟩ := hx
    refine zaf ?_
    refine zad ?_
    refine zab rfl rfl rfl (op_lss rfl (ev1 rfl) (ev1 rfl)) ?_
    refine zae ?_
    refine zaf ?_
    refine dwp_cond rfl (fun c2 => ?_) (fun c2 => ?_)
    · try simp only [decide_eq_true_eq, decide_eq_false_iff_not, beq_iff_eq, bne_iff_ne, beq_eq_false_iff_ne, bne_eq_false_iff_eq, Bool.not_eq_true', Bool.not_eq_false', Bool.and_eq_true, Bool.or_eq_true, Bool.or_eq_false_iff, ne_eq, Decidable.not_not, Int.not_lt, Int.not_le] at c2
      refine zam ?_
      refine zaf ?_
      refine zat ?_
      refine zaf ?_
      refine zad ?_
      refine zab rfl rfl rfl (zac (.inl rfl) (ev1 rfl)) ?_
      refine zab rfl rfl rfl (op_ixu (k) rfl aw25 (ev1 rfl) (ev1 rfl) (fun _ => rfl) (by omega) (c9_at v _ (by omega))) ?_
      refine zab rfl rfl rfl (zac (.inr rfl) (ev1 rfl)) ?_
      refine zab rfl rfl rfl (zac (.inr rfl) (ev1 rfl)) ?_
      refine zae ?_
      refine zaf ?_
      refine zad ?_
      refine zab rfl rfl rfl (zac (.inl rfl) (ev1 rfl)) ?_
      refine zab rfl rfl rfl (op_gtr rfl (ev1 rfl) (ev1 rfl)) ?_
      refine zab rfl rfl rfl (zac (.inl rfl) (ev1 rfl)) ?_
      refine zag (gd_f rfl rfl rfl) rfl rfl rfl (zac (.inl rfl) (ev1 rfl)) ?_
      refine zag (gd_f rfl rfl rfl) rfl rfl rfl (op_eql rfl (ev2 rfl) (ev1 rfl)) ?_
      refine zag (gd_f rfl rfl rfl) rfl rfl rfl (zac (.inl rfl) (ev2 rfl)) ?_
      refine zag (gd_tt rfl rfl rfl) rfl rfl rfl (zac (.inl rfl) (ev1 rfl)) ?_
      refine zag (gd_tt rfl rfl rfl) rfl rfl rfl (op_gtr rfl (ev2 rfl) (ev1 rfl)) ?_
      refine zag (gd_f rfl rfl rfl) rfl rfl rfl (op_and rfl (ev2 rfl) (ev2 rfl)) ?_
      refine zab rfl rfl rfl (op_or rfl (ev1 rfl) (ev3 rfl id)) ?_
      refine zae ?_
      refine dwp_cond rfl (fun c2 => ?_) (fun c2 => ?_)
      · try simp only [decide_eq_true_eq, decide_eq_false_iff_not, beq_iff_eq, bne_iff_ne, beq_eq_false_iff_ne, bne_eq_false_iff_eq, Bool.not_eq_true', Bool.not_eq_false', Bool.and_eq_true, Bool.or_eq_true, Bool.or_eq_false_iff, ne_eq, Decidable.not_not, Int.not_lt, Int.not_le] at c2
        refine zaf ?_
        refine zad ?_
        refine zab rfl rfl rfl (zac (.inr rfl) (ev1 rfl)) ?_
        refine zae ?_
        refine zan ?_
        refine kend0 (rs1 rfl (rv_t rfl)) rfl ?_
        rw [vB_no (i := k) (by omega) (fun h => by unfold vOne at h; omega)]
        rfl
      · try simp only [decide_eq_true_eq, decide_eq_false_iff_not, beq_iff_eq, bne_iff_ne, beq_eq_false_iff_ne, bne_eq_false_iff_eq, Bool.not_eq_true', Bool.not_eq_false', Bool.and_eq_true, Bool.or_eq_true, Bool.or_eq_false_iff, ne_eq, Decidable.not_not, Int.not_lt, Int.not_le] at c2
        have hov : vOne v k := ⟨by simp at c2; omega, fun e => by simp at c2; omega⟩
        refine zam ?_
        refine zad ?_
        refine zab rfl rfl rfl (op_add' rfl (ev1 rfl) (ev1 rfl) (fun _ => IntWalk.i64_in _ (by omega))) ?_
        refine zab rfl rfl rfl (zac (.inl rfl) (ev1 rfl)) ?_
        refine zae ?_
        refine ⟨k + 1, [0], ⟨by omega, vOne_step he hov⟩, by simp only []; omega, rfl, ⟨rfl, rfl, trivial⟩, ⟨rfl, trivial⟩⟩
    · try simp only [decide_eq_true_eq, decide_eq_false_iff_not, beq_iff_eq, bne_iff_ne, beq_eq_false_iff_ne, bne_eq_false_iff_eq, Bool.not_eq_true', Bool.not_eq_false', Bool.and_eq_true, Bool.or_eq_true, Bool.or_eq_false_iff, ne_eq, Decidable.not_not, Int.not_lt, Int.not_le] at c2
      refine dwp_exit ?_
      refine zaf ?_
      refine zad ?_
      refine zab rfl rfl rfl (zac (.inr rfl) (ev1 rfl)) ?_
      refine zae ?_
      refine zan ?_
      refine kend0 (rs1 rfl (rv_t rfl)) rfl ?_
      rw [vB_all.2 fun i hi => he i (by omega)]
      rfl
end Go.Proofs.YtmacjicebemgoaaGreat
namespace Go.Proofs.YtmacjicebemgoaaGreat
set_option linter.unusedVariables false
set_option linter.unusedSimpArgs false
/-- eight numbers -/
def numsL (l : List Int) : List Int := l.flatMap (layW 8)
theorem cdNums (S : Int) : Cd S (fun l : List Int => l.length = 8 ∧ ∀ n ∈ l, 0 ≤ n ∧ n < (256 ^ 8 : Nat)) numsL (tkRep (tkN S 8) 8) := (cdN S 8).rep 8
end Go.Proofs.YtmacjicebemgoaaGreat
namespace Go.Proofs.YtmacjicebemgoaaGreat
set_option linter.unusedVariables false
set_option linter.unusedSimpArgs false
def numsV (v : Vec) : List Int := [(v 1 : Int), v 2, v 3, v 4, v 5, v 6, v 7, v 8]
def vecL (v : Vec) : List Int := numsL (numsV v)
theorem mkV_nums {v : Vec} (h0 : v 0 = 0) (h9 : ∀ i, 9 ≤ i → v i = 0) : mkV (numsV v) = v := by
  funext i
  unfold mkV
  by_cases h : 1 ≤ i ∧ i ≤ 8
  · rw [if_pos h]
    have : i = 1 ∨ i = 2 ∨ i = 3 ∨ i = 4 ∨ i = 5 ∨ i = 6 ∨ i = 7 ∨ i = 8 := by omega
    rcases this with rfl | rfl | rfl | rfl | rfl | rfl | rfl | rfl <;> rfl
  · rw [if_neg h]
    by_cases e : i = 0
    · rw [e, h0]
    · rw [h9 i (by omega)]
theorem nums_mkV : ∀ {l : List Int}, l.length = 8 → (∀ n ∈ l, 0 ≤ n) → numsV (mkV l) = l
  | [a, b, c, d, e, f, g, h], _, hn => by
    have k : ∀ n ∈ [a, b, c, d, e, f, g, h], ((n.toNat : Nat) : Int) = n := fun n hm => Int.toNat_of_nonneg (hn n hm)
    show [((a.toNat : Nat) : Int), b.toNat, c.toNat, d.toNat, e.toNat, f.toNat, g.toNat, h.toNat] = _
    rw [k a (by simp), k b (by simp), k c (by simp), k d (by simp), k e (by simp), k f (by simp), k g (by simp), k h (by simp)]
theorem cdVec (S C : Int) : Cd S (fun v : Vec => vB v = true ∧ ∀ i, 9 ≤ i → v i = 0) vecL (tkVec S C) :=
  (((cdNums S).map (ok2 := fun v : Vec => v 0 = 0 ∧ (∀ i, 9 ≤ i → v i = 0) ∧ ∀ i, i < 9 → (v i : Int) < (256 ^ 8 : Nat)) mkV numsV
    (fun l h => ⟨nums_mkV h.1 fun n hn => (h.2 n hn).1, rfl, fun i hi => if_neg (by omega), fun i hi => by
      unfold mkV
      by_cases e : 1 ≤ i ∧ i ≤ 8
      · rw [if_pos e]
        have hl : i - 1 < l.length := by rw [h.1]; omega
        rw [List.getD_eq_getElem?_getD, List.getElem?_eq_getElem hl]
        have := h.2 _ (List.getElem_mem hl)
        show ((l[i - 1].toNat : Nat) : Int) < _
        rw [Int.toNat_of_nonneg this.1]
        exact this.2
      · rw [if_neg e]
        decide⟩)
    (fun v h => ⟨⟨rfl, fun n hn => by
      have e : ∃ i, i < 9 ∧ n = (v i : Int) := by
        unfold numsV at hn
        simp only [List.mem_cons, List.not_mem_nil, or_false] at hn
        rcases hn with e | e | e | e | e | e | e | e
        · exact ⟨1, by omega, e⟩
        · exact ⟨2, by omega, e⟩
        · exact ⟨3, by omega, e⟩
        · exact ⟨4, by omega, e⟩
        · exact ⟨5, by omega, e⟩
        · exact ⟨6, by omega, e⟩
        · exact ⟨7, by omega, e⟩
        · exact ⟨8, by omega, e⟩
      obtain ⟨i, hi, rfl⟩ := e
      exact ⟨Int.natCast_nonneg _, h.2.2 i hi⟩⟩, mkV_nums h.1 h.2.1⟩)).need C vB).iff fun v => by
    constructor
    · intro h
      obtain ⟨a, b⟩ := vB_iff.1 h.1
      refine ⟨⟨a, h.2, fun i hi => ?_⟩, h.1⟩
      have e8 : ((256 ^ 8 : Nat) : Int) = 18446744073709551616 := by decide
      have : v i ≤ 4611686018427387904 := b i hi
      rw [e8]
      omega
    · exact fun h => ⟨h.2, h.1.2.1⟩
end Go.Proofs.YtmacjicebemgoaaGreat
namespace Go.Proofs.YtmacjicebemgoaaGreat
set_option linter.unusedVariables false
set_option linter.unusedSimpArgs false
open Go.RowKit
section
variable {α β γ : Type}
end
theorem vs_step {j : Nat} (hj : j < 8) {u v : Vec} {l r : List Int} (h : tkVs (8 - j) u l = .ok v r) : ∃ n q, tN 8 l = .ok n q ∧ tkVs (8 - (j + 1)) (upV u (j + 1) n.toNat) q = .ok v r := by
  rw [show 8 - j = (8 - (j + 1)) + 1 by omega] at h
  obtain ⟨n, q, h1, h2⟩ := Tk.bind_ok h
  rw [show 8 - (8 - (j + 1)) = j + 1 by omega] at h2
  exact ⟨n, q, h1, h2⟩
theorem vs_stop {j : Nat} (hj : j < 8) {u : Vec} {l : List Int} {e : Int} (h : tkVs (8 - j) u l = .err e) : tN 8 l = .err e ∨ ∃ n q, tN 8 l = .ok n q ∧ tkVs (8 - (j + 1)) (upV u (j + 1) n.toNat) q = .err e := by
  rw [show 8 - j = (8 - (j + 1)) + 1 by omega] at h
  rcases Tk.bind_err h with h1 | ⟨n, q, h1, h2⟩
  · exact .inl h1
  · rw [show 8 - (8 - (j + 1)) = j + 1 by omega] at h2
    exact .inr ⟨n, q, h1, h2⟩
theorem vs_end {j : Nat} (hj : ¬ j < 8) {u v : Vec} {l r : List Int} (h : tkVs (8 - j) u l = .ok v r) : vB v = true ∧ u = v ∧ l = r := by
  rw [show 8 - j = 0 by omega] at h
  unfold tkVs at h
  split at h
  · cases h
    exact ⟨by assumption, rfl, rfl⟩
  · cases h
theorem vs_endx {j : Nat} (hj : ¬ j < 8) {u : Vec} {l : List Int} {e : Int} (h : tkVs (8 - j) u l = .err e) : vB u = false ∧ e = 290 := by
  rw [show 8 - j = 0 by omega] at h
  unfold tkVs at h
  split at h
  · cases h
  · cases h
    exact ⟨by simpa using ‹¬ vB u = true›, rfl⟩
/-- taken, or why not -/
theorem tk_or {α : Type} {t : Tk α} (h : Er t) (hn : ¬ ∃ a r, t = .ok a r) : ∃ e, t = .err e ∧ (e = 110 ∨ e = 290) := by
  cases ht : t with
  | ok a r => exact absurd ⟨a, r, ht⟩ hn
  | err e => exact ⟨e, rfl, h e ht⟩
end Go.Proofs.YtmacjicebemgoaaGreat
namespace Go.Proofs.YtmacjicebemgoaaGreat
set_option linter.unusedVariables false
set_option linter.unusedSimpArgs false
open Go.RowKit
theorem sl80 : slE Tryz.prog 80 = some (23, 1, 8) := by kernel_rfl
theorem nums_at {v : Vec} (hv : vB v = true) {n : Int} (h : n ∈ numsV v) : 0 ≤ n ∧ n < (256 ^ 8 : Nat) := by
  have e8 : ((256 ^ 8 : Nat) : Int) = 18446744073709551616 := by decide
  rw [e8]
  have h9 := (vB_iff.1 hv).2
  unfold numsV at h
  simp only [List.mem_cons, List.not_mem_nil, or_false] at h
  have a1 := h9 1 (by decide)
  have a2 := h9 2 (by decide)
  have a3 := h9 3 (by decide)
  have a4 := h9 4 (by decide)
  have a5 := h9 5 (by decide)
  have a6 := h9 6 (by decide)
  have a7 := h9 7 (by decide)
  have a8 := h9 8 (by decide)
  unfold LAST at a1 a2 a3 a4 a5 a6 a7 a8
  rcases h with h | h | h | h | h | h | h | h <;> subst h <;> omega
theorem numsL_len (l : List Int) : (numsL l).length = 8 * l.length := by
  unfold numsL
  induction l with
  | nil => rfl
  | cons a l ih => rw [List.flatMap_cons, List.length_append, ih, layW_len, List.length_cons]; omega
theorem numsL_take {l : List Int} {j : Nat} (h : j < l.length) : numsL (l.take (j + 1)) = numsL (l.take j) ++ layW 8 l[j] := by
  unfold numsL
  rw [List.take_succ_eq_append_getElem h, List.flatMap_append]
  simp
set_option maxRecDepth 4000 in
set_option maxHeartbeats 1000000 in
theorem cvec_o (v : Vec) (hv : vB v = true) : DFun Tryz.prog 11 [.val (.agg (c9 v).toArray)] [] (.tup [.arr 0, .val (.int .i64 0)]) [.arr 5 1 (vecL v).length ((vecL v).flatMap uc8)] := by
  refine zal (N := 26) 0 (by kernel_rfl) Tryz.func11 rfl rfl rfl (by simp only [fr0, Nat.zero_add, Nat.reduceAdd]; exact rfl) rfl fun s0 hs0 => ?_
  refine zaf ?_
  refine zaj 1 (by simp only [holes, List.cons_append, List.nil_append]; exact rfl) ?_
  refine zad ?_
  refine zak rfl rfl rfl (op_boxa 0 rfl (ev1 rfl) rfl) (by simp only [upd, za, zaa]; exact rfl) ?_
  refine zab rfl rfl rfl (zac (.inr rfl) (ev1 rfl)) ?_
  refine zab rfl rfl rfl (zac (.inr rfl) (ev1 rfl)) ?_
  refine zae ?_
  refine zaf ?_
  refine zaf ?_
  refine zad ?_
  refine zab rfl rfl rfl (op_ldw rfl tb25 (ev1 rfl) rfl rfl) ?_
  refine zab rfl rfl rfl (zah [] [] [] rfl (ev1 rfl) (ec (ev1 rfl) en) rfl rfl (vCheck_d v) rfl rfl rfl rfl rfl rfl) ?_
  refine zab rfl rfl rfl (zac (.inr rfl) (ev1 rfl)) ?_
  refine zae ?_
  refine zaf ?_
  refine zad ?_
  refine zab rfl rfl rfl (zac (.inl rfl) (ev1 rfl)) ?_
  refine zab rfl rfl rfl (op_neq rfl (ev1 rfl) (ev1 rfl)) ?_
  refine zae ?_
  refine dwp_if_f rfl (by rw [hv]; rfl) ?_
  refine zam ?_
  refine zaf ?_
  refine zaj 1 (by simp only [holes, List.cons_append, List.nil_append]; exact rfl) ?_
  refine zad ?_
  refine zak rfl rfl rfl (zao 1 rfl zr72 rfl) (by simp only [upd, za, zaa]; exact rfl) ?_
  refine zae ?_
  refine zaf ?_
  refine dwp_reb 1 reb_mix rfl rfl (by simp only [List.cons_append, List.nil_append, za, zaa, List.map]; exact rfl) ?_
  refine dwp_reb 1 (reb_wk wkZ) rfl rfl (by simp only [List.cons_append, List.nil_append, za, zaa, List.map]; exact rfl) ?_
  refine dwp_adoptc (l' := opD zO ++ [.arr 2]) 1 19 5 1 rfl rfl rfl rfl (by simp only [List.cons_append, List.nil_append, za, zaa, List.length_cons, List.length_nil, Nat.zero_add, Nat.reduceAdd]; exact rfl) ?_
  refine dwp_reb 2 reb_arr rfl rfl (by simp only [List.cons_append, List.nil_append, za, zaa, List.length_cons, List.length_nil, Nat.zero_add, Nat.reduceAdd]; exact rfl) ?_
  refine dwp_hole ?_
  refine dwp_fam 3 rfl (by simp only [List.cons_append, List.nil_append, za, zaa, List.length_cons, List.length_nil, Nat.zero_add, Nat.reduceAdd]; exact rfl) ?_
  refine dwp_absc 1 19 3 rfl rfl rfl rfl (by simp only [List.cons_append, List.nil_append, za, zaa, List.length_cons, List.length_nil, Nat.zero_add, Nat.reduceAdd]; exact rfl) ?_
  refine zad ?_
  refine zab rfl rfl rfl (op_mkf rfl (ec (ev1 rfl) en) en) ?_
  refine zab rfl rfl rfl (zac (.inr rfl) (ev1 rfl)) ?_
  refine zae ?_
  refine zaf ?_
  refine zaf ?_
  refine dwp_view ⟨hs0, rfl⟩ [1, 3] [0] [(1, _), (2, _), (3, _), (5, _), (6, _)] [_, _] rfl ⟨rfl, rfl, rfl, rfl, rfl, trivial⟩ ⟨rfl, rfl, trivial⟩ ?_
  refine zad ?_
  refine zab rfl rfl rfl (op_slad (p := 1) (q := 9) rfl ar25 (evwk (ev1 rfl) (Wk.of_eq (show D.dpf (c9 v) = D.dpf ((((v 0 : Nat) : Int) :: numsV v).flatMap uc) from rfl))) (bd_some (ev1 rfl)) bd_none (fun _ => rfl) (fun _ => rfl) (fun _ => by decide) (rfl) (by decide) (fun _ => rfl)) ?_
  refine zab rfl rfl rfl ((op_len rfl sl80 (ev1 rfl)).cast (d' := .val (.int .i64 8)) (by rfl)) ?_
  refine zab rfl rfl rfl (zac (.inl rfl) (ev1 rfl)) ?_
  refine zae ?_
  refine zat ?_
  refine dwp_wk 15 rfl (Wk.of_eq (show _ = .slf 1 (numsV v).length ((numsV v).flatMap uc) from rfl)) ?_
  refine dwp_loopS ⟨hs0, rfl⟩ (α := Nat) (fun j => [(17, .val (.int .i64 (j : Int)))]) [(5, _), (6, _), (15, _), (16, _)] (fun j => [(0, .mix 72 (opD zO ++ [.farr 1 j])), (1, fmB j (numsL ((numsV v).take j)))]) [.hole, .hole] (fun j => j ≤ 8) (fun j => 8 - j) 0 [0, 1] (by omega) rfl ⟨rfl, rfl, rfl, rfl, trivial⟩ ⟨rfl, trivial⟩ ⟨rfl, rfl, trivial⟩ ?_
  intro j hx
  simp only [upd, za, zaa, List.cons_append, List.nil_append]
  have hj := hx
  have hn8 : (numsV v).length = 8 := rfl
  have hlj := numsL_len ((numsV v).take j)
  rw [List.length_take] at hlj
  refine zaf ?_
  refine zad ?_
  refine zab rfl rfl rfl (op_lss rfl (ev1 rfl) (ev1 rfl)) ?_
  refine zae ?_
  refine zaf ?_
  refine dwp_cond rfl (fun c2 => ?_) (fun c2 => ?_)
  · try simp only [decide_eq_true_eq, decide_eq_false_iff_not, beq_iff_eq, bne_iff_ne, beq_eq_false_iff_ne, bne_eq_false_iff_eq, Bool.not_eq_true', Bool.not_eq_false', Bool.and_eq_true, Bool.or_eq_true, Bool.or_eq_false_iff, ne_eq, Decidable.not_not, Int.not_lt, Int.not_le] at c2
    refine zam ?_
    refine zaf ?_
    refine zat ?_
    refine zaf ?_
    refine zad ?_
    refine zab rfl rfl rfl (op_ixsr (l := numsV v) (en := uc) (j := j) rfl sl80 (ev1 rfl) (ev1 rfl) (fun _ => rfl) (by decide) (by omega) (by rw [hn8]; omega)) ?_
    refine zab rfl rfl rfl (op_ldod rfl tb23 (ev1 rfl) rfl) ?_
    refine zab rfl rfl rfl (zac (.inr rfl) (ev1 rfl)) ?_
    refine zae ?_
    refine zad ?_
    refine zab rfl rfl rfl (zac (.inl rfl) (ev1 rfl)) ?_
    refine zab rfl rfl rfl (zac (.inl rfl) (ev1 rfl)) ?_
    refine zak rfl rfl rfl (zah [0, 1] [] [] rfl (ev1 rfl) (ec (ev1 rfl) (ec (ev1 rfl) en)) rfl rfl (lnum_d zO j (numsL ((numsV v).take j)) 8 (numsV v)[j] (by decide) (nums_at hv (List.getElem_mem _)) (by omega)) rfl rfl rfl rfl rfl rfl) (by simp only [upd, za, zaa]; exact rfl) ?_
    refine zae ?_
    refine zad ?_
    refine zab rfl rfl rfl (op_add' rfl (ev1 rfl) (ev1 rfl) (fun _ => IntWalk.i64_in _ (by omega))) ?_
    refine zab rfl rfl rfl (zac (.inl rfl) (ev1 rfl)) ?_
    refine zae ?_
    refine ⟨j + 1, [0, 1], by omega, by simp only []; omega, rfl, ⟨rfl, rfl, rfl, rfl, rfl, trivial⟩, ⟨rfl, fm_cat rfl (by rw [numsL_take (by rw [hn8]; omega)]), trivial⟩⟩
  · try simp only [decide_eq_true_eq, decide_eq_false_iff_not, beq_iff_eq, bne_iff_ne, beq_eq_false_iff_ne, bne_eq_false_iff_eq, Bool.not_eq_true', Bool.not_eq_false', Bool.and_eq_true, Bool.or_eq_true, Bool.or_eq_false_iff, ne_eq, Decidable.not_not, Int.not_lt, Int.not_le] at c2
    refine dwp_exit ?_
    refine zaf ?_
    obtain rfl : j = 8 := by omega
    refine zaj 1 (by simp only [holes, List.cons_append, List.nil_append]; exact rfl) ?_
    refine zad ?_
    refine zak rfl rfl rfl (zah [0, 1] [] [2] rfl (ev1 rfl) (ec (ev1 rfl) en) rfl rfl (llaid_d zO (8) (numsL ((numsV v).take 8)) (by omega)) rfl rfl rfl rfl rfl rfl) (by simp only [upd, za, zaa]; exact rfl) ?_
    refine zab rfl rfl rfl (zac (.inr rfl) (ev1 rfl)) ?_
    refine zab rfl rfl rfl (zac (.inr rfl) (ev1 rfl)) ?_
    refine zae ?_
    refine zan ?_
    refine kend [2] (rs2 rfl (rv_t rfl) (rv_t rfl)) rfl rfl ?_ ⟨rfl, trivial⟩
    rfl
end Go.Proofs.YtmacjicebemgoaaGreat
namespace Go.Proofs.YtmacjicebemgoaaGreat
set_option linter.unusedVariables false
set_option linter.unusedSimpArgs false
open Go.RowKit
attribute [local irreducible] opL layW idB layF fieldsK kdN
theorem cvec_ok (v : Vec) (hv : vB v = true) : DFun Tryz.prog 11 [.val (.agg (c9 v).toArray)] [] (.tup [.slf 1 (vecL v).length ((vecL v).flatMap uc8), .val (.int .i64 0)]) [] := freeze (cvec_o v hv) rfl
end Go.Proofs.YtmacjicebemgoaaGreat
namespace Go.Proofs.YtmacjicebemgoaaGreat
set_option linter.unusedVariables false
set_option linter.unusedSimpArgs false
open Go.RowKit
attribute [local irreducible] tkN valF numN tkCo tkRep tkF tkFs tkVs fieldsK
set_option maxRecDepth 4000 in
set_option maxHeartbeats 1000000 in
theorem tvec_ok (o : OpM) (L : List Int) (hL : okL L) (v : Vec) (r : List Int) (h : tVec L = .ok v r) : DFun Tryz.prog 61 [.loc 0 0] [.mix 135 (.loc 1 0 :: opD o), .mix 157 [.slf 1 (L).length ((L).flatMap uc8), .val (.int .i64 0)]] (.val (.agg (c9 v).toArray)) [.mix 135 (.loc 1 0 :: opD o), .mix 157 [.slf 1 (r).length ((r).flatMap uc8), .val (.int .i64 0)]] := by
  refine zal (N := 18) 2 (by kernel_rfl) Tryz.func61 rfl rfl rfl (by simp only [fr0, Nat.zero_add, Nat.reduceAdd]; exact rfl) rfl fun s0 hs0 => ?_
  refine zaf ?_
  rw [tVec_eq] at h
  refine zaj 1 (by simp only [holes, List.cons_append, List.nil_append]; exact rfl) ?_
  refine zad ?_
  refine zak rfl rfl rfl (zao 2 rfl zr25 rfl) (by simp only [upd, za, zaa]; exact rfl) ?_
  refine zae ?_
  refine zaf ?_
  refine zaj 1 (by simp only [holes, List.cons_append, List.nil_append]; exact rfl) ?_
  refine zad ?_
  refine zak rfl rfl rfl (zao 3 rfl zr25 rfl) (by simp only [upd, za, zaa]; exact rfl) ?_
  refine zae ?_
  refine zaf ?_
  refine zaf ?_
  refine zad ?_
  refine zab rfl rfl rfl (zac (.inr rfl) (ev1 rfl)) ?_
  refine zae ?_
  refine zat ?_
  refine dwp_loopS ⟨hs0, rfl⟩ (α := Nat × Vec × List Int) (fun x => [(4, .val (.int .i64 ((x.1 + 1 : Nat) : Int)))]) [(0, _), (2, _), (3, _)] (fun x => [(1, .mix 157 [.slf 1 (x.2.2).length ((x.2.2).flatMap uc8), .val (.int .i64 0)]), (3, .flat 25 (c9 x.2.1))]) [_, .hole, _, .hole] (fun x => okL x.2.2 ∧ x.1 ≤ 8 ∧ tkVs (8 - x.1) x.2.1 x.2.2 = .ok v r) (fun x => 8 - x.1) (0, z9, L) [0, 1, 2, 3] (⟨hL, Nat.zero_le _, h⟩) rfl ⟨rfl, rfl, rfl, trivial⟩ ⟨rfl, trivial⟩ ⟨rfl, rfl, rfl, rfl, trivial⟩ ?_
  intro x hx
  simp only [upd, za, zaa, List.cons_append, List.nil_append]
  obtain ⟨hk, hle, hy⟩ := hx
  refine zaf ?_
  refine zaf ?_
  refine zad ?_
  refine zab rfl rfl rfl (zac (.inl rfl) (ev1 rfl)) ?_
  refine zab rfl rfl rfl (op_leq rfl (ev1 rfl) (ev1 rfl)) ?_
  refine zae ?_
  refine dwp_cond rfl (fun c1 => ?_) (fun c1 => ?_)
  · try simp only [decide_eq_true_eq, decide_eq_false_iff_not, beq_iff_eq, bne_iff_ne, beq_eq_false_iff_ne, bne_eq_false_iff_eq, Bool.not_eq_true', Bool.not_eq_false', Bool.and_eq_true, Bool.or_eq_true, Bool.or_eq_false_iff, ne_eq, Decidable.not_not, Int.not_lt, Int.not_le] at c1
    refine zam ?_
    refine zaf ?_
    refine zat ?_
    obtain ⟨n, q, hn, hz⟩ := vs_step (by omega) hy
    have hn0 : 0 ≤ n := (tN_ok hk hn).2.2.2.1.1
    refine zad ?_
    refine zab rfl rfl rfl (zac (.inl rfl) (ev1 rfl)) ?_
    refine zab rfl rfl rfl (zac (.inl rfl) (ev1 rfl)) ?_
    refine zak rfl rfl rfl ((zah [0, 1] [] [] rfl (ev1 rfl) (ec (ev1 rfl) (ec (ev1 rfl) en)) rfl rfl (tnum_ok o (x.2.2) (hk) 8 (by decide) (n) (q) (hn)) rfl rfl rfl rfl rfl rfl).cast (d' := .val (.int .u64 ((n.toNat : Nat) : Int))) (by rw [Int.toNat_of_nonneg hn0])) (by simp only [upd, za, zaa]; exact rfl) ?_
    refine zab rfl rfl rfl (op_ixl rfl ar25 (ev1 rfl) (ev1 rfl) (fun _ => by omega)) ?_
    refine walk_s rfl rfl (op_st1 rfl tb23 (ev1 rfl) (ev1 rfl) rfl (by rw [c9_len]; omega) (c9_setp (j := x.1 + 1) (by omega) (by omega))) (by simp only [upd, za, zaa]; exact rfl) ?_
    refine zae ?_
    refine zad ?_
    refine zab rfl rfl rfl (zac (.inl rfl) (ev1 rfl)) ?_
    refine zab rfl rfl rfl (op_add' rfl (ev1 rfl) (ev1 rfl) (fun _ => IntWalk.i64_in _ (by omega))) ?_
    refine zab rfl rfl rfl (zac (.inr rfl) (ev1 rfl)) ?_
    refine zae ?_
    refine ⟨(x.1 + 1, upV x.2.1 (x.1 + 1) n.toNat, q), [0, 1, 2, 3], ⟨okL_N hk hn, by show x.1 + 1 ≤ 8; omega, hz⟩, by show 8 - (x.1 + 1) < 8 - x.1; omega, rfl, ⟨rfl, rfl, rfl, rfl, trivial⟩, ⟨rfl, rfl, rfl, rfl, trivial⟩⟩
  · try simp only [decide_eq_true_eq, decide_eq_false_iff_not, beq_iff_eq, bne_iff_ne, beq_eq_false_iff_ne, bne_eq_false_iff_eq, Bool.not_eq_true', Bool.not_eq_false', Bool.and_eq_true, Bool.or_eq_true, Bool.or_eq_false_iff, ne_eq, Decidable.not_not, Int.not_lt, Int.not_le] at c1
    refine dwp_exit ?_
    refine zaf ?_
    obtain ⟨hvB, hxv, hxr⟩ := vs_end (by omega) hy
    rw [hxv, hxr]
    refine zad ?_
    refine zab rfl rfl rfl (op_ldw rfl tb25 (ev1 rfl) rfl rfl) ?_
    refine zab rfl rfl rfl (zah [] [] [] rfl (ev1 rfl) (ec (ev1 rfl) en) rfl rfl (vCheck_d v) rfl rfl rfl rfl rfl rfl) ?_
    refine zab rfl rfl rfl (op_eql rfl (ev1 rfl) (ev1 rfl)) ?_
    refine zab rfl rfl rfl (zah [] [] [] rfl (ev1 rfl) (ec (ev1 rfl) (ec (ev1 rfl) en)) rfl rfl (cneed_ok _ _ (by rw [hvB]; rfl)) rfl rfl rfl rfl rfl rfl) ?_
    refine zae ?_
    refine zaf ?_
    refine zad ?_
    refine zab rfl rfl rfl (op_ldw rfl tb25 (ev1 rfl) rfl rfl) ?_
    refine walk_s rfl rfl (op_stwa rfl tb25 (ev1 rfl) (ev1 rfl) rfl rfl rfl rfl) (by simp only [upd, za, zaa]; exact rfl) ?_
    refine zae ?_
    refine zan ?_
    refine kend [0, 1] (rs1 rfl (rv_w tb25 rfl rfl rfl)) rfl rfl ?_ ⟨rfl, rfl, trivial⟩
    rfl
set_option maxRecDepth 4000 in
set_option maxHeartbeats 1000000 in
theorem tvec_nol (o : OpM) (L : List Int) (hL : okL L) (e : Int) (h : tVec L = .err e) : DPanL Tryz.prog 61 [.loc 0 0] [.mix 135 (.loc 1 0 :: opD o), .mix 157 [.slf 1 (L).length ((L).flatMap uc8), .val (.int .i64 0)]] (.ifc 139 (.val (.agg #[.int .i64 e]))) := by
  refine zal (N := 18) 2 (by kernel_rfl) Tryz.func61 rfl rfl rfl (by simp only [fr0, Nat.zero_add, Nat.reduceAdd]; exact rfl) rfl fun s0 hs0 => ?_
  refine zaf ?_
  rw [tVec_eq] at h
  refine zaj 1 (by simp only [holes, List.cons_append, List.nil_append]; exact rfl) ?_
  refine zad ?_
  refine zak rfl rfl rfl (zao 2 rfl zr25 rfl) (by simp only [upd, za, zaa]; exact rfl) ?_
  refine zae ?_
  refine zaf ?_
  refine zaj 1 (by simp only [holes, List.cons_append, List.nil_append]; exact rfl) ?_
  refine zad ?_
  refine zak rfl rfl rfl (zao 3 rfl zr25 rfl) (by simp only [upd, za, zaa]; exact rfl) ?_
  refine zae ?_
  refine zaf ?_
  refine zaf ?_
  refine zad ?_
  refine zab rfl rfl rfl (zac (.inr rfl) (ev1 rfl)) ?_
  refine zae ?_
  refine zat ?_
  refine dwp_loopS ⟨hs0, rfl⟩ (α := Nat × Vec × List Int) (fun x => [(4, .val (.int .i64 ((x.1 + 1 : Nat) : Int)))]) [(0, _), (2, _), (3, _)] (fun x => [(1, .mix 157 [.slf 1 (x.2.2).length ((x.2.2).flatMap uc8), .val (.int .i64 0)]), (3, .flat 25 (c9 x.2.1))]) [_, .hole, _, .hole] (fun x => okL x.2.2 ∧ x.1 ≤ 8 ∧ tkVs (8 - x.1) x.2.1 x.2.2 = .err e) (fun x => 8 - x.1) (0, z9, L) [0, 1, 2, 3] (⟨hL, Nat.zero_le _, h⟩) rfl ⟨rfl, rfl, rfl, trivial⟩ ⟨rfl, trivial⟩ ⟨rfl, rfl, rfl, rfl, trivial⟩ ?_
  intro x hx
  simp only [upd, za, zaa, List.cons_append, List.nil_append]
  obtain ⟨hk, hle, hy⟩ := hx
  refine zaf ?_
  refine zaf ?_
  refine zad ?_
  refine zab rfl rfl rfl (zac (.inl rfl) (ev1 rfl)) ?_
  refine zab rfl rfl rfl (op_leq rfl (ev1 rfl) (ev1 rfl)) ?_
  refine zae ?_
  refine dwp_cond rfl (fun c1 => ?_) (fun c1 => ?_)
  · try simp only [decide_eq_true_eq, decide_eq_false_iff_not, beq_iff_eq, bne_iff_ne, beq_eq_false_iff_ne, bne_eq_false_iff_eq, Bool.not_eq_true', Bool.not_eq_false', Bool.and_eq_true, Bool.or_eq_true, Bool.or_eq_false_iff, ne_eq, Decidable.not_not, Int.not_lt, Int.not_le] at c1
    refine zam ?_
    refine zaf ?_
    refine zat ?_
    by_cases hs : ∃ n q, tN 8 x.2.2 = .ok n q ∧ tkVs (8 - (x.1 + 1)) (upV x.2.1 (x.1 + 1) n.toNat) q = .err e
    · obtain ⟨n, q, hn, hz⟩ := hs
      have hn0 : 0 ≤ n := (tN_ok hk hn).2.2.2.1.1
      refine zad ?_
      refine zab rfl rfl rfl (zac (.inl rfl) (ev1 rfl)) ?_
      refine zab rfl rfl rfl (zac (.inl rfl) (ev1 rfl)) ?_
      refine zak rfl rfl rfl ((zah [0, 1] [] [] rfl (ev1 rfl) (ec (ev1 rfl) (ec (ev1 rfl) en)) rfl rfl (tnum_ok o (x.2.2) (hk) 8 (by decide) (n) (q) (hn)) rfl rfl rfl rfl rfl rfl).cast (d' := .val (.int .u64 ((n.toNat : Nat) : Int))) (by rw [Int.toNat_of_nonneg hn0])) (by simp only [upd, za, zaa]; exact rfl) ?_
      refine zab rfl rfl rfl (op_ixl rfl ar25 (ev1 rfl) (ev1 rfl) (fun _ => by omega)) ?_
      refine walk_s rfl rfl (op_st1 rfl tb23 (ev1 rfl) (ev1 rfl) rfl (by rw [c9_len]; omega) (c9_setp (j := x.1 + 1) (by omega) (by omega))) (by simp only [upd, za, zaa]; exact rfl) ?_
      refine zae ?_
      refine zad ?_
      refine zab rfl rfl rfl (zac (.inl rfl) (ev1 rfl)) ?_
      refine zab rfl rfl rfl (op_add' rfl (ev1 rfl) (ev1 rfl) (fun _ => IntWalk.i64_in _ (by omega))) ?_
      refine zab rfl rfl rfl (zac (.inr rfl) (ev1 rfl)) ?_
      refine zae ?_
      refine ⟨(x.1 + 1, upV x.2.1 (x.1 + 1) n.toNat, q), [0, 1, 2, 3], ⟨okL_N hk hn, by show x.1 + 1 ≤ 8; omega, hz⟩, by show 8 - (x.1 + 1) < 8 - x.1; omega, rfl, ⟨rfl, rfl, rfl, rfl, trivial⟩, ⟨rfl, rfl, rfl, rfl, trivial⟩⟩
    · have hn : tN 8 x.2.2 = .err e := by
        rcases vs_stop (by omega) hy with h1 | ⟨n, q, h1, h2⟩
        · exact h1
        · exact absurd ⟨n, q, h1, h2⟩ hs
      refine zad ?_
      refine zab rfl rfl rfl (zac (.inl rfl) (ev1 rfl)) ?_
      refine zab rfl rfl rfl (zac (.inl rfl) (ev1 rfl)) ?_
      refine walk_p rfl (dop_callP [0, 1] [] [] rfl (ev1 rfl) (ec (ev1 rfl) (ec (ev1 rfl) en)) rfl rfl (tnum_no o (x.2.2) (hk) 8 (by decide) (e) (hn)) rfl rfl rfl rfl rfl rfl) rfl ?_
      refine kpanL (Mo := [_, _]) [0, 1] rfl rfl ?_ ⟨rfl, rfl, trivial⟩ rfl
      rfl
  · try simp only [decide_eq_true_eq, decide_eq_false_iff_not, beq_iff_eq, bne_iff_ne, beq_eq_false_iff_ne, bne_eq_false_iff_eq, Bool.not_eq_true', Bool.not_eq_false', Bool.and_eq_true, Bool.or_eq_true, Bool.or_eq_false_iff, ne_eq, Decidable.not_not, Int.not_lt, Int.not_le] at c1
    refine dwp_exit ?_
    refine zaf ?_
    obtain ⟨hvB, rfl⟩ := vs_endx (by omega) hy
    refine zad ?_
    refine zab rfl rfl rfl (op_ldw rfl tb25 (ev1 rfl) rfl rfl) ?_
    refine zab rfl rfl rfl (zah [] [] [] rfl (ev1 rfl) (ec (ev1 rfl) en) rfl rfl (vCheck_d x.2.1) rfl rfl rfl rfl rfl rfl) ?_
    refine zab rfl rfl rfl (op_eql rfl (ev1 rfl) (ev1 rfl)) ?_
    refine walk_p rfl (dop_callP [] [] [] rfl (ev1 rfl) (ec (ev1 rfl) (ec (ev1 rfl) en)) rfl rfl (cneed_no _ _ (by rw [hvB]; rfl)) rfl rfl rfl rfl rfl rfl) rfl ?_
    refine kpanL (Mo := [_, _]) [0, 1] rfl rfl ?_ ⟨rfl, rfl, trivial⟩ rfl
    rfl
theorem tvec_no (o : OpM) (L : List Int) (hL : okL L) (e : Int) (h : tVec L = .err e) : DPan Tryz.prog 61 [.loc 0 0] [.mix 135 (.loc 1 0 :: opD o), .mix 157 [.slf 1 (L).length ((L).flatMap uc8), .val (.int .i64 0)]] (.ifc 139 (.val (.agg #[.int .i64 e]))) [.gone, .gone] := (tvec_nol o L hL e h).dead
end Go.Proofs.YtmacjicebemgoaaGreat
namespace Go.Proofs.YtmacjicebemgoaaGreat
set_option linter.unusedVariables false
set_option linter.unusedSimpArgs false
open Go.RowKit
attribute [local irreducible] tkN valF numN tkRep tkOp tkId tkVec tkRow
set_option maxRecDepth 4000 in
set_option maxHeartbeats 1000000 in
theorem tid1_nol (o : OpM) (L : List Int) (hL : okL L) (e : Int) (h : tId L = .err e) : DPanL Tryz.prog 57 [.loc 0 0] [.mix 135 (.loc 1 0 :: opD o), .mix 157 [.slf 1 (L).length ((L).flatMap uc8), .val (.int .i64 0)]] (.ifc 139 (.val (.agg #[.int .i64 e]))) := by
  refine zal (N := 5) 2 (by kernel_rfl) Tryz.func57 rfl rfl rfl (by simp only [fr0, Nat.zero_add, Nat.reduceAdd]; exact rfl) rfl fun s0 hs0 => ?_
  refine zaf ?_
  refine zaj 1 (by simp only [holes, List.cons_append, List.nil_append]; exact rfl) ?_
  refine zad ?_
  refine zak rfl rfl rfl (zao 2 rfl zr29 rfl) (by simp only [upd, za, zaa]; exact rfl) ?_
  refine zae ?_
  refine zaf ?_
  refine zad ?_
  refine zab rfl rfl rfl (zac (.inl rfl) (ev1 rfl)) ?_
  refine walk_p rfl (dop_callP [0, 1] [] [] rfl (ev1 rfl) (ec (ev1 rfl) en) rfl rfl (tid_no o L hL e h) rfl rfl rfl rfl rfl rfl) rfl ?_
  refine kpanL (Mo := [_, _]) [0, 1] rfl rfl ?_ ⟨rfl, rfl, trivial⟩ rfl
  rfl
theorem tid1_no (o : OpM) (L : List Int) (hL : okL L) (e : Int) (h : tId L = .err e) : DPan Tryz.prog 57 [.loc 0 0] [.mix 135 (.loc 1 0 :: opD o), .mix 157 [.slf 1 (L).length ((L).flatMap uc8), .val (.int .i64 0)]] (.ifc 139 (.val (.agg #[.int .i64 e]))) [.gone, .gone] := (tid1_nol o L hL e h).dead
set_option maxRecDepth 4000 in
set_option maxHeartbeats 1000000 in
theorem tvector1_ok (o : OpM) (L : List Int) (hL : okL L) (v : Vec) (r : List Int) (h : tVec L = .ok v r) : DFun Tryz.prog 60 [.loc 0 0] [.mix 135 (.loc 1 0 :: opD o), .mix 157 [.slf 1 (L).length ((L).flatMap uc8), .val (.int .i64 0)]] (.val (.agg (c9 v).toArray)) [.mix 135 (.loc 1 0 :: opD o), .mix 157 [.slf 1 (r).length ((r).flatMap uc8), .val (.int .i64 0)]] := by
  refine zal (N := 5) 2 (by kernel_rfl) Tryz.func60 rfl rfl rfl (by simp only [fr0, Nat.zero_add, Nat.reduceAdd]; exact rfl) rfl fun s0 hs0 => ?_
  refine zaf ?_
  refine zaj 1 (by simp only [holes, List.cons_append, List.nil_append]; exact rfl) ?_
  refine zad ?_
  refine zak rfl rfl rfl (zao 2 rfl zr25 rfl) (by simp only [upd, za, zaa]; exact rfl) ?_
  refine zae ?_
  refine zaf ?_
  refine zad ?_
  refine zab rfl rfl rfl (zac (.inl rfl) (ev1 rfl)) ?_
  refine zak rfl rfl rfl (zah [0, 1] [] [] rfl (ev1 rfl) (ec (ev1 rfl) en) rfl rfl (tvec_ok o L hL v r h) rfl rfl rfl rfl rfl rfl) (by simp only [upd, za, zaa]; exact rfl) ?_
  refine walk_s rfl rfl (op_stwa rfl tb25 (ev1 rfl) (ev1 rfl) rfl rfl rfl rfl) (by simp only [upd, za, zaa]; exact rfl) ?_
  refine zae ?_
  refine zan ?_
  refine kend [0, 1] (rs1 rfl (rv_w tb25 rfl rfl rfl)) rfl rfl ?_ ⟨rfl, rfl, trivial⟩
  rfl
set_option maxRecDepth 4000 in
set_option maxHeartbeats 1000000 in
theorem tvector1_nol (o : OpM) (L : List Int) (hL : okL L) (e : Int) (h : tVec L = .err e) : DPanL Tryz.prog 60 [.loc 0 0] [.mix 135 (.loc 1 0 :: opD o), .mix 157 [.slf 1 (L).length ((L).flatMap uc8), .val (.int .i64 0)]] (.ifc 139 (.val (.agg #[.int .i64 e]))) := by
  refine zal (N := 5) 2 (by kernel_rfl) Tryz.func60 rfl rfl rfl (by simp only [fr0, Nat.zero_add, Nat.reduceAdd]; exact rfl) rfl fun s0 hs0 => ?_
  refine zaf ?_
  refine zaj 1 (by simp only [holes, List.cons_append, List.nil_append]; exact rfl) ?_
  refine zad ?_
  refine zak rfl rfl rfl (zao 2 rfl zr25 rfl) (by simp only [upd, za, zaa]; exact rfl) ?_
  refine zae ?_
  refine zaf ?_
  refine zad ?_
  refine zab rfl rfl rfl (zac (.inl rfl) (ev1 rfl)) ?_
  refine walk_p rfl (dop_callP [0, 1] [] [] rfl (ev1 rfl) (ec (ev1 rfl) en) rfl rfl (tvec_no o L hL e h) rfl rfl rfl rfl rfl rfl) rfl ?_
  refine kpanL (Mo := [_, _]) [0, 1] rfl rfl ?_ ⟨rfl, rfl, trivial⟩ rfl
  rfl
theorem tvector1_no (o : OpM) (L : List Int) (hL : okL L) (e : Int) (h : tVec L = .err e) : DPan Tryz.prog 60 [.loc 0 0] [.mix 135 (.loc 1 0 :: opD o), .mix 157 [.slf 1 (L).length ((L).flatMap uc8), .val (.int .i64 0)]] (.ifc 139 (.val (.agg #[.int .i64 e]))) [.gone, .gone] := (tvector1_nol o L hL e h).dead
end Go.Proofs.YtmacjicebemgoaaGreat
namespace Go.Proofs.YtmacjicebemgoaaGreat
set_option linter.unusedVariables false
set_option linter.unusedSimpArgs false
open Go.RowKit
attribute [local irreducible] tkN valF numN tkRep tkOp tkId tkVec tkRow
set_option maxRecDepth 4000 in
set_option maxHeartbeats 1000000 in
theorem ktidd_caught (e n : Int) : DDef Tryz.prog 87 [.loc 0 0] [.flat 31 [.int .i64 e]] (some (.ifc 139 (.val (.agg #[.int .i64 n])))) none [.flat 31 [.int .i64 n]] := by
  refine ddef_go1 (dr := .tup []) (t := 1) (N := 3) 1 (by kernel_rfl) Tryz.func87 rfl rfl rfl (by simp only [fr0, Nat.zero_add, Nat.reduceAdd]; exact rfl) rfl rfl rfl rfl rfl fun s0 hs0 => ?_
  refine zab rfl rfl rfl (zah [] [] [] rfl (ev1 rfl) (ec (ev1 rfl) en) rfl rfl (ctold_w n) rfl rfl rfl rfl rfl rfl) ?_
  refine walk_s rfl rfl (op_stwi rfl tb31 (ev1 rfl) (ev1 rfl) rfl) (by simp only [upd, za, zaa]; exact rfl) ?_
  refine zae ?_
  refine kend [0] (res_none rfl) rfl rfl ?_ ⟨rfl, trivial⟩
  rfl
set_option maxRecDepth 4000 in
set_option maxHeartbeats 1000000 in
theorem ktid_no (L : List Int) (hL : okL L) (h15 : L.length ≤ 32768) (e : Int) (h : tId L = .err e) : DFun Tryz.prog 56 [.slf 1 (L).length ((L).flatMap uc8), .fn (.func 57) [] []] [] (.tup [.val (.agg (idc zI3).toArray), .val (.int .i64 0), .val (.int .i64 e)]) [] := by
  refine dcalls_body (N := 41) 0 (by kernel_rfl) Tryz.func56 rfl rfl rfl (by simp only [fr0, Nat.zero_add, Nat.reduceAdd]; exact rfl) rfl fun s0 hs0 => ?_
  refine dbody_seq rfl hs0 ?_
  refine zaj 2 (by simp only [holes, List.cons_append, List.nil_append]; exact rfl) ?_
  refine zad ?_
  refine zak rfl rfl rfl (zao 0 rfl zr29 rfl) (by simp only [upd, za, zaa]; exact rfl) ?_
  refine zab rfl rfl rfl (zac (.inr rfl) (ev1 rfl)) ?_
  refine zak rfl rfl rfl (zao 1 rfl zr31 rfl) (by simp only [upd, za, zaa]; exact rfl) ?_
  refine zae ?_
  refine dbody_defer (l0 := [_]) rfl rfl rfl rfl rfl hs0 ?_
  refine zab rfl rfl rfl (op_mkf rfl en (ec (ev1 rfl) en)) ?_
  refine zae ⟨_, _, _, 2, ev1 rfl, Nat.le_trans hs0 (by decide), rfl, ?_⟩
  have hs1 : s0.M.length ≤ 2 := Nat.le_trans hs0 (by decide)
  refine dbody_end rfl hs0 ?_
  refine zaf ?_
  refine zad ?_
  refine zab rfl rfl rfl (zac (.inl rfl) (ev1 rfl)) ?_
  refine zab rfl rfl rfl (op_len rfl sl30 (ev1 rfl)) ?_
  refine zab rfl rfl rfl ((op_min rfl (ev1 rfl) (ev1 rfl)).cast (d' := .val (.int .i64 (L.length : Int))) (by congr 2; omega)) ?_
  refine zab rfl rfl rfl (zac (.inr rfl) (ev1 rfl)) ?_
  refine zae ?_
  refine zaf ?_
  refine zaj 1 (by simp only [holes, List.cons_append, List.nil_append]; exact rfl) ?_
  refine zad ?_
  refine zab rfl rfl rfl (zac (.inl rfl) (ev1 rfl)) ?_
  refine zab rfl rfl rfl (zac (.inl rfl) (ev1 rfl)) ?_
  refine zab rfl rfl rfl (zac (.inl rfl) (ev1 rfl)) ?_
  refine zab rfl rfl rfl ((op_sl3f (j := L.length) rfl sl30 (ev1 rfl) (ev1 rfl) (ev1 rfl) (fun hp => by first | omega | (simp at hp; omega)) (fun hp => by first | omega | (simp at hp; omega)) (fun hp => by first | omega | (simp at hp; omega)) (fun _ => rfl)).cast (d' := .slf 1 (L).length ((L).flatMap uc8)) (by rw [List.take_length])) ?_
  refine zak rfl rfl rfl (zah [] [] [2] rfl (ev1 rfl) (ec (ev1 rfl) en) rfl rfl (uopen_d L (by have := hL.2; omega)) rfl rfl rfl rfl rfl rfl) (by simp only [upd, za, zaa]; exact rfl) ?_
  refine zab rfl rfl rfl (zac (.inl rfl) (ev1 rfl)) ?_
  refine zab rfl rfl rfl (zar rfl (ev1 rfl) rfl) ?_
  refine zab rfl rfl rfl (zar rfl (ev1 rfl) rfl) ?_
  refine zab rfl rfl rfl (zac (.inr rfl) (ev1 rfl)) ?_
  refine walk_s rfl rfl (op_stwi rfl tb31 (ev1 rfl) (ev1 rfl) rfl) (by simp only [upd, za, zaa]; exact rfl) ?_
  refine zae ?_
  refine zaf ?_
  refine zad ?_
  refine zab rfl rfl rfl (op_ldo rfl tb31 (ev1 rfl) rfl rfl) ?_
  refine zab rfl rfl rfl (op_eql rfl (ev1 rfl) (ev1 rfl)) ?_
  refine zab rfl rfl rfl (op_ldo rfl tb31 (ev1 rfl) rfl rfl) ?_
  refine zab rfl rfl rfl (zah [] [] [] rfl (ev1 rfl) (ec (ev1 rfl) (ec (ev1 rfl) en)) rfl rfl (cneed_ok _ _ (rfl)) rfl rfl rfl rfl rfl rfl) ?_
  refine zae ?_
  refine zaf ?_
  refine zaj 1 (by simp only [holes, List.cons_append, List.nil_append]; exact rfl) ?_
  refine zad ?_
  refine zab rfl rfl rfl (zac (.inl rfl) (ev1 rfl)) ?_
  refine zab rfl rfl rfl ((op_bldD (ps := [(0, .tmp 27)]) rfl fl135 zr135 (ec (ev1 rfl) en) rfl rfl rfl).cast (d' := .agg [.loc 2 0, .val (.int .u64 0), .val (.int .i64 0), .val (.int .u64 0), .val (.int .i64 0), .val (.int .i64 0), .val (.int .i64 0), .val (.int .i64 0), .val (.int .i64 0), .val (.int .i64 0), .val (.int .u8 0), .val (.int .u8 0), .val (.int .u8 0), .val (.int .u8 0), .val (.int .i64 0), .val (.int .i64 0), .val (.slice none 0 0), .val (.int .u64 0), .val (.int .i64 0), .val (.int .u64 0)]) (by kernel_rfl)) ?_
  refine zak rfl rfl rfl (op_boxam 3 rfl (ev1 rfl) rfl) (by simp only [upd, za, zaa]; exact rfl) ?_
  refine zab rfl rfl rfl (zac (.inr rfl) (ev1 rfl)) ?_
  refine zae ?_
  refine zaf ?_
  refine dwp_reb 3 (reb_wk wkZL) rfl rfl (by simp only [List.cons_append, List.nil_append, za, zaa, List.map]; exact rfl) ?_
  refine zaj 1 (by simp only [holes, List.cons_append, List.nil_append]; exact rfl) ?_
  refine zad ?_
  refine zab rfl rfl rfl (zac (.inl rfl) (ev1 rfl)) ?_
  refine zab rfl rfl rfl (zac (.inl rfl) (ev1 rfl)) ?_
  refine walk_p rfl (dop_callP [3, 2] [] [] rfl (ev1 rfl) (ec (ev1 rfl) en) rfl rfl (tid1_no zO L hL e h) rfl rfl rfl rfl rfl rfl) rfl ?_
  refine kdef (dturn_caught [1] [] rfl rfl rfl (ktidd_caught _ _) rfl rfl rfl rfl rfl) ?_
  refine kend0 (rs3 rfl (rv_w tb29 rfl rfl rfl) (rv_t rfl) (rv_1 tb31 rfl rfl rfl)) rfl ?_
  rfl
set_option maxRecDepth 4000 in
set_option maxHeartbeats 1000000 in
theorem takeId_no (L : List Int) (hL : okL L) (h15 : L.length ≤ 32768) (e : Int) (h : tId L = .err e) : DFun Tryz.prog 27 [.slf 1 (L).length ((L).flatMap uc8)] [] (.tup [.val (.agg (idc zI3).toArray), .val (.int .i64 0), .val (.int .i64 e)]) [] := by
  refine zal (N := 10) 0 (by kernel_rfl) Tryz.func27 rfl rfl rfl (by simp only [fr0, Nat.zero_add, Nat.reduceAdd]; exact rfl) rfl fun s0 hs0 => ?_
  refine dwp_len (t := 0) rfl fun hl0 hL0 => ?_
  refine zaf ?_
  refine zaj 1 (by simp only [holes, List.cons_append, List.nil_append]; exact rfl) ?_
  refine zad ?_
  refine zak rfl rfl rfl (zao 0 rfl zr29 rfl) (by simp only [upd, za, zaa]; exact rfl) ?_
  refine zab rfl rfl rfl (zac (.inr rfl) (ev1 rfl)) ?_
  refine zab rfl rfl rfl (zac (.inr rfl) (ev1 rfl)) ?_
  refine zae ?_
  refine zaf ?_
  refine zad ?_
  refine zab rfl rfl rfl (zac (.inl rfl) (ev1 rfl)) ?_
  refine zab rfl rfl rfl (zah [] [] [] rfl (ev1 rfl) (ec (ev1 rfl) (ec (ev1 rfl) en)) rfl rfl (ktid_no L hL h15 e h) rfl rfl rfl rfl rfl rfl) ?_
  refine zab rfl rfl rfl (zar rfl (ev1 rfl) rfl) ?_
  refine zab rfl rfl rfl (zar rfl (ev1 rfl) rfl) ?_
  refine zab rfl rfl rfl (zar rfl (ev1 rfl) rfl) ?_
  refine walk_s rfl rfl (op_stwa rfl tb29 (ev1 rfl) (ev1 rfl) rfl rfl rfl rfl) (by simp only [upd, za, zaa]; exact rfl) ?_
  refine zab rfl rfl rfl (zac (.inr rfl) (ev1 rfl)) ?_
  refine zab rfl rfl rfl (zac (.inr rfl) (ev1 rfl)) ?_
  refine zae ?_
  refine zan ?_
  refine kend0 (rs3 rfl (rv_w tb29 rfl rfl rfl) (rv_t rfl) (rv_t rfl)) rfl ?_
  rfl
set_option maxRecDepth 4000 in
set_option maxHeartbeats 1000000 in
theorem ktvecd_idle (e : Int) : DDef Tryz.prog 88 [.loc 0 0] [.flat 31 [.int .i64 e]] none none [.flat 31 [.int .i64 0]] := by
  refine ddef_go1 (dr := .tup []) (t := 1) (N := 3) 1 (by kernel_rfl) Tryz.func88 rfl rfl rfl (by simp only [fr0, Nat.zero_add, Nat.reduceAdd]; exact rfl) rfl rfl rfl rfl rfl fun s0 hs0 => ?_
  refine zab rfl rfl rfl (zah [] [] [] rfl (ev1 rfl) (ec (ev1 rfl) en) rfl rfl (ctold_no) rfl rfl rfl rfl rfl rfl) ?_
  refine walk_s rfl rfl (op_stwi rfl tb31 (ev1 rfl) (ev1 rfl) rfl) (by simp only [upd, za, zaa]; exact rfl) ?_
  refine zae ?_
  refine kend [0] (res_none rfl) rfl rfl ?_ ⟨rfl, trivial⟩
  rfl
set_option maxRecDepth 4000 in
set_option maxHeartbeats 1000000 in
theorem ktvecd_caught (e n : Int) : DDef Tryz.prog 88 [.loc 0 0] [.flat 31 [.int .i64 e]] (some (.ifc 139 (.val (.agg #[.int .i64 n])))) none [.flat 31 [.int .i64 n]] := by
  refine ddef_go1 (dr := .tup []) (t := 1) (N := 3) 1 (by kernel_rfl) Tryz.func88 rfl rfl rfl (by simp only [fr0, Nat.zero_add, Nat.reduceAdd]; exact rfl) rfl rfl rfl rfl rfl fun s0 hs0 => ?_
  refine zab rfl rfl rfl (zah [] [] [] rfl (ev1 rfl) (ec (ev1 rfl) en) rfl rfl (ctold_w n) rfl rfl rfl rfl rfl rfl) ?_
  refine walk_s rfl rfl (op_stwi rfl tb31 (ev1 rfl) (ev1 rfl) rfl) (by simp only [upd, za, zaa]; exact rfl) ?_
  refine zae ?_
  refine kend [0] (res_none rfl) rfl rfl ?_ ⟨rfl, trivial⟩
  rfl
set_option maxRecDepth 4000 in
set_option maxHeartbeats 1000000 in
theorem ktvec_ok (L : List Int) (hL : okL L) (h15 : L.length ≤ 32768) (v : Vec) (r : List Int) (h : tVec L = .ok v r) (hr : r.length ≤ L.length) : DFun Tryz.prog 59 [.slf 1 (L).length ((L).flatMap uc8), .fn (.func 60) [] []] [] (.tup [.val (.agg (c9 v).toArray), .val (.int .i64 ((L.length : Int) - (r.length : Int))), .val (.int .i64 0)]) [] := by
  refine dcalls_body (N := 41) 0 (by kernel_rfl) Tryz.func59 rfl rfl rfl (by simp only [fr0, Nat.zero_add, Nat.reduceAdd]; exact rfl) rfl fun s0 hs0 => ?_
  refine dbody_seq rfl hs0 ?_
  refine zaj 2 (by simp only [holes, List.cons_append, List.nil_append]; exact rfl) ?_
  refine zad ?_
  refine zak rfl rfl rfl (zao 0 rfl zr25 rfl) (by simp only [upd, za, zaa]; exact rfl) ?_
  refine zab rfl rfl rfl (zac (.inr rfl) (ev1 rfl)) ?_
  refine zak rfl rfl rfl (zao 1 rfl zr31 rfl) (by simp only [upd, za, zaa]; exact rfl) ?_
  refine zae ?_
  refine dbody_defer (l0 := [_]) rfl rfl rfl rfl rfl hs0 ?_
  refine zab rfl rfl rfl (op_mkf rfl en (ec (ev1 rfl) en)) ?_
  refine zae ⟨_, _, _, 2, ev1 rfl, Nat.le_trans hs0 (by decide), rfl, ?_⟩
  have hs1 : s0.M.length ≤ 2 := Nat.le_trans hs0 (by decide)
  refine dbody_end rfl hs0 ?_
  refine zaf ?_
  refine zad ?_
  refine zab rfl rfl rfl (zac (.inl rfl) (ev1 rfl)) ?_
  refine zab rfl rfl rfl (op_len rfl sl30 (ev1 rfl)) ?_
  refine zab rfl rfl rfl ((op_min rfl (ev1 rfl) (ev1 rfl)).cast (d' := .val (.int .i64 (L.length : Int))) (by congr 2; omega)) ?_
  refine zab rfl rfl rfl (zac (.inr rfl) (ev1 rfl)) ?_
  refine zae ?_
  refine zaf ?_
  refine zaj 1 (by simp only [holes, List.cons_append, List.nil_append]; exact rfl) ?_
  refine zad ?_
  refine zab rfl rfl rfl (zac (.inl rfl) (ev1 rfl)) ?_
  refine zab rfl rfl rfl (zac (.inl rfl) (ev1 rfl)) ?_
  refine zab rfl rfl rfl (zac (.inl rfl) (ev1 rfl)) ?_
  refine zab rfl rfl rfl ((op_sl3f (j := L.length) rfl sl30 (ev1 rfl) (ev1 rfl) (ev1 rfl) (fun hp => by first | omega | (simp at hp; omega)) (fun hp => by first | omega | (simp at hp; omega)) (fun hp => by first | omega | (simp at hp; omega)) (fun _ => rfl)).cast (d' := .slf 1 (L).length ((L).flatMap uc8)) (by rw [List.take_length])) ?_
  refine zak rfl rfl rfl (zah [] [] [2] rfl (ev1 rfl) (ec (ev1 rfl) en) rfl rfl (uopen_d L (by have := hL.2; omega)) rfl rfl rfl rfl rfl rfl) (by simp only [upd, za, zaa]; exact rfl) ?_
  refine zab rfl rfl rfl (zac (.inl rfl) (ev1 rfl)) ?_
  refine zab rfl rfl rfl (zar rfl (ev1 rfl) rfl) ?_
  refine zab rfl rfl rfl (zar rfl (ev1 rfl) rfl) ?_
  refine zab rfl rfl rfl (zac (.inr rfl) (ev1 rfl)) ?_
  refine walk_s rfl rfl (op_stwi rfl tb31 (ev1 rfl) (ev1 rfl) rfl) (by simp only [upd, za, zaa]; exact rfl) ?_
  refine zae ?_
  refine zaf ?_
  refine zad ?_
  refine zab rfl rfl rfl (op_ldo rfl tb31 (ev1 rfl) rfl rfl) ?_
  refine zab rfl rfl rfl (op_eql rfl (ev1 rfl) (ev1 rfl)) ?_
  refine zab rfl rfl rfl (op_ldo rfl tb31 (ev1 rfl) rfl rfl) ?_
  refine zab rfl rfl rfl (zah [] [] [] rfl (ev1 rfl) (ec (ev1 rfl) (ec (ev1 rfl) en)) rfl rfl (cneed_ok _ _ (rfl)) rfl rfl rfl rfl rfl rfl) ?_
  refine zae ?_
  refine zaf ?_
  refine zaj 1 (by simp only [holes, List.cons_append, List.nil_append]; exact rfl) ?_
  refine zad ?_
  refine zab rfl rfl rfl (zac (.inl rfl) (ev1 rfl)) ?_
  refine zab rfl rfl rfl ((op_bldD (ps := [(0, .tmp 27)]) rfl fl135 zr135 (ec (ev1 rfl) en) rfl rfl rfl).cast (d' := .agg [.loc 2 0, .val (.int .u64 0), .val (.int .i64 0), .val (.int .u64 0), .val (.int .i64 0), .val (.int .i64 0), .val (.int .i64 0), .val (.int .i64 0), .val (.int .i64 0), .val (.int .i64 0), .val (.int .u8 0), .val (.int .u8 0), .val (.int .u8 0), .val (.int .u8 0), .val (.int .i64 0), .val (.int .i64 0), .val (.slice none 0 0), .val (.int .u64 0), .val (.int .i64 0), .val (.int .u64 0)]) (by kernel_rfl)) ?_
  refine zak rfl rfl rfl (op_boxam 3 rfl (ev1 rfl) rfl) (by simp only [upd, za, zaa]; exact rfl) ?_
  refine zab rfl rfl rfl (zac (.inr rfl) (ev1 rfl)) ?_
  refine zae ?_
  refine zaf ?_
  refine dwp_reb 3 (reb_wk wkZL) rfl rfl (by simp only [List.cons_append, List.nil_append, za, zaa, List.map]; exact rfl) ?_
  refine zaj 1 (by simp only [holes, List.cons_append, List.nil_append]; exact rfl) ?_
  refine zad ?_
  refine zab rfl rfl rfl (zac (.inl rfl) (ev1 rfl)) ?_
  refine zab rfl rfl rfl (zac (.inl rfl) (ev1 rfl)) ?_
  refine zak rfl rfl rfl (zah [3, 2] [] [] rfl (ev1 rfl) (ec (ev1 rfl) en) rfl rfl (tvector1_ok zO L hL v r h) rfl rfl rfl rfl rfl rfl) (by simp only [upd, za, zaa]; exact rfl) ?_
  refine zak rfl rfl rfl (zao 4 rfl zr25 rfl) (by simp only [upd, za, zaa]; exact rfl) ?_
  refine walk_s rfl rfl (op_stwa rfl tb25 (ev1 rfl) (ev1 rfl) rfl rfl rfl rfl) (by simp only [upd, za, zaa]; exact rfl) ?_
  refine zae ?_
  refine zaf ?_
  refine dwp_draw [([4], []), ([], []), ([], []), ([], []), ([], []), ([3], []), ([2], []), ([], []), ([0], [0]), ([], []), ([1], [1])] mixed (by kernel_rfl) ?_
  refine lex_r rfl rfl (op_ldw rfl tb25 (ev1 rfl) rfl rfl) ?_
  refine lex_r rfl rfl (zac (.inl rfl) (ev1 rfl)) ?_
  refine lex_r rfl rfl (zac (.inl rfl) (ev1 rfl)) ?_
  refine lex_r rfl rfl (op_nc rfl (ev1 rfl) (fun s v h => by cases h; exact ⟨_, rfl⟩)) ?_
  refine lex_r rfl rfl (zap rfl fo135_0 (ev1 rfl)) ?_
  refine lex_r rfl rfl (zaq rfl tb131 (ev1 rfl) rfl rfl) ?_
  refine lex_r rfl rfl (zah [] [2] [] rfl (ev1 rfl) (ec (ev1 rfl) en) rfl rfl (urleft_v r 0) rfl rfl rfl rfl rfl rfl) ?_
  refine lex_r rfl rfl (op_sub' rfl (ev1 rfl) (ev1 rfl) (fun _ => IntWalk.i64_in _ (by omega))) ?_
  refine lex_s rfl rfl (op_stwa rfl tb25 (ev1 rfl) (ev1 rfl) rfl rfl rfl rfl) rfl (by simp only [upd, za, zaa]; exact rfl) ?_
  refine lex_r rfl rfl (zac (.inr rfl) (ev1 rfl)) ?_
  refine lex_s rfl rfl (op_stwi rfl tb31 (ev1 rfl) (ev1 rfl) rfl) rfl (by simp only [upd, za, zaa]; exact rfl) ?_
  refine lex_nil ?_
  refine zan ?_
  refine kdef (dturn_idle [1] [] rfl rfl (ktvecd_idle _) rfl rfl rfl rfl rfl) ?_
  refine kend0 (rs3 rfl (rv_w tb25 rfl rfl rfl) (rv_t rfl) (rv_1 tb31 rfl rfl rfl)) rfl ?_
  rfl
set_option maxRecDepth 4000 in
set_option maxHeartbeats 1000000 in
theorem ktvec_no (L : List Int) (hL : okL L) (h15 : L.length ≤ 32768) (e : Int) (h : tVec L = .err e) : DFun Tryz.prog 59 [.slf 1 (L).length ((L).flatMap uc8), .fn (.func 60) [] []] [] (.tup [.val (.agg (c9 z9).toArray), .val (.int .i64 0), .val (.int .i64 e)]) [] := by
  refine dcalls_body (N := 41) 0 (by kernel_rfl) Tryz.func59 rfl rfl rfl (by simp only [fr0, Nat.zero_add, Nat.reduceAdd]; exact rfl) rfl fun s0 hs0 => ?_
  refine dbody_seq rfl hs0 ?_
  refine zaj 2 (by simp only [holes, List.cons_append, List.nil_append]; exact rfl) ?_
  refine zad ?_
  refine zak rfl rfl rfl (zao 0 rfl zr25 rfl) (by simp only [upd, za, zaa]; exact rfl) ?_
  refine zab rfl rfl rfl (zac (.inr rfl) (ev1 rfl)) ?_
  refine zak rfl rfl rfl (zao 1 rfl zr31 rfl) (by simp only [upd, za, zaa]; exact rfl) ?_
  refine zae ?_
  refine dbody_defer (l0 := [_]) rfl rfl rfl rfl rfl hs0 ?_
  refine zab rfl rfl rfl (op_mkf rfl en (ec (ev1 rfl) en)) ?_
  refine zae ⟨_, _, _, 2, ev1 rfl, Nat.le_trans hs0 (by decide), rfl, ?_⟩
  have hs1 : s0.M.length ≤ 2 := Nat.le_trans hs0 (by decide)
  refine dbody_end rfl hs0 ?_
  refine zaf ?_
  refine zad ?_
  refine zab rfl rfl rfl (zac (.inl rfl) (ev1 rfl)) ?_
  refine zab rfl rfl rfl (op_len rfl sl30 (ev1 rfl)) ?_
  refine zab rfl rfl rfl ((op_min rfl (ev1 rfl) (ev1 rfl)).cast (d' := .val (.int .i64 (L.length : Int))) (by congr 2; omega)) ?_
  refine zab rfl rfl rfl (zac (.inr rfl) (ev1 rfl)) ?_
  refine zae ?_
  refine zaf ?_
  refine zaj 1 (by simp only [holes, List.cons_append, List.nil_append]; exact rfl) ?_
  refine zad ?_
  refine zab rfl rfl rfl (zac (.inl rfl) (ev1 rfl)) ?_
  refine zab rfl rfl rfl (zac (.inl rfl) (ev1 rfl)) ?_
  refine zab rfl rfl rfl (zac (.inl rfl) (ev1 rfl)) ?_
  refine zab rfl rfl rfl ((op_sl3f (j := L.length) rfl sl30 (ev1 rfl) (ev1 rfl) (ev1 rfl) (fun hp => by first | omega | (simp at hp; omega)) (fun hp => by first | omega | (simp at hp; omega)) (fun hp => by first | omega | (simp at hp; omega)) (fun _ => rfl)).cast (d' := .slf 1 (L).length ((L).flatMap uc8)) (by rw [List.take_length])) ?_
  refine zak rfl rfl rfl (zah [] [] [2] rfl (ev1 rfl) (ec (ev1 rfl) en) rfl rfl (uopen_d L (by have := hL.2; omega)) rfl rfl rfl rfl rfl rfl) (by simp only [upd, za, zaa]; exact rfl) ?_
  refine zab rfl rfl rfl (zac (.inl rfl) (ev1 rfl)) ?_
  refine zab rfl rfl rfl (zar rfl (ev1 rfl) rfl) ?_
  refine zab rfl rfl rfl (zar rfl (ev1 rfl) rfl) ?_
  refine zab rfl rfl rfl (zac (.inr rfl) (ev1 rfl)) ?_
  refine walk_s rfl rfl (op_stwi rfl tb31 (ev1 rfl) (ev1 rfl) rfl) (by simp only [upd, za, zaa]; exact rfl) ?_
  refine zae ?_
  refine zaf ?_
  refine zad ?_
  refine zab rfl rfl rfl (op_ldo rfl tb31 (ev1 rfl) rfl rfl) ?_
  refine zab rfl rfl rfl (op_eql rfl (ev1 rfl) (ev1 rfl)) ?_
  refine zab rfl rfl rfl (op_ldo rfl tb31 (ev1 rfl) rfl rfl) ?_
  refine zab rfl rfl rfl (zah [] [] [] rfl (ev1 rfl) (ec (ev1 rfl) (ec (ev1 rfl) en)) rfl rfl (cneed_ok _ _ (rfl)) rfl rfl rfl rfl rfl rfl) ?_
  refine zae ?_
  refine zaf ?_
  refine zaj 1 (by simp only [holes, List.cons_append, List.nil_append]; exact rfl) ?_
  refine zad ?_
  refine zab rfl rfl rfl (zac (.inl rfl) (ev1 rfl)) ?_
  refine zab rfl rfl rfl ((op_bldD (ps := [(0, .tmp 27)]) rfl fl135 zr135 (ec (ev1 rfl) en) rfl rfl rfl).cast (d' := .agg [.loc 2 0, .val (.int .u64 0), .val (.int .i64 0), .val (.int .u64 0), .val (.int .i64 0), .val (.int .i64 0), .val (.int .i64 0), .val (.int .i64 0), .val (.int .i64 0), .val (.int .i64 0), .val (.int .u8 0), .val (.int .u8 0), .val (.int .u8 0), .val (.int .u8 0), .val (.int .i64 0), .val (.int .i64 0), .val (.slice none 0 0), .val (.int .u64 0), .val (.int .i64 0), .val (.int .u64 0)]) (by kernel_rfl)) ?_
  refine zak rfl rfl rfl (op_boxam 3 rfl (ev1 rfl) rfl) (by simp only [upd, za, zaa]; exact rfl) ?_
  refine zab rfl rfl rfl (zac (.inr rfl) (ev1 rfl)) ?_
  refine zae ?_
  refine zaf ?_
  refine dwp_reb 3 (reb_wk wkZL) rfl rfl (by simp only [List.cons_append, List.nil_append, za, zaa, List.map]; exact rfl) ?_
  refine zaj 1 (by simp only [holes, List.cons_append, List.nil_append]; exact rfl) ?_
  refine zad ?_
  refine zab rfl rfl rfl (zac (.inl rfl) (ev1 rfl)) ?_
  refine zab rfl rfl rfl (zac (.inl rfl) (ev1 rfl)) ?_
  refine walk_p rfl (dop_callP [3, 2] [] [] rfl (ev1 rfl) (ec (ev1 rfl) en) rfl rfl (tvector1_no zO L hL e h) rfl rfl rfl rfl rfl rfl) rfl ?_
  refine kdef (dturn_caught [1] [] rfl rfl rfl (ktvecd_caught _ _) rfl rfl rfl rfl rfl) ?_
  refine kend0 (rs3 rfl (rv_w tb25 rfl rfl rfl) (rv_t rfl) (rv_1 tb31 rfl rfl rfl)) rfl ?_
  rfl
set_option maxRecDepth 4000 in
set_option maxHeartbeats 1000000 in
theorem takeVector_ok (L : List Int) (hL : okL L) (h15 : L.length ≤ 32768) (v : Vec) (r : List Int) (h : tVec L = .ok v r) (hr : r.length ≤ L.length) : DFun Tryz.prog 28 [.slf 1 (L).length ((L).flatMap uc8)] [] (.tup [.val (.agg (c9 v).toArray), .val (.int .i64 ((L.length : Int) - (r.length : Int))), .val (.int .i64 0)]) [] := by
  refine zal (N := 10) 0 (by kernel_rfl) Tryz.func28 rfl rfl rfl (by simp only [fr0, Nat.zero_add, Nat.reduceAdd]; exact rfl) rfl fun s0 hs0 => ?_
  refine dwp_len (t := 0) rfl fun hl0 hL0 => ?_
  refine zaf ?_
  refine zaj 1 (by simp only [holes, List.cons_append, List.nil_append]; exact rfl) ?_
  refine zad ?_
  refine zak rfl rfl rfl (zao 0 rfl zr25 rfl) (by simp only [upd, za, zaa]; exact rfl) ?_
  refine zab rfl rfl rfl (zac (.inr rfl) (ev1 rfl)) ?_
  refine zab rfl rfl rfl (zac (.inr rfl) (ev1 rfl)) ?_
  refine zae ?_
  refine zaf ?_
  refine zad ?_
  refine zab rfl rfl rfl (zac (.inl rfl) (ev1 rfl)) ?_
  refine zab rfl rfl rfl (zah [] [] [] rfl (ev1 rfl) (ec (ev1 rfl) (ec (ev1 rfl) en)) rfl rfl (ktvec_ok L hL h15 v r h hr) rfl rfl rfl rfl rfl rfl) ?_
  refine zab rfl rfl rfl (zar rfl (ev1 rfl) rfl) ?_
  refine zab rfl rfl rfl (zar rfl (ev1 rfl) rfl) ?_
  refine zab rfl rfl rfl (zar rfl (ev1 rfl) rfl) ?_
  refine walk_s rfl rfl (op_stwa rfl tb25 (ev1 rfl) (ev1 rfl) rfl rfl rfl rfl) (by simp only [upd, za, zaa]; exact rfl) ?_
  refine zab rfl rfl rfl (zac (.inr rfl) (ev1 rfl)) ?_
  refine zab rfl rfl rfl (zac (.inr rfl) (ev1 rfl)) ?_
  refine zae ?_
  refine zan ?_
  refine kend0 (rs3 rfl (rv_w tb25 rfl rfl rfl) (rv_t rfl) (rv_t rfl)) rfl ?_
  rfl
set_option maxRecDepth 4000 in
set_option maxHeartbeats 1000000 in
theorem takeVector_no (L : List Int) (hL : okL L) (h15 : L.length ≤ 32768) (e : Int) (h : tVec L = .err e) : DFun Tryz.prog 28 [.slf 1 (L).length ((L).flatMap uc8)] [] (.tup [.val (.agg (c9 z9).toArray), .val (.int .i64 0), .val (.int .i64 e)]) [] := by
  refine zal (N := 10) 0 (by kernel_rfl) Tryz.func28 rfl rfl rfl (by simp only [fr0, Nat.zero_add, Nat.reduceAdd]; exact rfl) rfl fun s0 hs0 => ?_
  refine dwp_len (t := 0) rfl fun hl0 hL0 => ?_
  refine zaf ?_
  refine zaj 1 (by simp only [holes, List.cons_append, List.nil_append]; exact rfl) ?_
  refine zad ?_
  refine zak rfl rfl rfl (zao 0 rfl zr25 rfl) (by simp only [upd, za, zaa]; exact rfl) ?_
  refine zab rfl rfl rfl (zac (.inr rfl) (ev1 rfl)) ?_
  refine zab rfl rfl rfl (zac (.inr rfl) (ev1 rfl)) ?_
  refine zae ?_
  refine zaf ?_
  refine zad ?_
  refine zab rfl rfl rfl (zac (.inl rfl) (ev1 rfl)) ?_
  refine zab rfl rfl rfl (zah [] [] [] rfl (ev1 rfl) (ec (ev1 rfl) (ec (ev1 rfl) en)) rfl rfl (ktvec_no L hL h15 e h) rfl rfl rfl rfl rfl rfl) ?_
  refine zab rfl rfl rfl (zar rfl (ev1 rfl) rfl) ?_
  refine zab rfl rfl rfl (zar rfl (ev1 rfl) rfl) ?_
  refine zab rfl rfl rfl (zar rfl (ev1 rfl) rfl) ?_
  refine walk_s rfl rfl (op_stwa rfl tb25 (ev1 rfl) (ev1 rfl) rfl rfl rfl rfl) (by simp only [upd, za, zaa]; exact rfl) ?_
  refine zab rfl rfl rfl (zac (.inr rfl) (ev1 rfl)) ?_
  refine zab rfl rfl rfl (zac (.inr rfl) (ev1 rfl)) ?_
  refine zae ?_
  refine zan ?_
  refine kend0 (rs3 rfl (rv_w tb25 rfl rfl rfl) (rv_t rfl) (rv_t rfl)) rfl ?_
  rfl
end Go.Proofs.YtmacjicebemgoaaGreat
namespace Go.Proofs.YtmacjicebemgoaaGreat
set_option linter.unusedVariables false
set_option linter.unusedSimpArgs false
open Go.RowKit
attribute [local irreducible] opL layW idB rowL vecL tkOp tkRow tkId tkVec
set_option maxRecDepth 4000 in
set_option maxHeartbeats 1000000 in
theorem one_d (x : List Int) (hx : isB x) : DFun Tryz.prog 5 [.slf 1 (x).length ((x).flatMap uc8)] [] (.val (.bool true)) [] := by
  refine zal (N := 133) 0 (by kernel_rfl) Tryz.func5 rfl rfl rfl (by simp only [fr0, Nat.zero_add, Nat.reduceAdd]; exact rfl) rfl fun s0 hs0 => ?_
  refine dwp_len (t := 0) rfl fun hl0 hL0 => ?_
  refine zaf ?_
  refine zad ?_
  refine zab rfl rfl rfl (zac (.inr rfl) (ev1 rfl)) ?_
  refine zae ?_
  refine zaf ?_
  refine zaf ?_
  refine zad ?_
  refine zab rfl rfl rfl (zah [] [] [] rfl (ev1 rfl) en rfl rfl (wakes_d) rfl rfl rfl rfl rfl rfl) ?_
  refine zab rfl rfl rfl ((op_not rfl (ev1 rfl)).cast (d' := .val (.bool false)) (by kernel_rfl)) ?_
  refine zae ?_
  refine dwp_if_f rfl (rfl) ?_
  refine zam ?_
  refine zaf ?_
  have hL : okL (x.take (min x.length 2000)) := ⟨fun y hy => hx y (List.mem_of_mem_take hy), by rw [List.length_take]; omega⟩
  have h15 : (x.take (min x.length 2000)).length ≤ 32768 := by rw [List.length_take]; omega
  refine zad ?_
  refine zab rfl rfl rfl (zac (.inl rfl) (ev1 rfl)) ?_
  refine zab rfl rfl rfl (zac (.inl rfl) (ev1 rfl)) ?_
  refine zab rfl rfl rfl (op_len rfl sl30 (ev1 rfl)) ?_
  refine zab rfl rfl rfl (op_min rfl (ev1 rfl) (ev1 rfl)) ?_
  refine zab rfl rfl rfl (op_sltk (j := min x.length 2000) rfl sl30 (ev1 rfl) (bd_some (ev1 rfl)) (fun _ => by omega) (fun _ => by omega) (fun _ => rfl)) ?_
  refine zab rfl rfl rfl (zac (.inr rfl) (ev1 rfl)) ?_
  refine zae ?_
  refine zaf ?_
  refine zaf ?_
  by_cases qid : ∃ v r, tId (x.take (min x.length 2000)) = .ok v r
  · obtain ⟨vid, rid, hid⟩ := qid
    obtain ⟨bid1, bid2, bid3, bid4⟩ := (cdId 110 290).back hL.1 hid
    refine zaj 1 (by simp only [holes, List.cons_append, List.nil_append]; exact rfl) ?_
    refine zad ?_
    refine zab rfl rfl rfl (zac (.inl rfl) (ev1 rfl)) ?_
    refine zab rfl rfl rfl (zah [] [] [] rfl (ev1 rfl) (ec (ev1 rfl) en) rfl rfl (takeId_ok (x.take (min x.length 2000)) hL h15 vid rid hid bid1) rfl rfl rfl rfl rfl rfl) ?_
    refine zab rfl rfl rfl (zac (.inl rfl) (ev1 rfl)) ?_
    refine zab rfl rfl rfl (zar rfl (ev1 rfl) rfl) ?_
    refine zab rfl rfl rfl (zar rfl (ev1 rfl) rfl) ?_
    refine zab rfl rfl rfl (zar rfl (ev1 rfl) rfl) ?_
    refine zak rfl rfl rfl (zao 0 rfl zr29 rfl) (by simp only [upd, za, zaa]; exact rfl) ?_
    refine walk_s rfl rfl (op_stwa rfl tb29 (ev1 rfl) (ev1 rfl) rfl rfl rfl rfl) (by simp only [upd, za, zaa]; exact rfl) ?_
    refine zab rfl rfl rfl (zac (.inr rfl) (ev1 rfl)) ?_
    refine zab rfl rfl rfl (zac (.inr rfl) (ev1 rfl)) ?_
    refine zae ?_
    refine zaf ?_
    refine zad ?_
    refine zab rfl rfl rfl (zac (.inl rfl) (ev1 rfl)) ?_
    refine zab rfl rfl rfl ((op_eql rfl (ev1 rfl) (ev1 rfl)).cast (d' := .val (.bool true)) (by kernel_rfl)) ?_
    refine zae ?_
    refine dwp_if_t rfl (rfl) ?_
    refine zaf ?_
    refine zad ?_
    refine zab rfl rfl rfl (op_ldw rfl tb29 (ev1 rfl) rfl rfl) ?_
    refine zab rfl rfl rfl (zah [] [] [] rfl (ev1 rfl) (ec (ev1 rfl) en) rfl rfl (cid_ok vid bid4) rfl rfl rfl rfl rfl rfl) ?_
    refine zab rfl rfl rfl (zac (.inl rfl) (ev1 rfl)) ?_
    refine zab rfl rfl rfl (zar rfl (ev1 rfl) rfl) ?_
    refine zab rfl rfl rfl (zar rfl (ev1 rfl) rfl) ?_
    refine zab rfl rfl rfl (zac (.inr rfl) (ev1 rfl)) ?_
    refine zab rfl rfl rfl (zac (.inr rfl) (ev1 rfl)) ?_
    refine zae ?_
    refine zaf ?_
    refine zad ?_
    refine zab rfl rfl rfl (zac (.inl rfl) (ev1 rfl)) ?_
    refine zab rfl rfl rfl ((op_neq rfl (ev1 rfl) (ev1 rfl)).cast (d' := .val (.bool false)) (by kernel_rfl)) ?_
    refine zab rfl rfl rfl (zac (.inl rfl) (ev1 rfl)) ?_
    refine zai (gd_f (b := false) rfl rfl rfl) rfl rfl rfl (zac (.inl rfl) (ev1 rfl)) (by simp only [upd, za, zaa]; exact rfl) ?_
    refine zai (gd_f (b := false) rfl rfl rfl) rfl rfl rfl (zac (.inl rfl) (ev1 rfl)) (by simp only [upd, za, zaa]; exact rfl) ?_
    refine zai (gd_f (b := false) rfl rfl rfl) rfl rfl rfl (zac (.inl rfl) (ev1 rfl)) (by simp only [upd, za, zaa]; exact rfl) ?_
    refine zai (gd_f (b := false) rfl rfl rfl) rfl rfl rfl (op_sltk (j := (x.take (min x.length 2000)).length - rid.length) rfl sl30 (ev2 rfl) (bd_some (ev2 rfl)) (fun _ => by omega) (fun _ => by omega) (fun _ => rfl)) (by simp only [upd, za, zaa]; exact rfl) ?_
    refine zai (gd_f (b := false) rfl rfl rfl) rfl rfl rfl ((zah [] [] [] rfl (ev1 rfl) (ec (ev2 rfl) (ec (ev2 rfl) en)) rfl rfl (equalB (idB vid) ((x.take (min x.length 2000)).take ((x.take (min x.length 2000)).length - rid.length))) rfl rfl rfl rfl rfl rfl).cast (d' := .val (.bool true)) (by rw [bid2]; simp)) (by simp only [upd, za, zaa]; exact rfl) ?_
    refine zai (gd_f (b := false) rfl rfl rfl) rfl rfl rfl ((op_not rfl (ev2 rfl)).cast (d' := .val (.bool false)) (by kernel_rfl)) (by simp only [upd, za, zaa]; exact rfl) ?_
    refine zab rfl rfl rfl ((op_or rfl (ev1 rfl) (ev3 rfl (fun _ => rfl))).cast (d' := .val (.bool false)) (by rfl)) ?_
    refine zae ?_
    refine dwp_if_f rfl (rfl) ?_
    refine zam ?_
    refine zaf ?_
    refine zaf ?_
    by_cases qvec : ∃ v r, tVec (x.take (min x.length 2000)) = .ok v r
    · obtain ⟨vvec, rvec, hvec⟩ := qvec
      obtain ⟨bvec1, bvec2, bvec3, bvec4⟩ := (cdVec 110 290).back hL.1 hvec
      refine zaj 1 (by simp only [holes, List.cons_append, List.nil_append]; exact rfl) ?_
      refine zad ?_
      refine zab rfl rfl rfl (zac (.inl rfl) (ev1 rfl)) ?_
      refine zab rfl rfl rfl (zah [] [] [] rfl (ev1 rfl) (ec (ev1 rfl) en) rfl rfl (takeVector_ok (x.take (min x.length 2000)) hL h15 vvec rvec hvec bvec1) rfl rfl rfl rfl rfl rfl) ?_
      refine zab rfl rfl rfl (zac (.inl rfl) (ev1 rfl)) ?_
      refine zab rfl rfl rfl (zar rfl (ev1 rfl) rfl) ?_
      refine zab rfl rfl rfl (zar rfl (ev1 rfl) rfl) ?_
      refine zab rfl rfl rfl (zar rfl (ev1 rfl) rfl) ?_
      refine zak rfl rfl rfl (zao 1 rfl zr25 rfl) (by simp only [upd, za, zaa]; exact rfl) ?_
      refine walk_s rfl rfl (op_stwa rfl tb25 (ev1 rfl) (ev1 rfl) rfl rfl rfl rfl) (by simp only [upd, za, zaa]; exact rfl) ?_
      refine zab rfl rfl rfl (zac (.inr rfl) (ev1 rfl)) ?_
      refine zab rfl rfl rfl (zac (.inr rfl) (ev1 rfl)) ?_
      refine zae ?_
      refine zaf ?_
      refine zad ?_
      refine zab rfl rfl rfl (zac (.inl rfl) (ev1 rfl)) ?_
      refine zab rfl rfl rfl ((op_eql rfl (ev1 rfl) (ev1 rfl)).cast (d' := .val (.bool true)) (by kernel_rfl)) ?_
      refine zae ?_
      refine dwp_if_t rfl (rfl) ?_
      refine zaf ?_
      refine zad ?_
      refine zab rfl rfl rfl (op_ldw rfl tb25 (ev1 rfl) rfl rfl) ?_
      refine zab rfl rfl rfl (zah [] [] [] rfl (ev1 rfl) (ec (ev1 rfl) en) rfl rfl (cvec_ok vvec bvec4.1) rfl rfl rfl rfl rfl rfl) ?_
      refine zab rfl rfl rfl (zac (.inl rfl) (ev1 rfl)) ?_
      refine zab rfl rfl rfl (zar rfl (ev1 rfl) rfl) ?_
      refine zab rfl rfl rfl (zar rfl (ev1 rfl) rfl) ?_
      refine zab rfl rfl rfl (zac (.inr rfl) (ev1 rfl)) ?_
      refine zab rfl rfl rfl (zac (.inr rfl) (ev1 rfl)) ?_
      refine zae ?_
      refine zaf ?_
      refine zad ?_
      refine zab rfl rfl rfl (zac (.inl rfl) (ev1 rfl)) ?_
      refine zab rfl rfl rfl ((op_neq rfl (ev1 rfl) (ev1 rfl)).cast (d' := .val (.bool false)) (by kernel_rfl)) ?_
      refine zab rfl rfl rfl (zac (.inl rfl) (ev1 rfl)) ?_
      refine zai (gd_f (b := false) rfl rfl rfl) rfl rfl rfl (zac (.inl rfl) (ev1 rfl)) (by simp only [upd, za, zaa]; exact rfl) ?_
      refine zai (gd_f (b := false) rfl rfl rfl) rfl rfl rfl (zac (.inl rfl) (ev1 rfl)) (by simp only [upd, za, zaa]; exact rfl) ?_
      refine zai (gd_f (b := false) rfl rfl rfl) rfl rfl rfl (zac (.inl rfl) (ev1 rfl)) (by simp only [upd, za, zaa]; exact rfl) ?_
      refine zai (gd_f (b := false) rfl rfl rfl) rfl rfl rfl (op_sltk (j := (x.take (min x.length 2000)).length - rvec.length) rfl sl30 (ev2 rfl) (bd_some (ev2 rfl)) (fun _ => by omega) (fun _ => by omega) (fun _ => rfl)) (by simp only [upd, za, zaa]; exact rfl) ?_
      refine zai (gd_f (b := false) rfl rfl rfl) rfl rfl rfl ((zah [] [] [] rfl (ev1 rfl) (ec (ev2 rfl) (ec (ev2 rfl) en)) rfl rfl (equalB (vecL vvec) ((x.take (min x.length 2000)).take ((x.take (min x.length 2000)).length - rvec.length))) rfl rfl rfl rfl rfl rfl).cast (d' := .val (.bool true)) (by rw [bvec2]; simp)) (by simp only [upd, za, zaa]; exact rfl) ?_
      refine zai (gd_f (b := false) rfl rfl rfl) rfl rfl rfl ((op_not rfl (ev2 rfl)).cast (d' := .val (.bool false)) (by kernel_rfl)) (by simp only [upd, za, zaa]; exact rfl) ?_
      refine zab rfl rfl rfl ((op_or rfl (ev1 rfl) (ev3 rfl (fun _ => rfl))).cast (d' := .val (.bool false)) (by rfl)) ?_
      refine zae ?_
      refine dwp_if_f rfl (rfl) ?_
      refine zam ?_
      refine zaf ?_
      refine zaf ?_
      by_cases qop : ∃ v r, tOp (x.take (min x.length 2000)) = .ok v r
      · obtain ⟨vop, rop, hop⟩ := qop
        obtain ⟨bop1, bop2, bop3, bop4⟩ := (cdOp 110 290).back hL.1 hop
        refine zaj 1 (by simp only [holes, List.cons_append, List.nil_append]; exact rfl) ?_
        refine zad ?_
        refine zab rfl rfl rfl (zac (.inl rfl) (ev1 rfl)) ?_
        refine zab rfl rfl rfl (zah [] [] [] rfl (ev1 rfl) (ec (ev1 rfl) en) rfl rfl (takeOp_ok (x.take (min x.length 2000)) hL h15 vop rop hop bop1) rfl rfl rfl rfl rfl rfl) ?_
        refine zab rfl rfl rfl (zac (.inl rfl) (ev1 rfl)) ?_
        refine zab rfl rfl rfl (zar rfl (ev1 rfl) rfl) ?_
        refine zab rfl rfl rfl (zar rfl (ev1 rfl) rfl) ?_
        refine zab rfl rfl rfl (zar rfl (ev1 rfl) rfl) ?_
        refine zak rfl rfl rfl (zao 2 rfl zr47 rfl) (by simp only [upd, za, zaa]; exact rfl) ?_
        refine walk_s rfl rfl (op_stam rfl tb47 (ev1 rfl) (ev1 rfl) rfl rfl rfl rfl) (by simp only [upd, za, zaa]; exact rfl) ?_
        refine zab rfl rfl rfl (zac (.inr rfl) (ev1 rfl)) ?_
        refine zab rfl rfl rfl (zac (.inr rfl) (ev1 rfl)) ?_
        refine zae ?_
        refine zaf ?_
        refine zad ?_
        refine zab rfl rfl rfl (zac (.inl rfl) (ev1 rfl)) ?_
        refine zab rfl rfl rfl ((op_eql rfl (ev1 rfl) (ev1 rfl)).cast (d' := .val (.bool true)) (by kernel_rfl)) ?_
        refine zae ?_
        refine dwp_if_t rfl (rfl) ?_
        refine zaf ?_
        refine zad ?_
        refine zab rfl rfl rfl (op_ldmw rfl tb47 (ev1 rfl) rfl rfl) ?_
        refine zab rfl rfl rfl (zah [] [] [] rfl (ev1 rfl) (ec (ev1 rfl) en) rfl rfl (cop_ok vop bop4) rfl rfl rfl rfl rfl rfl) ?_
        refine zab rfl rfl rfl (zac (.inl rfl) (ev1 rfl)) ?_
        refine zab rfl rfl rfl (zar rfl (ev1 rfl) rfl) ?_
        refine zab rfl rfl rfl (zar rfl (ev1 rfl) rfl) ?_
        refine zab rfl rfl rfl (zac (.inr rfl) (ev1 rfl)) ?_
        refine zab rfl rfl rfl (zac (.inr rfl) (ev1 rfl)) ?_
        refine zae ?_
        refine zaf ?_
        refine zad ?_
        refine zab rfl rfl rfl (zac (.inl rfl) (ev1 rfl)) ?_
        refine zab rfl rfl rfl ((op_neq rfl (ev1 rfl) (ev1 rfl)).cast (d' := .val (.bool false)) (by kernel_rfl)) ?_
        refine zab rfl rfl rfl (zac (.inl rfl) (ev1 rfl)) ?_
        refine zai (gd_f (b := false) rfl rfl rfl) rfl rfl rfl (zac (.inl rfl) (ev1 rfl)) (by simp only [upd, za, zaa]; exact rfl) ?_
        refine zai (gd_f (b := false) rfl rfl rfl) rfl rfl rfl (zac (.inl rfl) (ev1 rfl)) (by simp only [upd, za, zaa]; exact rfl) ?_
        refine zai (gd_f (b := false) rfl rfl rfl) rfl rfl rfl (zac (.inl rfl) (ev1 rfl)) (by simp only [upd, za, zaa]; exact rfl) ?_
        refine zai (gd_f (b := false) rfl rfl rfl) rfl rfl rfl (op_sltk (j := (x.take (min x.length 2000)).length - rop.length) rfl sl30 (ev2 rfl) (bd_some (ev2 rfl)) (fun _ => by omega) (fun _ => by omega) (fun _ => rfl)) (by simp only [upd, za, zaa]; exact rfl) ?_
        refine zai (gd_f (b := false) rfl rfl rfl) rfl rfl rfl ((zah [] [] [] rfl (ev1 rfl) (ec (ev2 rfl) (ec (ev2 rfl) en)) rfl rfl (equalB (opL vop) ((x.take (min x.length 2000)).take ((x.take (min x.length 2000)).length - rop.length))) rfl rfl rfl rfl rfl rfl).cast (d' := .val (.bool true)) (by rw [bop2]; simp)) (by simp only [upd, za, zaa]; exact rfl) ?_
        refine zai (gd_f (b := false) rfl rfl rfl) rfl rfl rfl ((op_not rfl (ev2 rfl)).cast (d' := .val (.bool false)) (by kernel_rfl)) (by simp only [upd, za, zaa]; exact rfl) ?_
        refine zab rfl rfl rfl ((op_or rfl (ev1 rfl) (ev3 rfl (fun _ => rfl))).cast (d' := .val (.bool false)) (by rfl)) ?_
        refine zab rfl rfl rfl (zac (.inl rfl) (ev1 rfl)) ?_
        refine zai (gd_f (b := false) rfl rfl rfl) rfl rfl rfl (op_ldmw rfl tb47 (ev1 rfl) rfl rfl) (by simp only [upd, za, zaa]; exact rfl) ?_
        refine zai (gd_f (b := false) rfl rfl rfl) rfl rfl rfl ((zah [] [] [] rfl (ev1 rfl) (ec (ev2 rfl) en) rfl rfl (opCheck_d vop) rfl rfl rfl rfl rfl rfl).cast (d' := .val (.int .i64 0)) (by rw [bop4.1]; rfl)) (by simp only [upd, za, zaa]; exact rfl) ?_
        refine zai (gd_f (b := false) rfl rfl rfl) rfl rfl rfl ((op_neq rfl (ev2 rfl) (ev1 rfl)).cast (d' := .val (.bool false)) (by kernel_rfl)) (by simp only [upd, za, zaa]; exact rfl) ?_
        refine zab rfl rfl rfl ((op_or rfl (ev1 rfl) (ev3 rfl (fun _ => rfl))).cast (d' := .val (.bool false)) (by rfl)) ?_
        refine zae ?_
        refine dwp_if_f rfl (rfl) ?_
        refine zam ?_
        refine zaf ?_
        by_cases qrow : ∃ v r, tRow (x.take (min x.length 2000)) = .ok v r
        · obtain ⟨vrow, rrow, hrow⟩ := qrow
          obtain ⟨brow1, brow2, brow3, brow4⟩ := (cdRow 110 290).back hL.1 hrow
          refine zad ?_
          refine zab rfl rfl rfl (zac (.inl rfl) (ev1 rfl)) ?_
          refine zab rfl rfl rfl (zah [] [] [] rfl (ev1 rfl) (ec (ev1 rfl) en) rfl rfl (takeOps_ok (x.take (min x.length 2000)) hL h15 vrow rrow hrow brow1) rfl rfl rfl rfl rfl rfl) ?_
          refine zab rfl rfl rfl (zac (.inl rfl) (ev1 rfl)) ?_
          refine zab rfl rfl rfl (zar rfl (ev1 rfl) rfl) ?_
          refine zab rfl rfl rfl (zar rfl (ev1 rfl) rfl) ?_
          refine zab rfl rfl rfl (zar rfl (ev1 rfl) rfl) ?_
          refine zab rfl rfl rfl (zac (.inr rfl) (ev1 rfl)) ?_
          refine zab rfl rfl rfl (zac (.inr rfl) (ev1 rfl)) ?_
          refine zab rfl rfl rfl (zac (.inr rfl) (ev1 rfl)) ?_
          refine zae ?_
          refine zaf ?_
          refine zaf ?_
          refine zad ?_
          refine zab rfl rfl rfl (zac (.inl rfl) (ev1 rfl)) ?_
          refine zab rfl rfl rfl ((op_neq rfl (ev1 rfl) (ev1 rfl)).cast (d' := .val (.bool false)) (by kernel_rfl)) ?_
          refine zae ?_
          refine dwp_if_f rfl (rfl) ?_
          refine zam ?_
          refine zaf ?_
          refine zad ?_
          refine zab rfl rfl rfl (zac (.inl rfl) (ev1 rfl)) ?_
          refine zab rfl rfl rfl (zah [] [] [] rfl (ev1 rfl) (ec (ev1 rfl) en) rfl rfl (cops_ok vrow brow4.1 brow4.2) rfl rfl rfl rfl rfl rfl) ?_
          refine zab rfl rfl rfl (zac (.inl rfl) (ev1 rfl)) ?_
          refine zab rfl rfl rfl (zar rfl (ev1 rfl) rfl) ?_
          refine zab rfl rfl rfl (zar rfl (ev1 rfl) rfl) ?_
          refine zab rfl rfl rfl (zac (.inr rfl) (ev1 rfl)) ?_
          refine zab rfl rfl rfl (zac (.inr rfl) (ev1 rfl)) ?_
          refine zae ?_
          refine zaf ?_
          refine zad ?_
          refine zab rfl rfl rfl (zac (.inl rfl) (ev1 rfl)) ?_
          refine zab rfl rfl rfl ((op_eql rfl (ev1 rfl) (ev1 rfl)).cast (d' := .val (.bool true)) (by kernel_rfl)) ?_
          refine zab rfl rfl rfl (zac (.inl rfl) (ev1 rfl)) ?_
          refine zai (gd_t (b := true) rfl rfl rfl) rfl rfl rfl (zac (.inl rfl) (ev1 rfl)) (by simp only [upd, za, zaa]; exact rfl) ?_
          refine zai (gd_t (b := true) rfl rfl rfl) rfl rfl rfl (zac (.inl rfl) (ev1 rfl)) (by simp only [upd, za, zaa]; exact rfl) ?_
          refine zai (gd_t (b := true) rfl rfl rfl) rfl rfl rfl (zac (.inl rfl) (ev1 rfl)) (by simp only [upd, za, zaa]; exact rfl) ?_
          refine zai (gd_t (b := true) rfl rfl rfl) rfl rfl rfl (op_sltk (j := (x.take (min x.length 2000)).length - rrow.length) rfl sl30 (ev2 rfl) (bd_some (ev2 rfl)) (fun _ => by omega) (fun _ => by omega) (fun _ => rfl)) (by simp only [upd, za, zaa]; exact rfl) ?_
          refine zai (gd_t (b := true) rfl rfl rfl) rfl rfl rfl ((zah [] [] [] rfl (ev1 rfl) (ec (ev2 rfl) (ec (ev2 rfl) en)) rfl rfl (equalB (rowL vrow) ((x.take (min x.length 2000)).take ((x.take (min x.length 2000)).length - rrow.length))) rfl rfl rfl rfl rfl rfl).cast (d' := .val (.bool true)) (by rw [brow2]; simp)) (by simp only [upd, za, zaa]; exact rfl) ?_
          refine zab rfl rfl rfl ((op_and rfl (ev1 rfl) (ev3 rfl (fun _ => rfl))).cast (d' := .val (.bool true)) (by rfl)) ?_
          refine zab rfl rfl rfl (zac (.inr rfl) (ev1 rfl)) ?_
          refine zae ?_
          refine zan ?_
          refine kend0 (rs1 rfl (rv_t rfl)) rfl ?_
          rfl
        · obtain ⟨erow, hrow, grow⟩ := tk_or (Er.R (x.take (min x.length 2000))) qrow
          refine zad ?_
          refine zab rfl rfl rfl (zac (.inl rfl) (ev1 rfl)) ?_
          refine zab rfl rfl rfl (zah [] [] [] rfl (ev1 rfl) (ec (ev1 rfl) en) rfl rfl (takeOps_no (x.take (min x.length 2000)) hL h15 erow hrow) rfl rfl rfl rfl rfl rfl) ?_
          refine zab rfl rfl rfl (zac (.inl rfl) (ev1 rfl)) ?_
          refine zab rfl rfl rfl (zar rfl (ev1 rfl) rfl) ?_
          refine zab rfl rfl rfl (zar rfl (ev1 rfl) rfl) ?_
          refine zab rfl rfl rfl (zar rfl (ev1 rfl) rfl) ?_
          refine zab rfl rfl rfl (zac (.inr rfl) (ev1 rfl)) ?_
          refine zab rfl rfl rfl (zac (.inr rfl) (ev1 rfl)) ?_
          refine zab rfl rfl rfl (zac (.inr rfl) (ev1 rfl)) ?_
          refine zae ?_
          refine zaf ?_
          refine zaf ?_
          refine zad ?_
          refine zab rfl rfl rfl (zac (.inl rfl) (ev1 rfl)) ?_
          refine zab rfl rfl rfl (op_neq rfl (ev1 rfl) (ev1 rfl)) ?_
          refine zae ?_
          refine dwp_if_t rfl (by rcases grow with h | h <;> rw [h] <;> rfl) ?_
          refine zaf ?_
          refine zad ?_
          refine zab rfl rfl rfl (zac (.inl rfl) (ev1 rfl)) ?_
          refine zab rfl rfl rfl (op_len rfl sl26 (evwk (ev1 rfl) (Wk.slf0 19))) ?_
          refine zab rfl rfl rfl ((op_eql rfl (ev1 rfl) (ev1 rfl)).cast (d' := .val (.bool true)) (by kernel_rfl)) ?_
          refine zab rfl rfl rfl (zac (.inl rfl) (ev1 rfl)) ?_
          refine zai (gd_t (b := true) rfl rfl rfl) rfl rfl rfl (zac (.inl rfl) (ev1 rfl)) (by simp only [upd, za, zaa]; exact rfl) ?_
          refine zai (gd_t (b := true) rfl rfl rfl) rfl rfl rfl ((op_eql rfl (ev2 rfl) (ev1 rfl)).cast (d' := .val (.bool true)) (by kernel_rfl)) (by simp only [upd, za, zaa]; exact rfl) ?_
          refine zab rfl rfl rfl ((op_and rfl (ev1 rfl) (ev3 rfl (fun _ => rfl))).cast (d' := .val (.bool true)) (by rfl)) ?_
          refine zab rfl rfl rfl (zac (.inr rfl) (ev1 rfl)) ?_
          refine zae ?_
          refine zan ?_
          refine kend0 (rs1 rfl (rv_t rfl)) rfl ?_
          rfl
      · obtain ⟨eop, hop, gop⟩ := tk_or (Er.O (x.take (min x.length 2000))) qop
        refine zaj 1 (by simp only [holes, List.cons_append, List.nil_append]; exact rfl) ?_
        refine zad ?_
        refine zab rfl rfl rfl (zac (.inl rfl) (ev1 rfl)) ?_
        refine zab rfl rfl rfl (zah [] [] [] rfl (ev1 rfl) (ec (ev1 rfl) en) rfl rfl (takeOp_no (x.take (min x.length 2000)) hL h15 eop hop) rfl rfl rfl rfl rfl rfl) ?_
        refine zab rfl rfl rfl (zac (.inl rfl) (ev1 rfl)) ?_
        refine zab rfl rfl rfl (zar rfl (ev1 rfl) rfl) ?_
        refine zab rfl rfl rfl (zar rfl (ev1 rfl) rfl) ?_
        refine zab rfl rfl rfl (zar rfl (ev1 rfl) rfl) ?_
        refine zak rfl rfl rfl (zao 2 rfl zr47 rfl) (by simp only [upd, za, zaa]; exact rfl) ?_
        refine walk_s rfl rfl (op_stwa rfl tb47 (ev1 rfl) (ev1 rfl) rfl rfl rfl rfl) (by simp only [upd, za, zaa]; exact rfl) ?_
        refine zab rfl rfl rfl (zac (.inr rfl) (ev1 rfl)) ?_
        refine zab rfl rfl rfl (zac (.inr rfl) (ev1 rfl)) ?_
        refine zae ?_
        refine zaf ?_
        refine zad ?_
        refine zab rfl rfl rfl (zac (.inl rfl) (ev1 rfl)) ?_
        refine zab rfl rfl rfl (op_eql rfl (ev1 rfl) (ev1 rfl)) ?_
        refine zae ?_
        refine dwp_if_f rfl (by rcases gop with h | h <;> rw [h] <;> rfl) ?_
        refine zam ?_
        refine zaf ?_
        by_cases qrow : ∃ v r, tRow (x.take (min x.length 2000)) = .ok v r
        · obtain ⟨vrow, rrow, hrow⟩ := qrow
          obtain ⟨brow1, brow2, brow3, brow4⟩ := (cdRow 110 290).back hL.1 hrow
          refine zad ?_
          refine zab rfl rfl rfl (zac (.inl rfl) (ev1 rfl)) ?_
          refine zab rfl rfl rfl (zah [] [] [] rfl (ev1 rfl) (ec (ev1 rfl) en) rfl rfl (takeOps_ok (x.take (min x.length 2000)) hL h15 vrow rrow hrow brow1) rfl rfl rfl rfl rfl rfl) ?_
          refine zab rfl rfl rfl (zac (.inl rfl) (ev1 rfl)) ?_
          refine zab rfl rfl rfl (zar rfl (ev1 rfl) rfl) ?_
          refine zab rfl rfl rfl (zar rfl (ev1 rfl) rfl) ?_
          refine zab rfl rfl rfl (zar rfl (ev1 rfl) rfl) ?_
          refine zab rfl rfl rfl (zac (.inr rfl) (ev1 rfl)) ?_
          refine zab rfl rfl rfl (zac (.inr rfl) (ev1 rfl)) ?_
          refine zab rfl rfl rfl (zac (.inr rfl) (ev1 rfl)) ?_
          refine zae ?_
          refine zaf ?_
          refine zaf ?_
          refine zad ?_
          refine zab rfl rfl rfl (zac (.inl rfl) (ev1 rfl)) ?_
          refine zab rfl rfl rfl ((op_neq rfl (ev1 rfl) (ev1 rfl)).cast (d' := .val (.bool false)) (by kernel_rfl)) ?_
          refine zae ?_
          refine dwp_if_f rfl (rfl) ?_
          refine zam ?_
          refine zaf ?_
          refine zad ?_
          refine zab rfl rfl rfl (zac (.inl rfl) (ev1 rfl)) ?_
          refine zab rfl rfl rfl (zah [] [] [] rfl (ev1 rfl) (ec (ev1 rfl) en) rfl rfl (cops_ok vrow brow4.1 brow4.2) rfl rfl rfl rfl rfl rfl) ?_
          refine zab rfl rfl rfl (zac (.inl rfl) (ev1 rfl)) ?_
          refine zab rfl rfl rfl (zar rfl (ev1 rfl) rfl) ?_
          refine zab rfl rfl rfl (zar rfl (ev1 rfl) rfl) ?_
          refine zab rfl rfl rfl (zac (.inr rfl) (ev1 rfl)) ?_
          refine zab rfl rfl rfl (zac (.inr rfl) (ev1 rfl)) ?_
          refine zae ?_
          refine zaf ?_
          refine zad ?_
          refine zab rfl rfl rfl (zac (.inl rfl) (ev1 rfl)) ?_
          refine zab rfl rfl rfl ((op_eql rfl (ev1 rfl) (ev1 rfl)).cast (d' := .val (.bool true)) (by kernel_rfl)) ?_
          refine zab rfl rfl rfl (zac (.inl rfl) (ev1 rfl)) ?_
          refine zai (gd_t (b := true) rfl rfl rfl) rfl rfl rfl (zac (.inl rfl) (ev1 rfl)) (by simp only [upd, za, zaa]; exact rfl) ?_
          refine zai (gd_t (b := true) rfl rfl rfl) rfl rfl rfl (zac (.inl rfl) (ev1 rfl)) (by simp only [upd, za, zaa]; exact rfl) ?_
          refine zai (gd_t (b := true) rfl rfl rfl) rfl rfl rfl (zac (.inl rfl) (ev1 rfl)) (by simp only [upd, za, zaa]; exact rfl) ?_
          refine zai (gd_t (b := true) rfl rfl rfl) rfl rfl rfl (op_sltk (j := (x.take (min x.length 2000)).length - rrow.length) rfl sl30 (ev2 rfl) (bd_some (ev2 rfl)) (fun _ => by omega) (fun _ => by omega) (fun _ => rfl)) (by simp only [upd, za, zaa]; exact rfl) ?_
          refine zai (gd_t (b := true) rfl rfl rfl) rfl rfl rfl ((zah [] [] [] rfl (ev1 rfl) (ec (ev2 rfl) (ec (ev2 rfl) en)) rfl rfl (equalB (rowL vrow) ((x.take (min x.length 2000)).take ((x.take (min x.length 2000)).length - rrow.length))) rfl rfl rfl rfl rfl rfl).cast (d' := .val (.bool true)) (by rw [brow2]; simp)) (by simp only [upd, za, zaa]; exact rfl) ?_
          refine zab rfl rfl rfl ((op_and rfl (ev1 rfl) (ev3 rfl (fun _ => rfl))).cast (d' := .val (.bool true)) (by rfl)) ?_
          refine zab rfl rfl rfl (zac (.inr rfl) (ev1 rfl)) ?_
          refine zae ?_
          refine zan ?_
          refine kend0 (rs1 rfl (rv_t rfl)) rfl ?_
          rfl
        · obtain ⟨erow, hrow, grow⟩ := tk_or (Er.R (x.take (min x.length 2000))) qrow
          refine zad ?_
          refine zab rfl rfl rfl (zac (.inl rfl) (ev1 rfl)) ?_
          refine zab rfl rfl rfl (zah [] [] [] rfl (ev1 rfl) (ec (ev1 rfl) en) rfl rfl (takeOps_no (x.take (min x.length 2000)) hL h15 erow hrow) rfl rfl rfl rfl rfl rfl) ?_
          refine zab rfl rfl rfl (zac (.inl rfl) (ev1 rfl)) ?_
          refine zab rfl rfl rfl (zar rfl (ev1 rfl) rfl) ?_
          refine zab rfl rfl rfl (zar rfl (ev1 rfl) rfl) ?_
          refine zab rfl rfl rfl (zar rfl (ev1 rfl) rfl) ?_
          refine zab rfl rfl rfl (zac (.inr rfl) (ev1 rfl)) ?_
          refine zab rfl rfl rfl (zac (.inr rfl) (ev1 rfl)) ?_
          refine zab rfl rfl rfl (zac (.inr rfl) (ev1 rfl)) ?_
          refine zae ?_
          refine zaf ?_
          refine zaf ?_
          refine zad ?_
          refine zab rfl rfl rfl (zac (.inl rfl) (ev1 rfl)) ?_
          refine zab rfl rfl rfl (op_neq rfl (ev1 rfl) (ev1 rfl)) ?_
          refine zae ?_
          refine dwp_if_t rfl (by rcases grow with h | h <;> rw [h] <;> rfl) ?_
          refine zaf ?_
          refine zad ?_
          refine zab rfl rfl rfl (zac (.inl rfl) (ev1 rfl)) ?_
          refine zab rfl rfl rfl (op_len rfl sl26 (evwk (ev1 rfl) (Wk.slf0 19))) ?_
          refine zab rfl rfl rfl ((op_eql rfl (ev1 rfl) (ev1 rfl)).cast (d' := .val (.bool true)) (by kernel_rfl)) ?_
          refine zab rfl rfl rfl (zac (.inl rfl) (ev1 rfl)) ?_
          refine zai (gd_t (b := true) rfl rfl rfl) rfl rfl rfl (zac (.inl rfl) (ev1 rfl)) (by simp only [upd, za, zaa]; exact rfl) ?_
          refine zai (gd_t (b := true) rfl rfl rfl) rfl rfl rfl ((op_eql rfl (ev2 rfl) (ev1 rfl)).cast (d' := .val (.bool true)) (by kernel_rfl)) (by simp only [upd, za, zaa]; exact rfl) ?_
          refine zab rfl rfl rfl ((op_and rfl (ev1 rfl) (ev3 rfl (fun _ => rfl))).cast (d' := .val (.bool true)) (by rfl)) ?_
          refine zab rfl rfl rfl (zac (.inr rfl) (ev1 rfl)) ?_
          refine zae ?_
          refine zan ?_
          refine kend0 (rs1 rfl (rv_t rfl)) rfl ?_
          rfl
    · obtain ⟨evec, hvec, gvec⟩ := tk_or (Er.V (x.take (min x.length 2000))) qvec
      refine zaj 1 (by simp only [holes, List.cons_append, List.nil_append]; exact rfl) ?_
      refine zad ?_
      refine zab rfl rfl rfl (zac (.inl rfl) (ev1 rfl)) ?_
      refine zab rfl rfl rfl (zah [] [] [] rfl (ev1 rfl) (ec (ev1 rfl) en) rfl rfl (takeVector_no (x.take (min x.length 2000)) hL h15 evec hvec) rfl rfl rfl rfl rfl rfl) ?_
      refine zab rfl rfl rfl (zac (.inl rfl) (ev1 rfl)) ?_
      refine zab rfl rfl rfl (zar rfl (ev1 rfl) rfl) ?_
      refine zab rfl rfl rfl (zar rfl (ev1 rfl) rfl) ?_
      refine zab rfl rfl rfl (zar rfl (ev1 rfl) rfl) ?_
      refine zak rfl rfl rfl (zao 1 rfl zr25 rfl) (by simp only [upd, za, zaa]; exact rfl) ?_
      refine walk_s rfl rfl (op_stwa rfl tb25 (ev1 rfl) (ev1 rfl) rfl rfl rfl rfl) (by simp only [upd, za, zaa]; exact rfl) ?_
      refine zab rfl rfl rfl (zac (.inr rfl) (ev1 rfl)) ?_
      refine zab rfl rfl rfl (zac (.inr rfl) (ev1 rfl)) ?_
      refine zae ?_
      refine zaf ?_
      refine zad ?_
      refine zab rfl rfl rfl (zac (.inl rfl) (ev1 rfl)) ?_
      refine zab rfl rfl rfl (op_eql rfl (ev1 rfl) (ev1 rfl)) ?_
      refine zae ?_
      refine dwp_if_f rfl (by rcases gvec with h | h <;> rw [h] <;> rfl) ?_
      refine zam ?_
      refine zaf ?_
      refine zaf ?_
      by_cases qop : ∃ v r, tOp (x.take (min x.length 2000)) = .ok v r
      · obtain ⟨vop, rop, hop⟩ := qop
        obtain ⟨bop1, bop2, bop3, bop4⟩ := (cdOp 110 290).back hL.1 hop
        refine zaj 1 (by simp only [holes, List.cons_append, List.nil_append]; exact rfl) ?_
        refine zad ?_
        refine zab rfl rfl rfl (zac (.inl rfl) (ev1 rfl)) ?_
        refine zab rfl rfl rfl (zah [] [] [] rfl (ev1 rfl) (ec (ev1 rfl) en) rfl rfl (takeOp_ok (x.take (min x.length 2000)) hL h15 vop rop hop bop1) rfl rfl rfl rfl rfl rfl) ?_
        refine zab rfl rfl rfl (zac (.inl rfl) (ev1 rfl)) ?_
        refine zab rfl rfl rfl (zar rfl (ev1 rfl) rfl) ?_
        refine zab rfl rfl rfl (zar rfl (ev1 rfl) rfl) ?_
        refine zab rfl rfl rfl (zar rfl (ev1 rfl) rfl) ?_
        refine zak rfl rfl rfl (zao 2 rfl zr47 rfl) (by simp only [upd, za, zaa]; exact rfl) ?_
        refine walk_s rfl rfl (op_stam rfl tb47 (ev1 rfl) (ev1 rfl) rfl rfl rfl rfl) (by simp only [upd, za, zaa]; exact rfl) ?_
        refine zab rfl rfl rfl (zac (.inr rfl) (ev1 rfl)) ?_
        refine zab rfl rfl rfl (zac (.inr rfl) (ev1 rfl)) ?_
        refine zae ?_
        refine zaf ?_
        refine zad ?_
        refine zab rfl rfl rfl (zac (.inl rfl) (ev1 rfl)) ?_
        refine zab rfl rfl rfl ((op_eql rfl (ev1 rfl) (ev1 rfl)).cast (d' := .val (.bool true)) (by kernel_rfl)) ?_
        refine zae ?_
        refine dwp_if_t rfl (rfl) ?_
        refine zaf ?_
        refine zad ?_
        refine zab rfl rfl rfl (op_ldmw rfl tb47 (ev1 rfl) rfl rfl) ?_
        refine zab rfl rfl rfl (zah [] [] [] rfl (ev1 rfl) (ec (ev1 rfl) en) rfl rfl (cop_ok vop bop4) rfl rfl rfl rfl rfl rfl) ?_
        refine zab rfl rfl rfl (zac (.inl rfl) (ev1 rfl)) ?_
        refine zab rfl rfl rfl (zar rfl (ev1 rfl) rfl) ?_
        refine zab rfl rfl rfl (zar rfl (ev1 rfl) rfl) ?_
        refine zab rfl rfl rfl (zac (.inr rfl) (ev1 rfl)) ?_
        refine zab rfl rfl rfl (zac (.inr rfl) (ev1 rfl)) ?_
        refine zae ?_
        refine zaf ?_
        refine zad ?_
        refine zab rfl rfl rfl (zac (.inl rfl) (ev1 rfl)) ?_
        refine zab rfl rfl rfl ((op_neq rfl (ev1 rfl) (ev1 rfl)).cast (d' := .val (.bool false)) (by kernel_rfl)) ?_
        refine zab rfl rfl rfl (zac (.inl rfl) (ev1 rfl)) ?_
        refine zai (gd_f (b := false) rfl rfl rfl) rfl rfl rfl (zac (.inl rfl) (ev1 rfl)) (by simp only [upd, za, zaa]; exact rfl) ?_
        refine zai (gd_f (b := false) rfl rfl rfl) rfl rfl rfl (zac (.inl rfl) (ev1 rfl)) (by simp only [upd, za, zaa]; exact rfl) ?_
        refine zai (gd_f (b := false) rfl rfl rfl) rfl rfl rfl (zac (.inl rfl) (ev1 rfl)) (by simp only [upd, za, zaa]; exact rfl) ?_
        refine zai (gd_f (b := false) rfl rfl rfl) rfl rfl rfl (op_sltk (j := (x.take (min x.length 2000)).length - rop.length) rfl sl30 (ev2 rfl) (bd_some (ev2 rfl)) (fun _ => by omega) (fun _ => by omega) (fun _ => rfl)) (by simp only [upd, za, zaa]; exact rfl) ?_
        refine zai (gd_f (b := false) rfl rfl rfl) rfl rfl rfl ((zah [] [] [] rfl (ev1 rfl) (ec (ev2 rfl) (ec (ev2 rfl) en)) rfl rfl (equalB (opL vop) ((x.take (min x.length 2000)).take ((x.take (min x.length 2000)).length - rop.length))) rfl rfl rfl rfl rfl rfl).cast (d' := .val (.bool true)) (by rw [bop2]; simp)) (by simp only [upd, za, zaa]; exact rfl) ?_
        refine zai (gd_f (b := false) rfl rfl rfl) rfl rfl rfl ((op_not rfl (ev2 rfl)).cast (d' := .val (.bool false)) (by kernel_rfl)) (by simp only [upd, za, zaa]; exact rfl) ?_
        refine zab rfl rfl rfl ((op_or rfl (ev1 rfl) (ev3 rfl (fun _ => rfl))).cast (d' := .val (.bool false)) (by rfl)) ?_
        refine zab rfl rfl rfl (zac (.inl rfl) (ev1 rfl)) ?_
        refine zai (gd_f (b := false) rfl rfl rfl) rfl rfl rfl (op_ldmw rfl tb47 (ev1 rfl) rfl rfl) (by simp only [upd, za, zaa]; exact rfl) ?_
        refine zai (gd_f (b := false) rfl rfl rfl) rfl rfl rfl ((zah [] [] [] rfl (ev1 rfl) (ec (ev2 rfl) en) rfl rfl (opCheck_d vop) rfl rfl rfl rfl rfl rfl).cast (d' := .val (.int .i64 0)) (by rw [bop4.1]; rfl)) (by simp only [upd, za, zaa]; exact rfl) ?_
        refine zai (gd_f (b := false) rfl rfl rfl) rfl rfl rfl ((op_neq rfl (ev2 rfl) (ev1 rfl)).cast (d' := .val (.bool false)) (by kernel_rfl)) (by simp only [upd, za, zaa]; exact rfl) ?_
        refine zab rfl rfl rfl ((op_or rfl (ev1 rfl) (ev3 rfl (fun _ => rfl))).cast (d' := .val (.bool false)) (by rfl)) ?_
        refine zae ?_
        refine dwp_if_f rfl (rfl) ?_
        refine zam ?_
        refine zaf ?_
        by_cases qrow : ∃ v r, tRow (x.take (min x.length 2000)) = .ok v r
        · obtain ⟨vrow, rrow, hrow⟩ := qrow
          obtain ⟨brow1, brow2, brow3, brow4⟩ := (cdRow 110 290).back hL.1 hrow
          refine zad ?_
          refine zab rfl rfl rfl (zac (.inl rfl) (ev1 rfl)) ?_
          refine zab rfl rfl rfl (zah [] [] [] rfl (ev1 rfl) (ec (ev1 rfl) en) rfl rfl (takeOps_ok (x.take (min x.length 2000)) hL h15 vrow rrow hrow brow1) rfl rfl rfl rfl rfl rfl) ?_
          refine zab rfl rfl rfl (zac (.inl rfl) (ev1 rfl)) ?_
          refine zab rfl rfl rfl (zar rfl (ev1 rfl) rfl) ?_
          refine zab rfl rfl rfl (zar rfl (ev1 rfl) rfl) ?_
          refine zab rfl rfl rfl (zar rfl (ev1 rfl) rfl) ?_
          refine zab rfl rfl rfl (zac (.inr rfl) (ev1 rfl)) ?_
          refine zab rfl rfl rfl (zac (.inr rfl) (ev1 rfl)) ?_
          refine zab rfl rfl rfl (zac (.inr rfl) (ev1 rfl)) ?_
          refine zae ?_
          refine zaf ?_
          refine zaf ?_
          refine zad ?_
          refine zab rfl rfl rfl (zac (.inl rfl) (ev1 rfl)) ?_
          refine zab rfl rfl rfl ((op_neq rfl (ev1 rfl) (ev1 rfl)).cast (d' := .val (.bool false)) (by kernel_rfl)) ?_
          refine zae ?_
          refine dwp_if_f rfl (rfl) ?_
          refine zam ?_
          refine zaf ?_
          refine zad ?_
          refine zab rfl rfl rfl (zac (.inl rfl) (ev1 rfl)) ?_
          refine zab rfl rfl rfl (zah [] [] [] rfl (ev1 rfl) (ec (ev1 rfl) en) rfl rfl (cops_ok vrow brow4.1 brow4.2) rfl rfl rfl rfl rfl rfl) ?_
          refine zab rfl rfl rfl (zac (.inl rfl) (ev1 rfl)) ?_
          refine zab rfl rfl rfl (zar rfl (ev1 rfl) rfl) ?_
          refine zab rfl rfl rfl (zar rfl (ev1 rfl) rfl) ?_
          refine zab rfl rfl rfl (zac (.inr rfl) (ev1 rfl)) ?_
          refine zab rfl rfl rfl (zac (.inr rfl) (ev1 rfl)) ?_
          refine zae ?_
          refine zaf ?_
          refine zad ?_
          refine zab rfl rfl rfl (zac (.inl rfl) (ev1 rfl)) ?_
          refine zab rfl rfl rfl ((op_eql rfl (ev1 rfl) (ev1 rfl)).cast (d' := .val (.bool true)) (by kernel_rfl)) ?_
          refine zab rfl rfl rfl (zac (.inl rfl) (ev1 rfl)) ?_
          refine zai (gd_t (b := true) rfl rfl rfl) rfl rfl rfl (zac (.inl rfl) (ev1 rfl)) (by simp only [upd, za, zaa]; exact rfl) ?_
          refine zai (gd_t (b := true) rfl rfl rfl) rfl rfl rfl (zac (.inl rfl) (ev1 rfl)) (by simp only [upd, za, zaa]; exact rfl) ?_
          refine zai (gd_t (b := true) rfl rfl rfl) rfl rfl rfl (zac (.inl rfl) (ev1 rfl)) (by simp only [upd, za, zaa]; exact rfl) ?_
          refine zai (gd_t (b := true) rfl rfl rfl) rfl rfl rfl (op_sltk (j := (x.take (min x.length 2000)).length - rrow.length) rfl sl30 (ev2 rfl) (bd_some (ev2 rfl)) (fun _ => by omega) (fun _ => by omega) (fun _ => rfl)) (by simp only [upd, za, zaa]; exact rfl) ?_
          refine zai (gd_t (b := true) rfl rfl rfl) rfl rfl rfl ((zah [] [] [] rfl (ev1 rfl) (ec (ev2 rfl) (ec (ev2 rfl) en)) rfl rfl (equalB (rowL vrow) ((x.take (min x.length 2000)).take ((x.take (min x.length 2000)).length - rrow.length))) rfl rfl rfl rfl rfl rfl).cast (d' := .val (.bool true)) (by rw [brow2]; simp)) (by simp only [upd, za, zaa]; exact rfl) ?_
          refine zab rfl rfl rfl ((op_and rfl (ev1 rfl) (ev3 rfl (fun _ => rfl))).cast (d' := .val (.bool true)) (by rfl)) ?_
          refine zab rfl rfl rfl (zac (.inr rfl) (ev1 rfl)) ?_
          refine zae ?_
          refine zan ?_
          refine kend0 (rs1 rfl (rv_t rfl)) rfl ?_
          rfl
        · obtain ⟨erow, hrow, grow⟩ := tk_or (Er.R (x.take (min x.length 2000))) qrow
          refine zad ?_
          refine zab rfl rfl rfl (zac (.inl rfl) (ev1 rfl)) ?_
          refine zab rfl rfl rfl (zah [] [] [] rfl (ev1 rfl) (ec (ev1 rfl) en) rfl rfl (takeOps_no (x.take (min x.length 2000)) hL h15 erow hrow) rfl rfl rfl rfl rfl rfl) ?_
          refine zab rfl rfl rfl (zac (.inl rfl) (ev1 rfl)) ?_
          refine zab rfl rfl rfl (zar rfl (ev1 rfl) rfl) ?_
          refine zab rfl rfl rfl (zar rfl (ev1 rfl) rfl) ?_
          refine zab rfl rfl rfl (zar rfl (ev1 rfl) rfl) ?_
          refine zab rfl rfl rfl (zac (.inr rfl) (ev1 rfl)) ?_
          refine zab rfl rfl rfl (zac (.inr rfl) (ev1 rfl)) ?_
          refine zab rfl rfl rfl (zac (.inr rfl) (ev1 rfl)) ?_
          refine zae ?_
          refine zaf ?_
          refine zaf ?_
          refine zad ?_
          refine zab rfl rfl rfl (zac (.inl rfl) (ev1 rfl)) ?_
          refine zab rfl rfl rfl (op_neq rfl (ev1 rfl) (ev1 rfl)) ?_
          refine zae ?_
          refine dwp_if_t rfl (by rcases grow with h | h <;> rw [h] <;> rfl) ?_
          refine zaf ?_
          refine zad ?_
          refine zab rfl rfl rfl (zac (.inl rfl) (ev1 rfl)) ?_
          refine zab rfl rfl rfl (op_len rfl sl26 (evwk (ev1 rfl) (Wk.slf0 19))) ?_
          refine zab rfl rfl rfl ((op_eql rfl (ev1 rfl) (ev1 rfl)).cast (d' := .val (.bool true)) (by kernel_rfl)) ?_
          refine zab rfl rfl rfl (zac (.inl rfl) (ev1 rfl)) ?_
          refine zai (gd_t (b := true) rfl rfl rfl) rfl rfl rfl (zac (.inl rfl) (ev1 rfl)) (by simp only [upd, za, zaa]; exact rfl) ?_
          refine zai (gd_t (b := true) rfl rfl rfl) rfl rfl rfl ((op_eql rfl (ev2 rfl) (ev1 rfl)).cast (d' := .val (.bool true)) (by kernel_rfl)) (by simp only [upd, za, zaa]; exact rfl) ?_
          refine zab rfl rfl rfl ((op_and rfl (ev1 rfl) (ev3 rfl (fun _ => rfl))).cast (d' := .val (.bool true)) (by rfl)) ?_
          refine zab rfl rfl rfl (zac (.inr rfl) (ev1 rfl)) ?_
          refine zae ?_
          refine zan ?_
          refine kend0 (rs1 rfl (rv_t rfl)) rfl ?_
          rfl
      · obtain ⟨eop, hop, gop⟩ := tk_or (Er.O (x.take (min x.length 2000))) qop
        refine zaj 1 (by simp only [holes, List.cons_append, List.nil_append]; exact rfl) ?_
        refine zad ?_
        refine zab rfl rfl rfl (zac (.inl rfl) (ev1 rfl)) ?_
        refine zab rfl rfl rfl (zah [] [] [] rfl (ev1 rfl) (ec (ev1 rfl) en) rfl rfl (takeOp_no (x.take (min x.length 2000)) hL h15 eop hop) rfl rfl rfl rfl rfl rfl) ?_
        refine zab rfl rfl rfl (zac (.inl rfl) (ev1 rfl)) ?_
        refine zab rfl rfl rfl (zar rfl (ev1 rfl) rfl) ?_
        refine zab rfl rfl rfl (zar rfl (ev1 rfl) rfl) ?_
        refine zab rfl rfl rfl (zar rfl (ev1 rfl) rfl) ?_
        refine zak rfl rfl rfl (zao 2 rfl zr47 rfl) (by simp only [upd, za, zaa]; exact rfl) ?_
        refine walk_s rfl rfl (op_stwa rfl tb47 (ev1 rfl) (ev1 rfl) rfl rfl rfl rfl) (by simp only [upd, za, zaa]; exact rfl) ?_
        refine zab rfl rfl rfl (zac (.inr rfl) (ev1 rfl)) ?_
        refine zab rfl rfl rfl (zac (.inr rfl) (ev1 rfl)) ?_
        refine zae ?_
        refine zaf ?_
        refine zad ?_
        refine zab rfl rfl rfl (zac (.inl rfl) (ev1 rfl)) ?_
        refine zab rfl rfl rfl (op_eql rfl (ev1 rfl) (ev1 rfl)) ?_
        refine zae ?_
        refine dwp_if_f rfl (by rcases gop with h | h <;> rw [h] <;> rfl) ?_
        refine zam ?_
        refine zaf ?_
        by_cases qrow : ∃ v r, tRow (x.take (min x.length 2000)) = .ok v r
        · obtain ⟨vrow, rrow, hrow⟩ := qrow
          obtain ⟨brow1, brow2, brow3, brow4⟩ := (cdRow 110 290).back hL.1 hrow
          refine zad ?_
          refine zab rfl rfl rfl (zac (.inl rfl) (ev1 rfl)) ?_
          refine zab rfl rfl rfl (zah [] [] [] rfl (ev1 rfl) (ec (ev1 rfl) en) rfl rfl (takeOps_ok (x.take (min x.length 2000)) hL h15 vrow rrow hrow brow1) rfl rfl rfl rfl rfl rfl) ?_
          refine zab rfl rfl rfl (zac (.inl rfl) (ev1 rfl)) ?_
          refine zab rfl rfl rfl (zar rfl (ev1 rfl) rfl) ?_
          refine zab rfl rfl rfl (zar rfl (ev1 rfl) rfl) ?_
          refine zab rfl rfl rfl (zar rfl (ev1 rfl) rfl) ?_
          refine zab rfl rfl rfl (zac (.inr rfl) (ev1 rfl)) ?_
          refine zab rfl rfl rfl (zac (.inr rfl) (ev1 rfl)) ?_
          refine zab rfl rfl rfl (zac (.inr rfl) (ev1 rfl)) ?_
          refine zae ?_
          refine zaf ?_
          refine zaf ?_
          refine zad ?_
          refine zab rfl rfl rfl (zac (.inl rfl) (ev1 rfl)) ?_
          refine zab rfl rfl rfl ((op_neq rfl (ev1 rfl) (ev1 rfl)).cast (d' := .val (.bool false)) (by kernel_rfl)) ?_
          refine zae ?_
          refine dwp_if_f rfl (rfl) ?_
          refine zam ?_
          refine zaf ?_
          refine zad ?_
          refine zab rfl rfl rfl (zac (.inl rfl) (ev1 rfl)) ?_
          refine zab rfl rfl rfl (zah [] [] [] rfl (ev1 rfl) (ec (ev1 rfl) en) rfl rfl (cops_ok vrow brow4.1 brow4.2) rfl rfl rfl rfl rfl rfl) ?_
          refine zab rfl rfl rfl (zac (.inl rfl) (ev1 rfl)) ?_
          refine zab rfl rfl rfl (zar rfl (ev1 rfl) rfl) ?_
          refine zab rfl rfl rfl (zar rfl (ev1 rfl) rfl) ?_
          refine zab rfl rfl rfl (zac (.inr rfl) (ev1 rfl)) ?_
          refine zab rfl rfl rfl (zac (.inr rfl) (ev1 rfl)) ?_
          refine zae ?_
          refine zaf ?_
          refine zad ?_
          refine zab rfl rfl rfl (zac (.inl rfl) (ev1 rfl)) ?_
          refine zab rfl rfl rfl ((op_eql rfl (ev1 rfl) (ev1 rfl)).cast (d' := .val (.bool true)) (by kernel_rfl)) ?_
          refine zab rfl rfl rfl (zac (.inl rfl) (ev1 rfl)) ?_
          refine zai (gd_t (b := true) rfl rfl rfl) rfl rfl rfl (zac (.inl rfl) (ev1 rfl)) (by simp only [upd, za, zaa]; exact rfl) ?_
          refine zai (gd_t (b := true) rfl rfl rfl) rfl rfl rfl (zac (.inl rfl) (ev1 rfl)) (by simp only [upd, za, zaa]; exact rfl) ?_
          refine zai (gd_t (b := true) rfl rfl rfl) rfl rfl rfl (zac (.inl rfl) (ev1 rfl)) (by simp only [upd, za, zaa]; exact rfl) ?_
          refine zai (gd_t (b := true) rfl rfl rfl) rfl rfl rfl (op_sltk (j := (x.take (min x.length 2000)).length - rrow.length) rfl sl30 (ev2 rfl) (bd_some (ev2 rfl)) (fun _ => by omega) (fun _ => by omega) (fun _ => rfl)) (by simp only [upd, za, zaa]; exact rfl) ?_
          refine zai (gd_t (b := true) rfl rfl rfl) rfl rfl rfl ((zah [] [] [] rfl (ev1 rfl) (ec (ev2 rfl) (ec (ev2 rfl) en)) rfl rfl (equalB (rowL vrow) ((x.take (min x.length 2000)).take ((x.take (min x.length 2000)).length - rrow.length))) rfl rfl rfl rfl rfl rfl).cast (d' := .val (.bool true)) (by rw [brow2]; simp)) (by simp only [upd, za, zaa]; exact rfl) ?_
          refine zab rfl rfl rfl ((op_and rfl (ev1 rfl) (ev3 rfl (fun _ => rfl))).cast (d' := .val (.bool true)) (by rfl)) ?_
          refine zab rfl rfl rfl (zac (.inr rfl) (ev1 rfl)) ?_
          refine zae ?_
          refine zan ?_
          refine kend0 (rs1 rfl (rv_t rfl)) rfl ?_
          rfl
        · obtain ⟨erow, hrow, grow⟩ := tk_or (Er.R (x.take (min x.length 2000))) qrow
          refine zad ?_
          refine zab rfl rfl rfl (zac (.inl rfl) (ev1 rfl)) ?_
          refine zab rfl rfl rfl (zah [] [] [] rfl (ev1 rfl) (ec (ev1 rfl) en) rfl rfl (takeOps_no (x.take (min x.length 2000)) hL h15 erow hrow) rfl rfl rfl rfl rfl rfl) ?_
          refine zab rfl rfl rfl (zac (.inl rfl) (ev1 rfl)) ?_
          refine zab rfl rfl rfl (zar rfl (ev1 rfl) rfl) ?_
          refine zab rfl rfl rfl (zar rfl (ev1 rfl) rfl) ?_
          refine zab rfl rfl rfl (zar rfl (ev1 rfl) rfl) ?_
          refine zab rfl rfl rfl (zac (.inr rfl) (ev1 rfl)) ?_
          refine zab rfl rfl rfl (zac (.inr rfl) (ev1 rfl)) ?_
          refine zab rfl rfl rfl (zac (.inr rfl) (ev1 rfl)) ?_
          refine zae ?_
          refine zaf ?_
          refine zaf ?_
          refine zad ?_
          refine zab rfl rfl rfl (zac (.inl rfl) (ev1 rfl)) ?_
          refine zab rfl rfl rfl (op_neq rfl (ev1 rfl) (ev1 rfl)) ?_
          refine zae ?_
          refine dwp_if_t rfl (by rcases grow with h | h <;> rw [h] <;> rfl) ?_
          refine zaf ?_
          refine zad ?_
          refine zab rfl rfl rfl (zac (.inl rfl) (ev1 rfl)) ?_
          refine zab rfl rfl rfl (op_len rfl sl26 (evwk (ev1 rfl) (Wk.slf0 19))) ?_
          refine zab rfl rfl rfl ((op_eql rfl (ev1 rfl) (ev1 rfl)).cast (d' := .val (.bool true)) (by kernel_rfl)) ?_
          refine zab rfl rfl rfl (zac (.inl rfl) (ev1 rfl)) ?_
          refine zai (gd_t (b := true) rfl rfl rfl) rfl rfl rfl (zac (.inl rfl) (ev1 rfl)) (by simp only [upd, za, zaa]; exact rfl) ?_
          refine zai (gd_t (b := true) rfl rfl rfl) rfl rfl rfl ((op_eql rfl (ev2 rfl) (ev1 rfl)).cast (d' := .val (.bool true)) (by kernel_rfl)) (by simp only [upd, za, zaa]; exact rfl) ?_
          refine zab rfl rfl rfl ((op_and rfl (ev1 rfl) (ev3 rfl (fun _ => rfl))).cast (d' := .val (.bool true)) (by rfl)) ?_
          refine zab rfl rfl rfl (zac (.inr rfl) (ev1 rfl)) ?_
          refine zae ?_
          refine zan ?_
          refine kend0 (rs1 rfl (rv_t rfl)) rfl ?_
          rfl
  · obtain ⟨eid, hid, gid⟩ := tk_or (Er.I (x.take (min x.length 2000))) qid
    refine zaj 1 (by simp only [holes, List.cons_append, List.nil_append]; exact rfl) ?_
    refine zad ?_
    refine zab rfl rfl rfl (zac (.inl rfl) (ev1 rfl)) ?_
    refine zab rfl rfl rfl (zah [] [] [] rfl (ev1 rfl) (ec (ev1 rfl) en) rfl rfl (takeId_no (x.take (min x.length 2000)) hL h15 eid hid) rfl rfl rfl rfl rfl rfl) ?_
    refine zab rfl rfl rfl (zac (.inl rfl) (ev1 rfl)) ?_
    refine zab rfl rfl rfl (zar rfl (ev1 rfl) rfl) ?_
    refine zab rfl rfl rfl (zar rfl (ev1 rfl) rfl) ?_
    refine zab rfl rfl rfl (zar rfl (ev1 rfl) rfl) ?_
    refine zak rfl rfl rfl (zao 0 rfl zr29 rfl) (by simp only [upd, za, zaa]; exact rfl) ?_
    refine walk_s rfl rfl (op_stwa rfl tb29 (ev1 rfl) (ev1 rfl) rfl rfl rfl rfl) (by simp only [upd, za, zaa]; exact rfl) ?_
    refine zab rfl rfl rfl (zac (.inr rfl) (ev1 rfl)) ?_
    refine zab rfl rfl rfl (zac (.inr rfl) (ev1 rfl)) ?_
    refine zae ?_
    refine zaf ?_
    refine zad ?_
    refine zab rfl rfl rfl (zac (.inl rfl) (ev1 rfl)) ?_
    refine zab rfl rfl rfl (op_eql rfl (ev1 rfl) (ev1 rfl)) ?_
    refine zae ?_
    refine dwp_if_f rfl (by rcases gid with h | h <;> rw [h] <;> rfl) ?_
    refine zam ?_
    refine zaf ?_
    refine zaf ?_
    by_cases qvec : ∃ v r, tVec (x.take (min x.length 2000)) = .ok v r
    · obtain ⟨vvec, rvec, hvec⟩ := qvec
      obtain ⟨bvec1, bvec2, bvec3, bvec4⟩ := (cdVec 110 290).back hL.1 hvec
      refine zaj 1 (by simp only [holes, List.cons_append, List.nil_append]; exact rfl) ?_
      refine zad ?_
      refine zab rfl rfl rfl (zac (.inl rfl) (ev1 rfl)) ?_
      refine zab rfl rfl rfl (zah [] [] [] rfl (ev1 rfl) (ec (ev1 rfl) en) rfl rfl (takeVector_ok (x.take (min x.length 2000)) hL h15 vvec rvec hvec bvec1) rfl rfl rfl rfl rfl rfl) ?_
      refine zab rfl rfl rfl (zac (.inl rfl) (ev1 rfl)) ?_
      refine zab rfl rfl rfl (zar rfl (ev1 rfl) rfl) ?_
      refine zab rfl rfl rfl (zar rfl (ev1 rfl) rfl) ?_
      refine zab rfl rfl rfl (zar rfl (ev1 rfl) rfl) ?_
      refine zak rfl rfl rfl (zao 1 rfl zr25 rfl) (by simp only [upd, za, zaa]; exact rfl) ?_
      refine walk_s rfl rfl (op_stwa rfl tb25 (ev1 rfl) (ev1 rfl) rfl rfl rfl rfl) (by simp only [upd, za, zaa]; exact rfl) ?_
      refine zab rfl rfl rfl (zac (.inr rfl) (ev1 rfl)) ?_
      refine zab rfl rfl rfl (zac (.inr rfl) (ev1 rfl)) ?_
      refine zae ?_
      refine zaf ?_
      refine zad ?_
      refine zab rfl rfl rfl (zac (.inl rfl) (ev1 rfl)) ?_
      refine zab rfl rfl rfl ((op_eql rfl (ev1 rfl) (ev1 rfl)).cast (d' := .val (.bool true)) (by kernel_rfl)) ?_
      refine zae ?_
      refine dwp_if_t rfl (rfl) ?_
      refine zaf ?_
      refine zad ?_
      refine zab rfl rfl rfl (op_ldw rfl tb25 (ev1 rfl) rfl rfl) ?_
      refine zab rfl rfl rfl (zah [] [] [] rfl (ev1 rfl) (ec (ev1 rfl) en) rfl rfl (cvec_ok vvec bvec4.1) rfl rfl rfl rfl rfl rfl) ?_
      refine zab rfl rfl rfl (zac (.inl rfl) (ev1 rfl)) ?_
      refine zab rfl rfl rfl (zar rfl (ev1 rfl) rfl) ?_
      refine zab rfl rfl rfl (zar rfl (ev1 rfl) rfl) ?_
      refine zab rfl rfl rfl (zac (.inr rfl) (ev1 rfl)) ?_
      refine zab rfl rfl rfl (zac (.inr rfl) (ev1 rfl)) ?_
      refine zae ?_
      refine zaf ?_
      refine zad ?_
      refine zab rfl rfl rfl (zac (.inl rfl) (ev1 rfl)) ?_
      refine zab rfl rfl rfl ((op_neq rfl (ev1 rfl) (ev1 rfl)).cast (d' := .val (.bool false)) (by kernel_rfl)) ?_
      refine zab rfl rfl rfl (zac (.inl rfl) (ev1 rfl)) ?_
      refine zai (gd_f (b := false) rfl rfl rfl) rfl rfl rfl (zac (.inl rfl) (ev1 rfl)) (by simp only [upd, za, zaa]; exact rfl) ?_
      refine zai (gd_f (b := false) rfl rfl rfl) rfl rfl rfl (zac (.inl rfl) (ev1 rfl)) (by simp only [upd, za, zaa]; exact rfl) ?_
      refine zai (gd_f (b := false) rfl rfl rfl) rfl rfl rfl (zac (.inl rfl) (ev1 rfl)) (by simp only [upd, za, zaa]; exact rfl) ?_
      refine zai (gd_f (b := false) rfl rfl rfl) rfl rfl rfl (op_sltk (j := (x.take (min x.length 2000)).length - rvec.length) rfl sl30 (ev2 rfl) (bd_some (ev2 rfl)) (fun _ => by omega) (fun _ => by omega) (fun _ => rfl)) (by simp only [upd, za, zaa]; exact rfl) ?_
      refine zai (gd_f (b := false) rfl rfl rfl) rfl rfl rfl ((zah [] [] [] rfl (ev1 rfl) (ec (ev2 rfl) (ec (ev2 rfl) en)) rfl rfl (equalB (vecL vvec) ((x.take (min x.length 2000)).take ((x.take (min x.length 2000)).length - rvec.length))) rfl rfl rfl rfl rfl rfl).cast (d' := .val (.bool true)) (by rw [bvec2]; simp)) (by simp only [upd, za, zaa]; exact rfl) ?_
      refine zai (gd_f (b := false) rfl rfl rfl) rfl rfl rfl ((op_not rfl (ev2 rfl)).cast (d' := .val (.bool false)) (by kernel_rfl)) (by simp only [upd, za, zaa]; exact rfl) ?_
      refine zab rfl rfl rfl ((op_or rfl (ev1 rfl) (ev3 rfl (fun _ => rfl))).cast (d' := .val (.bool false)) (by rfl)) ?_
      refine zae ?_
      refine dwp_if_f rfl (rfl) ?_
      refine zam ?_
      refine zaf ?_
      refine zaf ?_
      by_cases qop : ∃ v r, tOp (x.take (min x.length 2000)) = .ok v r
      · obtain ⟨vop, rop, hop⟩ := qop
        obtain ⟨bop1, bop2, bop3, bop4⟩ := (cdOp 110 290).back hL.1 hop
        refine zaj 1 (by simp only [holes, List.cons_append, List.nil_append]; exact rfl) ?_
        refine zad ?_
        refine zab rfl rfl rfl (zac (.inl rfl) (ev1 rfl)) ?_
        refine zab rfl rfl rfl (zah [] [] [] rfl (ev1 rfl) (ec (ev1 rfl) en) rfl rfl (takeOp_ok (x.take (min x.length 2000)) hL h15 vop rop hop bop1) rfl rfl rfl rfl rfl rfl) ?_
        refine zab rfl rfl rfl (zac (.inl rfl) (ev1 rfl)) ?_
        refine zab rfl rfl rfl (zar rfl (ev1 rfl) rfl) ?_
        refine zab rfl rfl rfl (zar rfl (ev1 rfl) rfl) ?_
        refine zab rfl rfl rfl (zar rfl (ev1 rfl) rfl) ?_
        refine zak rfl rfl rfl (zao 2 rfl zr47 rfl) (by simp only [upd, za, zaa]; exact rfl) ?_
        refine walk_s rfl rfl (op_stam rfl tb47 (ev1 rfl) (ev1 rfl) rfl rfl rfl rfl) (by simp only [upd, za, zaa]; exact rfl) ?_
        refine zab rfl rfl rfl (zac (.inr rfl) (ev1 rfl)) ?_
        refine zab rfl rfl rfl (zac (.inr rfl) (ev1 rfl)) ?_
        refine zae ?_
        refine zaf ?_
        refine zad ?_
        refine zab rfl rfl rfl (zac (.inl rfl) (ev1 rfl)) ?_
        refine zab rfl rfl rfl ((op_eql rfl (ev1 rfl) (ev1 rfl)).cast (d' := .val (.bool true)) (by kernel_rfl)) ?_
        refine zae ?_
        refine dwp_if_t rfl (rfl) ?_
        refine zaf ?_
        refine zad ?_
        refine zab rfl rfl rfl (op_ldmw rfl tb47 (ev1 rfl) rfl rfl) ?_
        refine zab rfl rfl rfl (zah [] [] [] rfl (ev1 rfl) (ec (ev1 rfl) en) rfl rfl (cop_ok vop bop4) rfl rfl rfl rfl rfl rfl) ?_
        refine zab rfl rfl rfl (zac (.inl rfl) (ev1 rfl)) ?_
        refine zab rfl rfl rfl (zar rfl (ev1 rfl) rfl) ?_
        refine zab rfl rfl rfl (zar rfl (ev1 rfl) rfl) ?_
        refine zab rfl rfl rfl (zac (.inr rfl) (ev1 rfl)) ?_
        refine zab rfl rfl rfl (zac (.inr rfl) (ev1 rfl)) ?_
        refine zae ?_
        refine zaf ?_
        refine zad ?_
        refine zab rfl rfl rfl (zac (.inl rfl) (ev1 rfl)) ?_
        refine zab rfl rfl rfl ((op_neq rfl (ev1 rfl) (ev1 rfl)).cast (d' := .val (.bool false)) (by kernel_rfl)) ?_
        refine zab rfl rfl rfl (zac (.inl rfl) (ev1 rfl)) ?_
        refine zai (gd_f (b := false) rfl rfl rfl) rfl rfl rfl (zac (.inl rfl) (ev1 rfl)) (by simp only [upd, za, zaa]; exact rfl) ?_
        refine zai (gd_f (b := false) rfl rfl rfl) rfl rfl rfl (zac (.inl rfl) (ev1 rfl)) (by simp only [upd, za, zaa]; exact rfl) ?_
        refine zai (gd_f (b := false) rfl rfl rfl) rfl rfl rfl (zac (.inl rfl) (ev1 rfl)) (by simp only [upd, za, zaa]; exact rfl) ?_
        refine zai (gd_f (b := false) rfl rfl rfl) rfl rfl rfl (op_sltk (j := (x.take (min x.length 2000)).length - rop.length) rfl sl30 (ev2 rfl) (bd_some (ev2 rfl)) (fun _ => by omega) (fun _ => by omega) (fun _ => rfl)) (by simp only [upd, za, zaa]; exact rfl) ?_
        refine zai (gd_f (b := false) rfl rfl rfl) rfl rfl rfl ((zah [] [] [] rfl (ev1 rfl) (ec (ev2 rfl) (ec (ev2 rfl) en)) rfl rfl (equalB (opL vop) ((x.take (min x.length 2000)).take ((x.take (min x.length 2000)).length - rop.length))) rfl rfl rfl rfl rfl rfl).cast (d' := .val (.bool true)) (by rw [bop2]; simp)) (by simp only [upd, za, zaa]; exact rfl) ?_
        refine zai (gd_f (b := false) rfl rfl rfl) rfl rfl rfl ((op_not rfl (ev2 rfl)).cast (d' := .val (.bool false)) (by kernel_rfl)) (by simp only [upd, za, zaa]; exact rfl) ?_
        refine zab rfl rfl rfl ((op_or rfl (ev1 rfl) (ev3 rfl (fun _ => rfl))).cast (d' := .val (.bool false)) (by rfl)) ?_
        refine zab rfl rfl rfl (zac (.inl rfl) (ev1 rfl)) ?_
        refine zai (gd_f (b := false) rfl rfl rfl) rfl rfl rfl (op_ldmw rfl tb47 (ev1 rfl) rfl rfl) (by simp only [upd, za, zaa]; exact rfl) ?_
        refine zai (gd_f (b := false) rfl rfl rfl) rfl rfl rfl ((zah [] [] [] rfl (ev1 rfl) (ec (ev2 rfl) en) rfl rfl (opCheck_d vop) rfl rfl rfl rfl rfl rfl).cast (d' := .val (.int .i64 0)) (by rw [bop4.1]; rfl)) (by simp only [upd, za, zaa]; exact rfl) ?_
        refine zai (gd_f (b := false) rfl rfl rfl) rfl rfl rfl ((op_neq rfl (ev2 rfl) (ev1 rfl)).cast (d' := .val (.bool false)) (by kernel_rfl)) (by simp only [upd, za, zaa]; exact rfl) ?_
        refine zab rfl rfl rfl ((op_or rfl (ev1 rfl) (ev3 rfl (fun _ => rfl))).cast (d' := .val (.bool false)) (by rfl)) ?_
        refine zae ?_
        refine dwp_if_f rfl (rfl) ?_
        refine zam ?_
        refine zaf ?_
        by_cases qrow : ∃ v r, tRow (x.take (min x.length 2000)) = .ok v r
        · obtain ⟨vrow, rrow, hrow⟩ := qrow
          obtain ⟨brow1, brow2, brow3, brow4⟩ := (cdRow 110 290).back hL.1 hrow
          refine zad ?_
          refine zab rfl rfl rfl (zac (.inl rfl) (ev1 rfl)) ?_
          refine zab rfl rfl rfl (zah [] [] [] rfl (ev1 rfl) (ec (ev1 rfl) en) rfl rfl (takeOps_ok (x.take (min x.length 2000)) hL h15 vrow rrow hrow brow1) rfl rfl rfl rfl rfl rfl) ?_
          refine zab rfl rfl rfl (zac (.inl rfl) (ev1 rfl)) ?_
          refine zab rfl rfl rfl (zar rfl (ev1 rfl) rfl) ?_
          refine zab rfl rfl rfl (zar rfl (ev1 rfl) rfl) ?_
          refine zab rfl rfl rfl (zar rfl (ev1 rfl) rfl) ?_
          refine zab rfl rfl rfl (zac (.inr rfl) (ev1 rfl)) ?_
          refine zab rfl rfl rfl (zac (.inr rfl) (ev1 rfl)) ?_
          refine zab rfl rfl rfl (zac (.inr rfl) (ev1 rfl)) ?_
          refine zae ?_
          refine zaf ?_
          refine zaf ?_
          refine zad ?_
          refine zab rfl rfl rfl (zac (.inl rfl) (ev1 rfl)) ?_
          refine zab rfl rfl rfl ((op_neq rfl (ev1 rfl) (ev1 rfl)).cast (d' := .val (.bool false)) (by kernel_rfl)) ?_
          refine zae ?_
          refine dwp_if_f rfl (rfl) ?_
          refine zam ?_
          refine zaf ?_
          refine zad ?_
          refine zab rfl rfl rfl (zac (.inl rfl) (ev1 rfl)) ?_
          refine zab rfl rfl rfl (zah [] [] [] rfl (ev1 rfl) (ec (ev1 rfl) en) rfl rfl (cops_ok vrow brow4.1 brow4.2) rfl rfl rfl rfl rfl rfl) ?_
          refine zab rfl rfl rfl (zac (.inl rfl) (ev1 rfl)) ?_
          refine zab rfl rfl rfl (zar rfl (ev1 rfl) rfl) ?_
          refine zab rfl rfl rfl (zar rfl (ev1 rfl) rfl) ?_
          refine zab rfl rfl rfl (zac (.inr rfl) (ev1 rfl)) ?_
          refine zab rfl rfl rfl (zac (.inr rfl) (ev1 rfl)) ?_
          refine zae ?_
          refine zaf ?_
          refine zad ?_
          refine zab rfl rfl rfl (zac (.inl rfl) (ev1 rfl)) ?_
          refine zab rfl rfl rfl ((op_eql rfl (ev1 rfl) (ev1 rfl)).cast (d' := .val (.bool true)) (by kernel_rfl)) ?_
          refine zab rfl rfl rfl (zac (.inl rfl) (ev1 rfl)) ?_
          refine zai (gd_t (b := true) rfl rfl rfl) rfl rfl rfl (zac (.inl rfl) (ev1 rfl)) (by simp only [upd, za, zaa]; exact rfl) ?_
          refine zai (gd_t (b := true) rfl rfl rfl) rfl rfl rfl (zac (.inl rfl) (ev1 rfl)) (by simp only [upd, za, zaa]; exact rfl) ?_
          refine zai (gd_t (b := true) rfl rfl rfl) rfl rfl rfl (zac (.inl rfl) (ev1 rfl)) (by simp only [upd, za, zaa]; exact rfl) ?_
          refine zai (gd_t (b := true) rfl rfl rfl) rfl rfl rfl (op_sltk (j := (x.take (min x.length 2000)).length - rrow.length) rfl sl30 (ev2 rfl) (bd_some (ev2 rfl)) (fun _ => by omega) (fun _ => by omega) (fun _ => rfl)) (by simp only [upd, za, zaa]; exact rfl) ?_
          refine zai (gd_t (b := true) rfl rfl rfl) rfl rfl rfl ((zah [] [] [] rfl (ev1 rfl) (ec (ev2 rfl) (ec (ev2 rfl) en)) rfl rfl (equalB (rowL vrow) ((x.take (min x.length 2000)).take ((x.take (min x.length 2000)).length - rrow.length))) rfl rfl rfl rfl rfl rfl).cast (d' := .val (.bool true)) (by rw [brow2]; simp)) (by simp only [upd, za, zaa]; exact rfl) ?_
          refine zab rfl rfl rfl ((op_and rfl (ev1 rfl) (ev3 rfl (fun _ => rfl))).cast (d' := .val (.bool true)) (by rfl)) ?_
          refine zab rfl rfl rfl (zac (.inr rfl) (ev1 rfl)) ?_
          refine zae ?_
          refine zan ?_
          refine kend0 (rs1 rfl (rv_t rfl)) rfl ?_
          rfl
        · obtain ⟨erow, hrow, grow⟩ := tk_or (Er.R (x.take (min x.length 2000))) qrow
          refine zad ?_
          refine zab rfl rfl rfl (zac (.inl rfl) (ev1 rfl)) ?_
          refine zab rfl rfl rfl (zah [] [] [] rfl (ev1 rfl) (ec (ev1 rfl) en) rfl rfl (takeOps_no (x.take (min x.length 2000)) hL h15 erow hrow) rfl rfl rfl rfl rfl rfl) ?_
          refine zab rfl rfl rfl (zac (.inl rfl) (ev1 rfl)) ?_
          refine zab rfl rfl rfl (zar rfl (ev1 rfl) rfl) ?_
          refine zab rfl rfl rfl (zar rfl (ev1 rfl) rfl) ?_
          refine zab rfl rfl rfl (zar rfl (ev1 rfl) rfl) ?_
          refine zab rfl rfl rfl (zac (.inr rfl) (ev1 rfl)) ?_
          refine zab rfl rfl rfl (zac (.inr rfl) (ev1 rfl)) ?_
          refine zab rfl rfl rfl (zac (.inr rfl) (ev1 rfl)) ?_
          refine zae ?_
          refine zaf ?_
          refine zaf ?_
          refine zad ?_
          refine zab rfl rfl rfl (zac (.inl rfl) (ev1 rfl)) ?_
          refine zab rfl rfl rfl (op_neq rfl (ev1 rfl) (ev1 rfl)) ?_
          refine zae ?_
          refine dwp_if_t rfl (by rcases grow with h | h <;> rw [h] <;> rfl) ?_
          refine zaf ?_
          refine zad ?_
          refine zab rfl rfl rfl (zac (.inl rfl) (ev1 rfl)) ?_
          refine zab rfl rfl rfl (op_len rfl sl26 (evwk (ev1 rfl) (Wk.slf0 19))) ?_
          refine zab rfl rfl rfl ((op_eql rfl (ev1 rfl) (ev1 rfl)).cast (d' := .val (.bool true)) (by kernel_rfl)) ?_
          refine zab rfl rfl rfl (zac (.inl rfl) (ev1 rfl)) ?_
          refine zai (gd_t (b := true) rfl rfl rfl) rfl rfl rfl (zac (.inl rfl) (ev1 rfl)) (by simp only [upd, za, zaa]; exact rfl) ?_
          refine zai (gd_t (b := true) rfl rfl rfl) rfl rfl rfl ((op_eql rfl (ev2 rfl) (ev1 rfl)).cast (d' := .val (.bool true)) (by kernel_rfl)) (by simp only [upd, za, zaa]; exact rfl) ?_
          refine zab rfl rfl rfl ((op_and rfl (ev1 rfl) (ev3 rfl (fun _ => rfl))).cast (d' := .val (.bool true)) (by rfl)) ?_
          refine zab rfl rfl rfl (zac (.inr rfl) (ev1 rfl)) ?_
          refine zae ?_
          refine zan ?_
          refine kend0 (rs1 rfl (rv_t rfl)) rfl ?_
          rfl
      · obtain ⟨eop, hop, gop⟩ := tk_or (Er.O (x.take (min x.length 2000))) qop
        refine zaj 1 (by simp only [holes, List.cons_append, List.nil_append]; exact rfl) ?_
        refine zad ?_
        refine zab rfl rfl rfl (zac (.inl rfl) (ev1 rfl)) ?_
        refine zab rfl rfl rfl (zah [] [] [] rfl (ev1 rfl) (ec (ev1 rfl) en) rfl rfl (takeOp_no (x.take (min x.length 2000)) hL h15 eop hop) rfl rfl rfl rfl rfl rfl) ?_
        refine zab rfl rfl rfl (zac (.inl rfl) (ev1 rfl)) ?_
        refine zab rfl rfl rfl (zar rfl (ev1 rfl) rfl) ?_
        refine zab rfl rfl rfl (zar rfl (ev1 rfl) rfl) ?_
        refine zab rfl rfl rfl (zar rfl (ev1 rfl) rfl) ?_
        refine zak rfl rfl rfl (zao 2 rfl zr47 rfl) (by simp only [upd, za, zaa]; exact rfl) ?_
        refine walk_s rfl rfl (op_stwa rfl tb47 (ev1 rfl) (ev1 rfl) rfl rfl rfl rfl) (by simp only [upd, za, zaa]; exact rfl) ?_
        refine zab rfl rfl rfl (zac (.inr rfl) (ev1 rfl)) ?_
        refine zab rfl rfl rfl (zac (.inr rfl) (ev1 rfl)) ?_
        refine zae ?_
        refine zaf ?_
        refine zad ?_
        refine zab rfl rfl rfl (zac (.inl rfl) (ev1 rfl)) ?_
        refine zab rfl rfl rfl (op_eql rfl (ev1 rfl) (ev1 rfl)) ?_
        refine zae ?_
        refine dwp_if_f rfl (by rcases gop with h | h <;> rw [h] <;> rfl) ?_
        refine zam ?_
        refine zaf ?_
        by_cases qrow : ∃ v r, tRow (x.take (min x.length 2000)) = .ok v r
        · obtain ⟨vrow, rrow, hrow⟩ := qrow
          obtain ⟨brow1, brow2, brow3, brow4⟩ := (cdRow 110 290).back hL.1 hrow
          refine zad ?_
          refine zab rfl rfl rfl (zac (.inl rfl) (ev1 rfl)) ?_
          refine zab rfl rfl rfl (zah [] [] [] rfl (ev1 rfl) (ec (ev1 rfl) en) rfl rfl (takeOps_ok (x.take (min x.length 2000)) hL h15 vrow rrow hrow brow1) rfl rfl rfl rfl rfl rfl) ?_
          refine zab rfl rfl rfl (zac (.inl rfl) (ev1 rfl)) ?_
          refine zab rfl rfl rfl (zar rfl (ev1 rfl) rfl) ?_
          refine zab rfl rfl rfl (zar rfl (ev1 rfl) rfl) ?_
          refine zab rfl rfl rfl (zar rfl (ev1 rfl) rfl) ?_
          refine zab rfl rfl rfl (zac (.inr rfl) (ev1 rfl)) ?_
          refine zab rfl rfl rfl (zac (.inr rfl) (ev1 rfl)) ?_
          refine zab rfl rfl rfl (zac (.inr rfl) (ev1 rfl)) ?_
          refine zae ?_
          refine zaf ?_
          refine zaf ?_
          refine zad ?_
          refine zab rfl rfl rfl (zac (.inl rfl) (ev1 rfl)) ?_
          refine zab rfl rfl rfl ((op_neq rfl (ev1 rfl) (ev1 rfl)).cast (d' := .val (.bool false)) (by kernel_rfl)) ?_
          refine zae ?_
          refine dwp_if_f rfl (rfl) ?_
          refine zam ?_
          refine zaf ?_
          refine zad ?_
          refine zab rfl rfl rfl (zac (.inl rfl) (ev1 rfl)) ?_
          refine zab rfl rfl rfl (zah [] [] [] rfl (ev1 rfl) (ec (ev1 rfl) en) rfl rfl (cops_ok vrow brow4.1 brow4.2) rfl rfl rfl rfl rfl rfl) ?_
          refine zab rfl rfl rfl (zac (.inl rfl) (ev1 rfl)) ?_
          refine zab rfl rfl rfl (zar rfl (ev1 rfl) rfl) ?_
          refine zab rfl rfl rfl (zar rfl (ev1 rfl) rfl) ?_
          refine zab rfl rfl rfl (zac (.inr rfl) (ev1 rfl)) ?_
          refine zab rfl rfl rfl (zac (.inr rfl) (ev1 rfl)) ?_
          refine zae ?_
          refine zaf ?_
          refine zad ?_
          refine zab rfl rfl rfl (zac (.inl rfl) (ev1 rfl)) ?_
          refine zab rfl rfl rfl ((op_eql rfl (ev1 rfl) (ev1 rfl)).cast (d' := .val (.bool true)) (by kernel_rfl)) ?_
          refine zab rfl rfl rfl (zac (.inl rfl) (ev1 rfl)) ?_
          refine zai (gd_t (b := true) rfl rfl rfl) rfl rfl rfl (zac (.inl rfl) (ev1 rfl)) (by simp only [upd, za, zaa]; exact rfl) ?_
          refine zai (gd_t (b := true) rfl rfl rfl) rfl rfl rfl (zac (.inl rfl) (ev1 rfl)) (by simp only [upd, za, zaa]; exact rfl) ?_
          refine zai (gd_t (b := true) rfl rfl rfl) rfl rfl rfl (zac (.inl rfl) (ev1 rfl)) (by simp only [upd, za, zaa]; exact rfl) ?_
          refine zai (gd_t (b := true) rfl rfl rfl) rfl rfl rfl (op_sltk (j := (x.take (min x.length 2000)).length - rrow.length) rfl sl30 (ev2 rfl) (bd_some (ev2 rfl)) (fun _ => by omega) (fun _ => by omega) (fun _ => rfl)) (by simp only [upd, za, zaa]; exact rfl) ?_
          refine zai (gd_t (b := true) rfl rfl rfl) rfl rfl rfl ((zah [] [] [] rfl (ev1 rfl) (ec (ev2 rfl) (ec (ev2 rfl) en)) rfl rfl (equalB (rowL vrow) ((x.take (min x.length 2000)).take ((x.take (min x.length 2000)).length - rrow.length))) rfl rfl rfl rfl rfl rfl).cast (d' := .val (.bool true)) (by rw [brow2]; simp)) (by simp only [upd, za, zaa]; exact rfl) ?_
          refine zab rfl rfl rfl ((op_and rfl (ev1 rfl) (ev3 rfl (fun _ => rfl))).cast (d' := .val (.bool true)) (by rfl)) ?_
          refine zab rfl rfl rfl (zac (.inr rfl) (ev1 rfl)) ?_
          refine zae ?_
          refine zan ?_
          refine kend0 (rs1 rfl (rv_t rfl)) rfl ?_
          rfl
        · obtain ⟨erow, hrow, grow⟩ := tk_or (Er.R (x.take (min x.length 2000))) qrow
          refine zad ?_
          refine zab rfl rfl rfl (zac (.inl rfl) (ev1 rfl)) ?_
          refine zab rfl rfl rfl (zah [] [] [] rfl (ev1 rfl) (ec (ev1 rfl) en) rfl rfl (takeOps_no (x.take (min x.length 2000)) hL h15 erow hrow) rfl rfl rfl rfl rfl rfl) ?_
          refine zab rfl rfl rfl (zac (.inl rfl) (ev1 rfl)) ?_
          refine zab rfl rfl rfl (zar rfl (ev1 rfl) rfl) ?_
          refine zab rfl rfl rfl (zar rfl (ev1 rfl) rfl) ?_
          refine zab rfl rfl rfl (zar rfl (ev1 rfl) rfl) ?_
          refine zab rfl rfl rfl (zac (.inr rfl) (ev1 rfl)) ?_
          refine zab rfl rfl rfl (zac (.inr rfl) (ev1 rfl)) ?_
          refine zab rfl rfl rfl (zac (.inr rfl) (ev1 rfl)) ?_
          refine zae ?_
          refine zaf ?_
          refine zaf ?_
          refine zad ?_
          refine zab rfl rfl rfl (zac (.inl rfl) (ev1 rfl)) ?_
          refine zab rfl rfl rfl (op_neq rfl (ev1 rfl) (ev1 rfl)) ?_
          refine zae ?_
          refine dwp_if_t rfl (by rcases grow with h | h <;> rw [h] <;> rfl) ?_
          refine zaf ?_
          refine zad ?_
          refine zab rfl rfl rfl (zac (.inl rfl) (ev1 rfl)) ?_
          refine zab rfl rfl rfl (op_len rfl sl26 (evwk (ev1 rfl) (Wk.slf0 19))) ?_
          refine zab rfl rfl rfl ((op_eql rfl (ev1 rfl) (ev1 rfl)).cast (d' := .val (.bool true)) (by kernel_rfl)) ?_
          refine zab rfl rfl rfl (zac (.inl rfl) (ev1 rfl)) ?_
          refine zai (gd_t (b := true) rfl rfl rfl) rfl rfl rfl (zac (.inl rfl) (ev1 rfl)) (by simp only [upd, za, zaa]; exact rfl) ?_
          refine zai (gd_t (b := true) rfl rfl rfl) rfl rfl rfl ((op_eql rfl (ev2 rfl) (ev1 rfl)).cast (d' := .val (.bool true)) (by kernel_rfl)) (by simp only [upd, za, zaa]; exact rfl) ?_
          refine zab rfl rfl rfl ((op_and rfl (ev1 rfl) (ev3 rfl (fun _ => rfl))).cast (d' := .val (.bool true)) (by rfl)) ?_
          refine zab rfl rfl rfl (zac (.inr rfl) (ev1 rfl)) ?_
          refine zae ?_
          refine zan ?_
          refine kend0 (rs1 rfl (rv_t rfl)) rfl ?_
          rfl
    · obtain ⟨evec, hvec, gvec⟩ := tk_or (Er.V (x.take (min x.length 2000))) qvec
      refine zaj 1 (by simp only [holes, List.cons_append, List.nil_append]; exact rfl) ?_
      refine zad ?_
      refine zab rfl rfl rfl (zac (.inl rfl) (ev1 rfl)) ?_
      refine zab rfl rfl rfl (zah [] [] [] rfl (ev1 rfl) (ec (ev1 rfl) en) rfl rfl (takeVector_no (x.take (min x.length 2000)) hL h15 evec hvec) rfl rfl rfl rfl rfl rfl) ?_
      refine zab rfl rfl rfl (zac (.inl rfl) (ev1 rfl)) ?_
      refine zab rfl rfl rfl (zar rfl (ev1 rfl) rfl) ?_
      refine zab rfl rfl rfl (zar rfl (ev1 rfl) rfl) ?_
      refine zab rfl rfl rfl (zar rfl (ev1 rfl) rfl) ?_
      refine zak rfl rfl rfl (zao 1 rfl zr25 rfl) (by simp only [upd, za, zaa]; exact rfl) ?_
      refine walk_s rfl rfl (op_stwa rfl tb25 (ev1 rfl) (ev1 rfl) rfl rfl rfl rfl) (by simp only [upd, za, zaa]; exact rfl) ?_
      refine zab rfl rfl rfl (zac (.inr rfl) (ev1 rfl)) ?_
      refine zab rfl rfl rfl (zac (.inr rfl) (ev1 rfl)) ?_
      refine zae ?_
      refine zaf ?_
      refine zad ?_
      refine zab rfl rfl rfl (zac (.inl rfl) (ev1 rfl)) ?_
      refine zab rfl rfl rfl (op_eql rfl (ev1 rfl) (ev1 rfl)) ?_
      refine zae ?_
      refine dwp_if_f rfl (by rcases gvec with h | h <;> rw [h] <;> rfl) ?_
      refine zam ?_
      refine zaf ?_
      refine zaf ?_
      by_cases qop : ∃ v r, tOp (x.take (min x.length 2000)) = .ok v r
      · obtain ⟨vop, rop, hop⟩ := qop
        obtain ⟨bop1, bop2, bop3, bop4⟩ := (cdOp 110 290).back hL.1 hop
        refine zaj 1 (by simp only [holes, List.cons_append, List.nil_append]; exact rfl) ?_
        refine zad ?_
        refine zab rfl rfl rfl (zac (.inl rfl) (ev1 rfl)) ?_
        refine zab rfl rfl rfl (zah [] [] [] rfl (ev1 rfl) (ec (ev1 rfl) en) rfl rfl (takeOp_ok (x.take (min x.length 2000)) hL h15 vop rop hop bop1) rfl rfl rfl rfl rfl rfl) ?_
        refine zab rfl rfl rfl (zac (.inl rfl) (ev1 rfl)) ?_
        refine zab rfl rfl rfl (zar rfl (ev1 rfl) rfl) ?_
        refine zab rfl rfl rfl (zar rfl (ev1 rfl) rfl) ?_
        refine zab rfl rfl rfl (zar rfl (ev1 rfl) rfl) ?_
        refine zak rfl rfl rfl (zao 2 rfl zr47 rfl) (by simp only [upd, za, zaa]; exact rfl) ?_
        refine walk_s rfl rfl (op_stam rfl tb47 (ev1 rfl) (ev1 rfl) rfl rfl rfl rfl) (by simp only [upd, za, zaa]; exact rfl) ?_
        refine zab rfl rfl rfl (zac (.inr rfl) (ev1 rfl)) ?_
        refine zab rfl rfl rfl (zac (.inr rfl) (ev1 rfl)) ?_
        refine zae ?_
        refine zaf ?_
        refine zad ?_
        refine zab rfl rfl rfl (zac (.inl rfl) (ev1 rfl)) ?_
        refine zab rfl rfl rfl ((op_eql rfl (ev1 rfl) (ev1 rfl)).cast (d' := .val (.bool true)) (by kernel_rfl)) ?_
        refine zae ?_
        refine dwp_if_t rfl (rfl) ?_
        refine zaf ?_
        refine zad ?_
        refine zab rfl rfl rfl (op_ldmw rfl tb47 (ev1 rfl) rfl rfl) ?_
        refine zab rfl rfl rfl (zah [] [] [] rfl (ev1 rfl) (ec (ev1 rfl) en) rfl rfl (cop_ok vop bop4) rfl rfl rfl rfl rfl rfl) ?_
        refine zab rfl rfl rfl (zac (.inl rfl) (ev1 rfl)) ?_
        refine zab rfl rfl rfl (zar rfl (ev1 rfl) rfl) ?_
        refine zab rfl rfl rfl (zar rfl (ev1 rfl) rfl) ?_
        refine zab rfl rfl rfl (zac (.inr rfl) (ev1 rfl)) ?_
        refine zab rfl rfl rfl (zac (.inr rfl) (ev1 rfl)) ?_
        refine zae ?_
        refine zaf ?_
        refine zad ?_
        refine zab rfl rfl rfl (zac (.inl rfl) (ev1 rfl)) ?_
        refine zab rfl rfl rfl ((op_neq rfl (ev1 rfl) (ev1 rfl)).cast (d' := .val (.bool false)) (by kernel_rfl)) ?_
        refine zab rfl rfl rfl (zac (.inl rfl) (ev1 rfl)) ?_
        refine zai (gd_f (b := false) rfl rfl rfl) rfl rfl rfl (zac (.inl rfl) (ev1 rfl)) (by simp only [upd, za, zaa]; exact rfl) ?_
        refine zai (gd_f (b := false) rfl rfl rfl) rfl rfl rfl (zac (.inl rfl) (ev1 rfl)) (by simp only [upd, za, zaa]; exact rfl) ?_
        refine zai (gd_f (b := false) rfl rfl rfl) rfl rfl rfl (zac (.inl rfl) (ev1 rfl)) (by simp only [upd, za, zaa]; exact rfl) ?_
        refine zai (gd_f (b := false) rfl rfl rfl) rfl rfl rfl (op_sltk (j := (x.take (min x.length 2000)).length - rop.length) rfl sl30 (ev2 rfl) (bd_some (ev2 rfl)) (fun _ => by omega) (fun _ => by omega) (fun _ => rfl)) (by simp only [upd, za, zaa]; exact rfl) ?_
        refine zai (gd_f (b := false) rfl rfl rfl) rfl rfl rfl ((zah [] [] [] rfl (ev1 rfl) (ec (ev2 rfl) (ec (ev2 rfl) en)) rfl rfl (equalB (opL vop) ((x.take (min x.length 2000)).take ((x.take (min x.length 2000)).length - rop.length))) rfl rfl rfl rfl rfl rfl).cast (d' := .val (.bool true)) (by rw [bop2]; simp)) (by simp only [upd, za, zaa]; exact rfl) ?_
        refine zai (gd_f (b := false) rfl rfl rfl) rfl rfl rfl ((op_not rfl (ev2 rfl)).cast (d' := .val (.bool false)) (by kernel_rfl)) (by simp only [upd, za, zaa]; exact rfl) ?_
        refine zab rfl rfl rfl ((op_or rfl (ev1 rfl) (ev3 rfl (fun _ => rfl))).cast (d' := .val (.bool false)) (by rfl)) ?_
        refine zab rfl rfl rfl (zac (.inl rfl) (ev1 rfl)) ?_
        refine zai (gd_f (b := false) rfl rfl rfl) rfl rfl rfl (op_ldmw rfl tb47 (ev1 rfl) rfl rfl) (by simp only [upd, za, zaa]; exact rfl) ?_
        refine zai (gd_f (b := false) rfl rfl rfl) rfl rfl rfl ((zah [] [] [] rfl (ev1 rfl) (ec (ev2 rfl) en) rfl rfl (opCheck_d vop) rfl rfl rfl rfl rfl rfl).cast (d' := .val (.int .i64 0)) (by rw [bop4.1]; rfl)) (by simp only [upd, za, zaa]; exact rfl) ?_
        refine zai (gd_f (b := false) rfl rfl rfl) rfl rfl rfl ((op_neq rfl (ev2 rfl) (ev1 rfl)).cast (d' := .val (.bool false)) (by kernel_rfl)) (by simp only [upd, za, zaa]; exact rfl) ?_
        refine zab rfl rfl rfl ((op_or rfl (ev1 rfl) (ev3 rfl (fun _ => rfl))).cast (d' := .val (.bool false)) (by rfl)) ?_
        refine zae ?_
        refine dwp_if_f rfl (rfl) ?_
        refine zam ?_
        refine zaf ?_
        by_cases qrow : ∃ v r, tRow (x.take (min x.length 2000)) = .ok v r
        · obtain ⟨vrow, rrow, hrow⟩ := qrow
          obtain ⟨brow1, brow2, brow3, brow4⟩ := (cdRow 110 290).back hL.1 hrow
          refine zad ?_
          refine zab rfl rfl rfl (zac (.inl rfl) (ev1 rfl)) ?_
          refine zab rfl rfl rfl (zah [] [] [] rfl (ev1 rfl) (ec (ev1 rfl) en) rfl rfl (takeOps_ok (x.take (min x.length 2000)) hL h15 vrow rrow hrow brow1) rfl rfl rfl rfl rfl rfl) ?_
          refine zab rfl rfl rfl (zac (.inl rfl) (ev1 rfl)) ?_
          refine zab rfl rfl rfl (zar rfl (ev1 rfl) rfl) ?_
          refine zab rfl rfl rfl (zar rfl (ev1 rfl) rfl) ?_
          refine zab rfl rfl rfl (zar rfl (ev1 rfl) rfl) ?_
          refine zab rfl rfl rfl (zac (.inr rfl) (ev1 rfl)) ?_
          refine zab rfl rfl rfl (zac (.inr rfl) (ev1 rfl)) ?_
          refine zab rfl rfl rfl (zac (.inr rfl) (ev1 rfl)) ?_
          refine zae ?_
          refine zaf ?_
          refine zaf ?_
          refine zad ?_
          refine zab rfl rfl rfl (zac (.inl rfl) (ev1 rfl)) ?_
          refine zab rfl rfl rfl ((op_neq rfl (ev1 rfl) (ev1 rfl)).cast (d' := .val (.bool false)) (by kernel_rfl)) ?_
          refine zae ?_
          refine dwp_if_f rfl (rfl) ?_
          refine zam ?_
          refine zaf ?_
          refine zad ?_
          refine zab rfl rfl rfl (zac (.inl rfl) (ev1 rfl)) ?_
          refine zab rfl rfl rfl (zah [] [] [] rfl (ev1 rfl) (ec (ev1 rfl) en) rfl rfl (cops_ok vrow brow4.1 brow4.2) rfl rfl rfl rfl rfl rfl) ?_
          refine zab rfl rfl rfl (zac (.inl rfl) (ev1 rfl)) ?_
          refine zab rfl rfl rfl (zar rfl (ev1 rfl) rfl) ?_
          refine zab rfl rfl rfl (zar rfl (ev1 rfl) rfl) ?_
          refine zab rfl rfl rfl (zac (.inr rfl) (ev1 rfl)) ?_
          refine zab rfl rfl rfl (zac (.inr rfl) (ev1 rfl)) ?_
          refine zae ?_
          refine zaf ?_
          refine zad ?_
          refine zab rfl rfl rfl (zac (.inl rfl) (ev1 rfl)) ?_
          refine zab rfl rfl rfl ((op_eql rfl (ev1 rfl) (ev1 rfl)).cast (d' := .val (.bool true)) (by kernel_rfl)) ?_
          refine zab rfl rfl rfl (zac (.inl rfl) (ev1 rfl)) ?_
          refine zai (gd_t (b := true) rfl rfl rfl) rfl rfl rfl (zac (.inl rfl) (ev1 rfl)) (by simp only [upd, za, zaa]; exact rfl) ?_
          refine zai (gd_t (b := true) rfl rfl rfl) rfl rfl rfl (zac (.inl rfl) (ev1 rfl)) (by simp only [upd, za, zaa]; exact rfl) ?_
          refine zai (gd_t (b := true) rfl rfl rfl) rfl rfl rfl (zac (.inl rfl) (ev1 rfl)) (by simp only [upd, za, zaa]; exact rfl) ?_
          refine zai (gd_t (b := true) rfl rfl rfl) rfl rfl rfl (op_sltk (j := (x.take (min x.length 2000)).length - rrow.length) rfl sl30 (ev2 rfl) (bd_some (ev2 rfl)) (fun _ => by omega) (fun _ => by omega) (fun _ => rfl)) (by simp only [upd, za, zaa]; exact rfl) ?_
          refine zai (gd_t (b := true) rfl rfl rfl) rfl rfl rfl ((zah [] [] [] rfl (ev1 rfl) (ec (ev2 rfl) (ec (ev2 rfl) en)) rfl rfl (equalB (rowL vrow) ((x.take (min x.length 2000)).take ((x.take (min x.length 2000)).length - rrow.length))) rfl rfl rfl rfl rfl rfl).cast (d' := .val (.bool true)) (by rw [brow2]; simp)) (by simp only [upd, za, zaa]; exact rfl) ?_
          refine zab rfl rfl rfl ((op_and rfl (ev1 rfl) (ev3 rfl (fun _ => rfl))).cast (d' := .val (.bool true)) (by rfl)) ?_
          refine zab rfl rfl rfl (zac (.inr rfl) (ev1 rfl)) ?_
          refine zae ?_
          refine zan ?_
          refine kend0 (rs1 rfl (rv_t rfl)) rfl ?_
          rfl
        · obtain ⟨erow, hrow, grow⟩ := tk_or (Er.R (x.take (min x.length 2000))) qrow
          refine zad ?_
          refine zab rfl rfl rfl (zac (.inl rfl) (ev1 rfl)) ?_
          refine zab rfl rfl rfl (zah [] [] [] rfl (ev1 rfl) (ec (ev1 rfl) en) rfl rfl (takeOps_no (x.take (min x.length 2000)) hL h15 erow hrow) rfl rfl rfl rfl rfl rfl) ?_
          refine zab rfl rfl rfl (zac (.inl rfl) (ev1 rfl)) ?_
          refine zab rfl rfl rfl (zar rfl (ev1 rfl) rfl) ?_
          refine zab rfl rfl rfl (zar rfl (ev1 rfl) rfl) ?_
          refine zab rfl rfl rfl (zar rfl (ev1 rfl) rfl) ?_
          refine zab rfl rfl rfl (zac (.inr rfl) (ev1 rfl)) ?_
          refine zab rfl rfl rfl (zac (.inr rfl) (ev1 rfl)) ?_
          refine zab rfl rfl rfl (zac (.inr rfl) (ev1 rfl)) ?_
          refine zae ?_
          refine zaf ?_
          refine zaf ?_
          refine zad ?_
          refine zab rfl rfl rfl (zac (.inl rfl) (ev1 rfl)) ?_
          refine zab rfl rfl rfl (op_neq rfl (ev1 rfl) (ev1 rfl)) ?_
          refine zae ?_
          refine dwp_if_t rfl (by rcases grow with h | h <;> rw [h] <;> rfl) ?_
          refine zaf ?_
          refine zad ?_
          refine zab rfl rfl rfl (zac (.inl rfl) (ev1 rfl)) ?_
          refine zab rfl rfl rfl (op_len rfl sl26 (evwk (ev1 rfl) (Wk.slf0 19))) ?_
          refine zab rfl rfl rfl ((op_eql rfl (ev1 rfl) (ev1 rfl)).cast (d' := .val (.bool true)) (by kernel_rfl)) ?_
          refine zab rfl rfl rfl (zac (.inl rfl) (ev1 rfl)) ?_
          refine zai (gd_t (b := true) rfl rfl rfl) rfl rfl rfl (zac (.inl rfl) (ev1 rfl)) (by simp only [upd, za, zaa]; exact rfl) ?_
          refine zai (gd_t (b := true) rfl rfl rfl) rfl rfl rfl ((op_eql rfl (ev2 rfl) (ev1 rfl)).cast (d' := .val (.bool true)) (by kernel_rfl)) (by simp only [upd, za, zaa]; exact rfl) ?_
          refine zab rfl rfl rfl ((op_and rfl (ev1 rfl) (ev3 rfl (fun _ => rfl))).cast (d' := .val (.bool true)) (by rfl)) ?_
          refine zab rfl rfl rfl (zac (.inr rfl) (ev1 rfl)) ?_
          refine zae ?_
          refine zan ?_
          refine kend0 (rs1 rfl (rv_t rfl)) rfl ?_
          rfl
      · obtain ⟨eop, hop, gop⟩ := tk_or (Er.O (x.take (min x.length 2000))) qop
        refine zaj 1 (by simp only [holes, List.cons_append, List.nil_append]; exact rfl) ?_
        refine zad ?_
        refine zab rfl rfl rfl (zac (.inl rfl) (ev1 rfl)) ?_
        refine zab rfl rfl rfl (zah [] [] [] rfl (ev1 rfl) (ec (ev1 rfl) en) rfl rfl (takeOp_no (x.take (min x.length 2000)) hL h15 eop hop) rfl rfl rfl rfl rfl rfl) ?_
        refine zab rfl rfl rfl (zac (.inl rfl) (ev1 rfl)) ?_
        refine zab rfl rfl rfl (zar rfl (ev1 rfl) rfl) ?_
        refine zab rfl rfl rfl (zar rfl (ev1 rfl) rfl) ?_
        refine zab rfl rfl rfl (zar rfl (ev1 rfl) rfl) ?_
        refine zak rfl rfl rfl (zao 2 rfl zr47 rfl) (by simp only [upd, za, zaa]; exact rfl) ?_
        refine walk_s rfl rfl (op_stwa rfl tb47 (ev1 rfl) (ev1 rfl) rfl rfl rfl rfl) (by simp only [upd, za, zaa]; exact rfl) ?_
        refine zab rfl rfl rfl (zac (.inr rfl) (ev1 rfl)) ?_
        refine zab rfl rfl rfl (zac (.inr rfl) (ev1 rfl)) ?_
        refine zae ?_
        refine zaf ?_
        refine zad ?_
        refine zab rfl rfl rfl (zac (.inl rfl) (ev1 rfl)) ?_
        refine zab rfl rfl rfl (op_eql rfl (ev1 rfl) (ev1 rfl)) ?_
        refine zae ?_
        refine dwp_if_f rfl (by rcases gop with h | h <;> rw [h] <;> rfl) ?_
        refine zam ?_
        refine zaf ?_
        by_cases qrow : ∃ v r, tRow (x.take (min x.length 2000)) = .ok v r
        · obtain ⟨vrow, rrow, hrow⟩ := qrow
          obtain ⟨brow1, brow2, brow3, brow4⟩ := (cdRow 110 290).back hL.1 hrow
          refine zad ?_
          refine zab rfl rfl rfl (zac (.inl rfl) (ev1 rfl)) ?_
          refine zab rfl rfl rfl (zah [] [] [] rfl (ev1 rfl) (ec (ev1 rfl) en) rfl rfl (takeOps_ok (x.take (min x.length 2000)) hL h15 vrow rrow hrow brow1) rfl rfl rfl rfl rfl rfl) ?_
          refine zab rfl rfl rfl (zac (.inl rfl) (ev1 rfl)) ?_
          refine zab rfl rfl rfl (zar rfl (ev1 rfl) rfl) ?_
          refine zab rfl rfl rfl (zar rfl (ev1 rfl) rfl) ?_
          refine zab rfl rfl rfl (zar rfl (ev1 rfl) rfl) ?_
          refine zab rfl rfl rfl (zac (.inr rfl) (ev1 rfl)) ?_
          refine zab rfl rfl rfl (zac (.inr rfl) (ev1 rfl)) ?_
          refine zab rfl rfl rfl (zac (.inr rfl) (ev1 rfl)) ?_
          refine zae ?_
          refine zaf ?_
          refine zaf ?_
          refine zad ?_
          refine zab rfl rfl rfl (zac (.inl rfl) (ev1 rfl)) ?_
          refine zab rfl rfl rfl ((op_neq rfl (ev1 rfl) (ev1 rfl)).cast (d' := .val (.bool false)) (by kernel_rfl)) ?_
          refine zae ?_
          refine dwp_if_f rfl (rfl) ?_
          refine zam ?_
          refine zaf ?_
          refine zad ?_
          refine zab rfl rfl rfl (zac (.inl rfl) (ev1 rfl)) ?_
          refine zab rfl rfl rfl (zah [] [] [] rfl (ev1 rfl) (ec (ev1 rfl) en) rfl rfl (cops_ok vrow brow4.1 brow4.2) rfl rfl rfl rfl rfl rfl) ?_
          refine zab rfl rfl rfl (zac (.inl rfl) (ev1 rfl)) ?_
          refine zab rfl rfl rfl (zar rfl (ev1 rfl) rfl) ?_
          refine zab rfl rfl rfl (zar rfl (ev1 rfl) rfl) ?_
          refine zab rfl rfl rfl (zac (.inr rfl) (ev1 rfl)) ?_
          refine zab rfl rfl rfl (zac (.inr rfl) (ev1 rfl)) ?_
          refine zae ?_
          refine zaf ?_
          refine zad ?_
          refine zab rfl rfl rfl (zac (.inl rfl) (ev1 rfl)) ?_
          refine zab rfl rfl rfl ((op_eql rfl (ev1 rfl) (ev1 rfl)).cast (d' := .val (.bool true)) (by kernel_rfl)) ?_
          refine zab rfl rfl rfl (zac (.inl rfl) (ev1 rfl)) ?_
          refine zai (gd_t (b := true) rfl rfl rfl) rfl rfl rfl (zac (.inl rfl) (ev1 rfl)) (by simp only [upd, za, zaa]; exact rfl) ?_
          refine zai (gd_t (b := true) rfl rfl rfl) rfl rfl rfl (zac (.inl rfl) (ev1 rfl)) (by simp only [upd, za, zaa]; exact rfl) ?_
          refine zai (gd_t (b := true) rfl rfl rfl) rfl rfl rfl (zac (.inl rfl) (ev1 rfl)) (by simp only [upd, za, zaa]; exact rfl) ?_
          refine zai (gd_t (b := true) rfl rfl rfl) rfl rfl rfl (op_sltk (j := (x.take (min x.length 2000)).length - rrow.length) rfl sl30 (ev2 rfl) (bd_some (ev2 rfl)) (fun _ => by omega) (fun _ => by omega) (fun _ => rfl)) (by simp only [upd, za, zaa]; exact rfl) ?_
          refine zai (gd_t (b := true) rfl rfl rfl) rfl rfl rfl ((zah [] [] [] rfl (ev1 rfl) (ec (ev2 rfl) (ec (ev2 rfl) en)) rfl rfl (equalB (rowL vrow) ((x.take (min x.length 2000)).take ((x.take (min x.length 2000)).length - rrow.length))) rfl rfl rfl rfl rfl rfl).cast (d' := .val (.bool true)) (by rw [brow2]; simp)) (by simp only [upd, za, zaa]; exact rfl) ?_
          refine zab rfl rfl rfl ((op_and rfl (ev1 rfl) (ev3 rfl (fun _ => rfl))).cast (d' := .val (.bool true)) (by rfl)) ?_
          refine zab rfl rfl rfl (zac (.inr rfl) (ev1 rfl)) ?_
          refine zae ?_
          refine zan ?_
          refine kend0 (rs1 rfl (rv_t rfl)) rfl ?_
          rfl
        · obtain ⟨erow, hrow, grow⟩ := tk_or (Er.R (x.take (min x.length 2000))) qrow
          refine zad ?_
          refine zab rfl rfl rfl (zac (.inl rfl) (ev1 rfl)) ?_
          refine zab rfl rfl rfl (zah [] [] [] rfl (ev1 rfl) (ec (ev1 rfl) en) rfl rfl (takeOps_no (x.take (min x.length 2000)) hL h15 erow hrow) rfl rfl rfl rfl rfl rfl) ?_
          refine zab rfl rfl rfl (zac (.inl rfl) (ev1 rfl)) ?_
          refine zab rfl rfl rfl (zar rfl (ev1 rfl) rfl) ?_
          refine zab rfl rfl rfl (zar rfl (ev1 rfl) rfl) ?_
          refine zab rfl rfl rfl (zar rfl (ev1 rfl) rfl) ?_
          refine zab rfl rfl rfl (zac (.inr rfl) (ev1 rfl)) ?_
          refine zab rfl rfl rfl (zac (.inr rfl) (ev1 rfl)) ?_
          refine zab rfl rfl rfl (zac (.inr rfl) (ev1 rfl)) ?_
          refine zae ?_
          refine zaf ?_
          refine zaf ?_
          refine zad ?_
          refine zab rfl rfl rfl (zac (.inl rfl) (ev1 rfl)) ?_
          refine zab rfl rfl rfl (op_neq rfl (ev1 rfl) (ev1 rfl)) ?_
          refine zae ?_
          refine dwp_if_t rfl (by rcases grow with h | h <;> rw [h] <;> rfl) ?_
          refine zaf ?_
          refine zad ?_
          refine zab rfl rfl rfl (zac (.inl rfl) (ev1 rfl)) ?_
          refine zab rfl rfl rfl (op_len rfl sl26 (evwk (ev1 rfl) (Wk.slf0 19))) ?_
          refine zab rfl rfl rfl ((op_eql rfl (ev1 rfl) (ev1 rfl)).cast (d' := .val (.bool true)) (by kernel_rfl)) ?_
          refine zab rfl rfl rfl (zac (.inl rfl) (ev1 rfl)) ?_
          refine zai (gd_t (b := true) rfl rfl rfl) rfl rfl rfl (zac (.inl rfl) (ev1 rfl)) (by simp only [upd, za, zaa]; exact rfl) ?_
          refine zai (gd_t (b := true) rfl rfl rfl) rfl rfl rfl ((op_eql rfl (ev2 rfl) (ev1 rfl)).cast (d' := .val (.bool true)) (by kernel_rfl)) (by simp only [upd, za, zaa]; exact rfl) ?_
          refine zab rfl rfl rfl ((op_and rfl (ev1 rfl) (ev3 rfl (fun _ => rfl))).cast (d' := .val (.bool true)) (by rfl)) ?_
          refine zab rfl rfl rfl (zac (.inr rfl) (ev1 rfl)) ?_
          refine zae ?_
          refine zan ?_
          refine kend0 (rs1 rfl (rv_t rfl)) rfl ?_
          rfl
end Go.Proofs.YtmacjicebemgoaaGreat
