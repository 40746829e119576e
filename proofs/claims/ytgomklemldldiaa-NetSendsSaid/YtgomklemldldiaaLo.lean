/- Scopes; slices beside nil; rows of one's own, element by element. Conditions: what a type is, by the kernel. -/
import Derived.Test.YtgomklemldldiaaLn
namespace Go.Proofs.Ytgomklemldldiaa
set_option linter.unusedVariables false
set_option linter.unusedSimpArgs false
open Go.RowKit

section
variable {P : Program} {s0 : St} {n : Cx}
theorem stepR_scope' {b : Frame} {a : Act} {k : List Item} {cs : List Frame} {w : World} {c : Code} : step P (lone (b.atR a (.code (.scope c) :: k)) cs w) = .next (lone (b.atR a (.code c :: .inScope c :: k)) cs w) :=
  step_lone_go (by simp [stepG, stepG.exec, Frame.atR])
theorem stepR_inScope' {b : Frame} {a : Act} {k : List Item} {cs : List Frame} {w : World} {c : Code} : step P (lone (b.atR a (.inScope c :: k)) cs w) = .next (lone (b.atR a k) cs w) :=
  step_lone_go (by simp [stepG, stepG.exec, Frame.atR])

/-- no goto leaves it -/
def Kng (K : Cont) : Cont
  | .goto _, _, _ => False
  | x, F, M => K x F M
theorem dwp_scope {c : Code} {F : Fr} {M : List Blk} {K : Cont} (h : dwp P s0 n c F M (Kng K)) : dwp P s0 n (.scope c) F M K := by
  intro a w hi b k cs hro hb hr
  obtain ⟨e, a₁, w₁, hq, harr⟩ := h a w hi b (.inScope c :: k) cs hro hb hr
  have f : ∀ (m : Machine), m.fenced P (wd (n.ρ s0)) := fun _ => wd_fenced
  cases e with
  | normal => exact ⟨.normal, a₁, w₁, hq, .head (f _) stepR_scope' (StepsIn.trans harr (.one (f _) stepR_inScope'))⟩
  | exit id => exact ⟨.exit id, a₁, w₁, hq, fun k' hk => .head (f _) stepR_scope' (harr.1 k' (by simp [exitTo, hk])), fun h1 h2 => by
      obtain ⟨k1, h3, h4⟩ := harr.2 h1 (by simp [exitTo, h2])
      exact ⟨k1, h3, .head (f _) stepR_scope' h4⟩⟩
  | goto l => obtain ⟨_, _, _, hk⟩ := hq; exact hk.elim
  | ret => exact ⟨.ret, a₁, w₁, hq, .of_steps (.one (f _) stepR_scope') harr⟩
  | panic ch => exact ⟨.panic ch, a₁, w₁, hq, .of_steps (.one (f _) stepR_scope') harr⟩
  | outgrown => exact hq.elim

/-- a loop that is left in its first round -/
theorem dwp_once {c : Code} {F : Fr} {M : List Blk} {K : Cont} (h : dwp P s0 n c F M (Kseq (fun _ _ => False) K)) : dwp P s0 n (.loop c) F M K :=
  dwp_loop_inv (α := Unit) (fun _ => F) (fun _ => M) (fun _ => True) (fun _ => 0) () trivial (fun _ _ h => h) fun _ _ => dwp_mono h fun x F M hk => by
    cases x with
    | normal => exact hk.elim
    | exit id => exact hk
    | goto l => exact hk
    | ret => exact hk
    | panic d => exact hk
/-- a slice is no longer than may be -/
theorem dwp_len {c : Code} {F : Fr} {M : List Blk} {K : Cont} {t sz m : Nat} {L : List Value} (ht : lk F t = some (.slf sz m L)) (hk : m ≤ 9223372036854775807 → L.length = m * sz → dwp P s0 n c F M K) : dwp P s0 n c F M K := by
  intro a w hi
  obtain ⟨h0, s, h1, h2, h3, h4, h5, h6⟩ := hi
  have hr := h4 t _ ht
  generalize slot a t = vx at hr
  have hb : m ≤ 9223372036854775807 ∧ L.length = m * sz := by
    cases hr with
    | slf hl hn hc _ _ => exact ⟨Nat.le_trans hn hc, hl⟩
  exact hk hb.1 hb.2 a w ⟨h0, s, h1, h2, h3, h4, h5, h6⟩
theorem dwp_lenm {c : Code} {F : Fr} {M : List Blk} {K : Cont} {t sz m : Nat} {L : List D} (ht : lk F t = some (.slm sz m L)) (hk : m ≤ 9223372036854775807 → L.length = m * sz → dwp P s0 n c F M K) : dwp P s0 n c F M K := by
  intro a w hi
  obtain ⟨h0, s, h1, h2, h3, h4, h5, h6⟩ := hi
  have hr := h4 t _ ht
  generalize slot a t = vx at hr
  have hb : m ≤ 9223372036854775807 ∧ L.length = m * sz := by
    cases hr with
    | slm _ hl hn hc _ _ _ _ => exact ⟨Nat.le_trans hn hc, hl⟩
  exact hk hb.1 hb.2 a w ⟨h0, s, h1, h2, h3, h4, h5, h6⟩
/-- .. nor is a row of one's own -/
theorem dwp_lena {c : Code} {F : Fr} {M : List Blk} {K : Cont} {T : TypeId} {i sz m : Nat} {L : List Value} (hM : M[i]? = some (.arr T sz m L)) (hk : m ≤ 9223372036854775807 → L.length = m * sz → dwp P s0 n c F M K) : dwp P s0 n c F M K := by
  intro a w hi
  obtain ⟨h0, s, h1, h2, h3, h4, h5, h6⟩ := hi
  have hil : i < s.β.length := by rw [h3.ok.len, h1]; exact (List.getElem?_eq_some_iff.1 hM).1
  have hM' : s.M[i]? = some (.arr T sz m L) := by rw [h1]; exact hM
  have hk' : s.w.ownsRow 0 T sz s.β[i] m L := h3.ok.blk i _ _ hM' (List.getElem?_eq_getElem hil)
  have hb : m ≤ 9223372036854775807 := by
    rcases hk'.2 with ⟨_, e2⟩ | ⟨g, cap, cur, e1, e2, e3, e4, e5, e6, e7⟩
    · omega
    · exact Nat.le_trans e4 e5
  exact hk hb hk'.1 a w ⟨h0, s, h1, h2, h3, h4, h5, h6⟩
variable {ops : Array Oper}
/-- is a slice nil? -/
theorem walk_nil? {o : Oper} {rest : List Oper} {F : Fr} {M : List Blk} {K : Cont} {T T' e : TypeId} {sz by' m t : Nat} {L : List Value} {x : Operand} (hg : o.guard = none) (hd : o.dst = some t) (ht : Nat.blt t n.n = true) (ho : o.op = .binOp .eql T x (.const (.slice none 0 0)) T') (hT : slE P T = some (e, sz, by')) (hx : Ev true F x (.slf sz m L))
    (hk : ∀ b, (b = true → m = 0 ∧ L = []) → Walk P s0 n ops rest ((t, .val (.bool b)) :: F) M K) : Walk P s0 n ops (o :: rest) F M K := by
  intro a w hi
  have hi' := hi
  obtain ⟨h0, s, h1, h2, h3, h4, h5, h6⟩ := hi
  obtain ⟨dx, ex1, ex2⟩ := hx
  have hrx := ex2 s _ rfl (ev_rep h4 ex1)
  generalize hvx : a.eval x = vx at hrx
  cases hrx with
  | @slf _ _ cap ad _ hl hn hc ha hm =>
    obtain ⟨hu, _⟩ := slE_spec hT
    have hrun : (execOp a.eval o).run P w = .ok (.value (.bool ad.isNone)) w := by
      unfold execOp
      simp only [ho]
      have hv : a.eval (.const (.slice none 0 0)) = .slice none 0 0 := rfl
      rw [hv, hvx]
      refine run_v ?_
      simp only [eqGuard, binOp, Sem.run_bind]
      have heq : ∀ d, (Op.equalIn (d + 1) T (.slice ad m cap) (.slice none 0 0)).run P w = .ok ad.isNone w := fun d => by
        unfold Op.equalIn
        rw [Sem.run_bind, run_underlying hu]
        cases ad <;> simp
      have heq' : (Op.equalIn Op.maxDepth T (.slice ad m cap) (.slice none 0 0)).run P w = .ok ad.isNone w := heq 9999
      simp [Op.equal, heq', Sem.run_bind, go_sem]
    have hfin := hk ad.isNone (fun hb => by
      cases ad with
      | none => have := ha rfl; exact ⟨by omega, List.eq_nil_of_length_eq_zero (by rw [hl, show m = 0 by omega]; simp)⟩
      | some q => cases hb) (a.put o.dst (.bool ad.isNone)) w (by
        obtain ⟨h0, s, h1, h2, h3, h4, h5, h6⟩ := hi'
        refine ⟨h0, s, h1, h2, h3, ?_, by rw [put_size]; exact h5, by rw [put_def]; exact h6⟩
        rw [hd]
        exact h4.put (by rw [h5]; exact Nat.blt_eq.mp ht) (.val _))
    show if Region.wanted o (yielded ops a.tmps) then _ else _
    have hw : Region.wanted o (yielded ops a.tmps) = true := by unfold Region.wanted; rw [hg]
    rw [if_pos hw]
    refine ⟨fun _ _ => trivial, ?_⟩
    rw [semAt_noDef (by rw [ho]; rfl), hrun]
    exact hfin
end

section
variable {P : Program} {pc : Bool} {o : Oper} {F : Fr} {M : List Blk} {α : Type} {en : α → List Value} {T T' e : TypeId} {sz by' k n i j : Nat} {l : List α} {x y : Operand}
/-- an address, read in memory that stays -/
theorem op_lddm {kk : Nat} {ld : List D} {d : D} (ho : o.op = .load T x) (hT : tyB P T = some (false, kk)) (hx : Ev pc F x (.dpm ld)) (hR : ld[0]? = some d) : DOp P pc o F M [] d [] := by
  intro hp a s hok hops hfp
  have hr := ev_at hp hx (by simp [ho, Op.operands]) hops
  generalize hv : a.eval x = vx at hr
  cases hr with
  | @dpm b q _ vs hnl hI hc hl h =>
    obtain ⟨v, hv0⟩ : ∃ v, vs[0]? = some v := ⟨vs[0]'(by rw [hl]; exact (List.getElem?_eq_some_iff.1 hR).1), List.getElem?_eq_getElem _⟩
    exact dg_val hok (run_load_one ho hT hv (by simpa using hc 0 v hv0)) (h 0 d v hR hv0)
/-- a pointer that is not nil -/
theorem op_nc {x : Operand} {d : D} (ho : o.op = .nilCheck x) (hx : Ev pc F x d) (hd : ∀ (s : St) v, Rep s d v → ∃ q, v = .pointer (some q)) : DOp P pc o F M [] d [] := by
  intro hp a s hok hops _
  have h1 := ev_at hp hx (by simp [ho, Op.operands]) hops
  obtain ⟨q, hq⟩ := hd s _ h1
  refine dg_val (v := a.eval x) hok ?_ h1
  unfold execOp
  simp only [ho, hq, Sem.run_pure]
/-- an element of a row of one's own: its place -/
theorem op_ixar {kd : IntKind} {z : Int} (ho : o.op = .indexAddr T x y) (hT : slE P T = some (e, sz, by')) (hx : Ev pc F x (.arr i)) (hy : Ev pc F y (.val (.int kd z))) (hM : M[i]? = some (.arr T' sz n (l.flatMap en))) (hz : pc = true → z = (j : Int)) (hj : pc = true → j < n) : DOp P pc o F M [i] (.aloc i (j * sz)) [] := by
  cases pc with
  | false => intro h; cases h
  | true =>
    have hz := hz rfl
    have hj := hj rfl
    subst hz
    have := op_ixa ho hT hx hy hM (fun _ => ⟨by omega, by omega⟩)
    simpa using this
/-- .. it as a whole -/
theorem op_ldar (ho : o.op = .load T x) (hT : tyB P T = some (true, sz)) (hx : Ev pc F x (.aloc i (j * sz))) (hM : M[i]? = some (.arr T' sz n (l.flatMap en))) (hen : ∀ a, (en a).length = sz) (hj : j < l.length) : DOp P pc o F M [i] (.val (.agg (en l[j]).toArray)) [] :=
  op_ldra ho hT hx hM (flat_one hen hj) (hen _)
theorem op_lda1 {v : Value} (ho : o.op = .load T x) (hT : tyB P T = some (false, k)) (hx : Ev pc F x (.aloc i (j * 1))) (hM : M[i]? = some (.arr T' 1 n (l.flatMap en))) (hen : ∀ a, (en a).length = 1) (hj : j < l.length) (hv : (en l[j])[0]? = some v) : DOp P pc o F M [i] (.val v) [] :=
  op_ldoa ho hT hx hM (by have := flat_cell (c := 0) hen hj (by omega); rw [Nat.add_zero] at this; rw [this, hv])
/-- .. it stored -/
theorem op_star {q : α} (ho : o.op = .store T x y) (hT : tyB P T = some (true, sz)) (hx : Ev pc F x (.aloc i (j * sz))) (hM : M[i]? = some (.arr T' sz n (l.flatMap en))) (hy : Ev pc F y (.val (.agg (en q).toArray))) (hen : ∀ a, (en a).length = sz) (hj : j < l.length) (h1 : (en q).all (·.oneCell') = true) : DOp P pc o F M [i] .junk [(i, .arr T' sz n ((l.set j q).flatMap en))] :=
  op_sta ho hT hx hy hM (by simp [Value.cells]) (hen _) h1 (by
    have h2 : (j + 1) * sz ≤ l.length * sz := Nat.mul_le_mul_right _ hj
    rw [Nat.succ_mul] at h2
    rw [hen, flat_len hen]; exact h2) (flat_set hen hj q)
end
end Go.Proofs.Ytgomklemldldiaa
