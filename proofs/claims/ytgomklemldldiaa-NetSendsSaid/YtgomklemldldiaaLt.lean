/- Memory that stays from now on, within a call; arrays as rows of elements; parts of arrays. No condition. -/
import Derived.Test.YtgomklemldldiaaLr
namespace Go.Proofs.Ytgomklemldldiaa
set_option linter.unusedVariables false
set_option linter.unusedSimpArgs false
open Go.RowKit

section
variable {P : Program} {s0 : St} {n : Cx}
/-- slot by slot, some blocks looked at as memory that stays -/
def FitsV (F' : Fr) (σ : List Nat) (V : Nat → Bool) (M' : List Blk) : Fr → Prop
  | [] => True
  | (t, d) :: r => (lk F' t).bind (vw σ V M') = some d ∧ FitsV F' σ V M' r
theorem fitsV_lk {F' : Fr} {σ : List Nat} {V : Nat → Bool} {M' : List Blk} : ∀ (F : Fr), FitsV F' σ V M' F → ∀ t d, lk F t = some d → ∃ d', lk F' t = some d' ∧ vw σ V M' d' = some d
  | [], _, t, d, h => by cases h
  | (k, x) :: r, h, t, d, hd => by
    rw [lk_cons] at hd
    split at hd
    · rename_i e
      subst e
      obtain rfl := Option.some.inj hd
      simpa [Option.bind_eq_some_iff] using h.1
    · exact fitsV_lk r h.2 t d hd
theorem inv_view {F F' : Fr} {M M' : List Blk} {a : Act} {w : World} {σ V : List Nat} (h : Inv s0 n F' M' a w) (hg : Gs s0 n) (hσ : okσ n.k σ = true) (hF : FitsV F' σ (fun i => V.contains i) M' F) (hM : MFits σ (fun i => V.contains i) M' σ M) : Inv s0 n F M a w := by
  obtain ⟨h0, s, h1, h2, h3, h4, h5, h6⟩ := h
  have hMs := mfits σ M hM
  subst h1
  refine ⟨h0, vst s σ (fun i => V.contains i) M, rfl, h2, tr_vst h0 h3 hMs hg.le hσ, fun t d hd => ?_, h5, dfok_vst h3.ok hMs hσ h6 hg.lt⟩
  obtain ⟨d', e1, e2⟩ := fitsV_lk F hF t d hd
  exact vw_rep h3.ok (h4 t d' e1) d e2
/-- blocks that are written no more -/
theorem dwp_view {c : Code} {F' : Fr} {M' : List Blk} {K : Cont} (hg : Gs s0 n) (σ V : List Nat) (F : Fr) (M : List Blk) (hσ : okσ n.k σ = true) (hF : FitsV F' σ (fun i => V.contains i) M' F) (hM : MFits σ (fun i => V.contains i) M' σ M)
    (h : dwp P s0 n c F M K) : dwp P s0 n c F' M' K := fun a w hi => h a w (inv_view hi hg hσ hF hM)
end

section
variable {P : Program} {pc : Bool} {o : Oper} {F : Fr} {M : List Blk} {T T' : TypeId} {x y : Operand} {i n sz : Nat} {k : IntKind} {z : Int} {α : Type} {en : α → List Value} {l : List α} {j : Nat}
/-- an element of an array of one's own -/
theorem op_ixfr (ho : o.op = .indexAddr T x y) (hT : arE P T = some (n, sz)) (hx : Ev pc F x (.loc i 0)) (hy : Ev pc F y (.val (.int k z))) (hz : pc = true → z = (j : Int)) (hj : pc = true → j < n) : DOp P pc o F M [] (.loc i (j * sz)) [] := fun hp => by
  have h := op_ixl (M := M) ho hT hx hy (fun hp => by have := hz hp; have := hj hp; omega) hp
  rwa [Nat.zero_add, show z.toNat = j by have := hz hp; omega] at h
theorem op_ldfr (a0 : α) (ho : o.op = .load T x) (hT : tyB P T = some (true, sz)) (hx : Ev pc F x (.loc i (j * sz))) (hM : M[i]? = some (.flat T' (l.flatMap en))) (hen : ∀ a, (en a).length = sz) (hj : pc = true → j < l.length) : DOp P pc o F M [i] (.val (.agg (en (l.getD j a0)).toArray)) [] := fun hp =>
  op_ldr ho hT hx hM (by rw [flat_one hen (hj hp), getD_at (hj hp)]) (hen _) hp
theorem op_ldf1 {v : Value} {q : Nat} (a0 : α) (ho : o.op = .load T x) (hT : tyB P T = some (false, q)) (hx : Ev pc F x (.loc i (j * sz))) (hM : M[i]? = some (.flat T' (l.flatMap en))) (hen : ∀ a, (en a).length = sz) (hsz : 0 < sz) (hj : pc = true → j < l.length) (hv : (en (l.getD j a0))[0]? = some v) : DOp P pc o F M [i] (.val v) [] := fun hp =>
  op_ldo ho hT hx hM (by have := flat_cell (c := 0) hen (hj hp) hsz; rw [Nat.add_zero] at this; rw [this, ← getD_at (a0 := a0) (hj hp)]; exact hv) hp
theorem op_stfr {rw' : Bool} {q : α} {v : Value} (ho : o.op = .store T x y) (hT : tyB P T = some (rw', sz)) (hx : Ev pc F x (.loc i (j * sz))) (hy : Ev pc F y (.val v)) (hM : M[i]? = some (.flat T' (l.flatMap en))) (hv : v.cells.toList = en q) (h1 : (en q).all (·.oneCell') = true) (hen : ∀ a, (en a).length = sz) (hj : pc = true → j < l.length) : DOp P pc o F M [i] .junk [(i, .flat T' ((l.set j q).flatMap en))] := fun hp =>
  op_st ho hT hx hy hM hv (hen q) h1 (by
    rw [flat_len hen, hen]
    calc j * sz + sz = (j + 1) * sz := by rw [Nat.succ_mul]
      _ ≤ l.length * sz := Nat.mul_le_mul_right _ (hj hp)) (flat_set hen (hj hp) q) hp
/-- .. of one that stays -/
theorem op_ixdr (a0 : α) (ho : o.op = .indexAddr T x y) (hT : arE P T = some (n, sz)) (hx : Ev pc F x (.dpf (l.flatMap en))) (hy : Ev pc F y (.val (.int k z))) (hz : pc = true → z = (j : Int)) (hj : pc = true → j < n) (hl : l.length = n) (hen : ∀ a, (en a).length = sz) : DOp P pc o F M [] (.dpf (en (l.getD j a0))) [] := by
  intro hp a s hok hops hfp
  have h1 := op_ixd (M := M) ho hT hx hy (fun hp => by have := hz hp; have := hj hp; omega) hp a s hok hops hfp
  have hjl : j < l.length := by rw [hl]; exact hj hp
  have hz' : z.toNat = j := by have := hz hp; omega
  rw [hz'] at h1
  have key : ∀ (s' : St) v, Rep s' (.dpf ((l.flatMap en).drop (j * sz))) v → Rep s' (.dpf (en (l.getD j a0))) v := by
    intro s' v hr
    cases hr with
    | dpf hI hc =>
      refine .dpf hI fun q v hq => hc q v ?_
      have hql : q < sz := by rw [← hen (l.getD j a0)]; exact (List.getElem?_eq_some_iff.1 hq).1
      rw [List.getElem?_drop, flat_cell hen hjl hql, ← getD_at (a0 := a0) hjl]
      exact hq
  revert h1
  generalize (execOp a.eval o).run P s.w = r
  intro h1
  cases r with
  | halt x w' => exact h1
  | ok nx w' =>
    cases nx with
    | value v => obtain ⟨s', a1, a2, a3, a4⟩ := h1; exact ⟨s', a1, a2, a3, key s' v a4⟩
    | skip => obtain ⟨s', a1, a2, a3, a4⟩ := h1; exact ⟨s', a1, a2, a3, key s' _ a4⟩
    | enter f args => exact ⟨h1.1, h1.2.mono fun e w'' ⟨s', v, b1, b2, b3, b4, b5⟩ => ⟨s', v, b1, b2, b3, b4, key s' v b5⟩⟩
    | round l f tmps asg body => exact ⟨h1.1, h1.2.mono fun e w'' ⟨s', v, b1, b2, b3, b4, b5⟩ => ⟨s', v, b1, b2, b3, b4, key s' v b5⟩⟩
    | _ => exact h1
/-- a part of an array that stays -/
theorem op_slad {lo hi : Option Operand} {lz hz : Int} {p q : Nat} (ho : o.op = .slice T x lo hi none) (hT : arE P T = some (n, sz)) (hx : Ev pc F x (.dpf (l.flatMap en))) (hlo : Bd pc F lo 0 lz) (hhi : Bd pc F hi n hz) (hp' : pc = true → lz = (p : Int)) (hq : pc = true → hz = (q : Int)) (hb : pc = true → p ≤ q ∧ q ≤ n) (hl : l.length = n) (hn : n ≤ maxLen) (hen : ∀ a, (en a).length = sz) :
    DOp P pc o F M [] (.slf sz ((l.drop p).take (q - p)).length (((l.drop p).take (q - p)).flatMap en)) [] := by
  intro hp a s hok hops _
  obtain ⟨b1, b2⟩ := hb hp
  have hr := ev_at hp hx (by simp [ho, Op.operands]) hops
  have hlo' := bd_at hp hlo (fun u e => by subst e; simp [ho, Op.operands]) hops
  have hhi' := bd_at hp hhi (fun u e => by subst e; simp [ho, Op.operands]) hops
  rw [hp' hp] at hlo'
  rw [hq hp] at hhi'
  obtain ⟨e, i, e1, e2, e3⟩ := arE_spec hT
  have hlen : ((l.drop p).take (q - p)).length = q - p := by rw [List.length_take, List.length_drop]; omega
  generalize hv : a.eval x = vx at hr
  cases hr with
  | @dpf b off _ hI hc =>
    have sb : ∀ (k : IntKind) (z : Nat) (m : Nat) (cd : BoundsCode), z ≤ m → (Instr.sliceBound (.int k z) m cd).run P s.w = .ok z s.w := fun k z m cd b => by
      simp [Instr.sliceBound, asIntOf, b]
    have hbs : (Instr.sliceBounds false n n (lo.map a.eval) (hi.map a.eval) none).run P s.w = .ok (p, q, n) s.w := by
      rcases hlo' with ⟨q1, q3⟩ | ⟨kl, q1⟩ <;> rcases hhi' with ⟨q2, q4⟩ | ⟨kh, q2⟩ <;> rw [q1, q2]
      · have g1 : p = 0 := by omega
        have g2 : q = n := by omega
        simp [Instr.sliceBounds, g1, g2]
      · have g1 : p = 0 := by omega
        simp [Instr.sliceBounds, g1, sb kh q n _ b2]
      · have g2 : q = n := by omega
        simp [Instr.sliceBounds, g2, sb kl p n _ (by omega)]
      · simp [Instr.sliceBounds, sb kh q n _ b2, sb kl p q _ b1]
    have hrun : (execOp a.eval o).run P s.w = .ok (.value (.slice (some (if n = p then ⟨b, off, none⟩ else (⟨b, off, none⟩ : Addr).add (p * sz))) (q - p) (n - p))) s.w := by
      unfold execOp
      simp only [ho, hv]
      refine run_v ?_
      simp [Instr.sliceAt, Instr.sureAddr, run_underlying e1, Sem.run_bind, hbs, sizeOf, typeInfo, e2, e3]
    refine dg_val hok hrun ?_
    rw [hlen]
    have hpart : ((l.drop p).take (q - p)).flatMap en = ((l.flatMap en).drop (p * sz)).take ((q - p) * sz) := by rw [flat_drop hen, flat_take hen]
    rw [hpart]
    refine .slf (by rw [← hpart, flat_len hen, hlen]) (by omega) (by omega) (fun e => by cases e) ?_
    by_cases hz0 : q - p = 0
    · left; rw [hz0]; simp
    · right
      rw [if_neg (by omega)]
      exact ⟨b, off + p * sz, by rw [addr_lit], hI, cellsAt_sub hc _ _⟩
end
section
variable {P : Program} {pc : Bool} {o : Oper} {F : Fr} {M : List Blk}
/-- something with addresses, into a variable that had none -/
theorem op_stfm {T T' : TypeId} {x y : Operand} {i p : Nat} {rw' : Bool} {d : D} {L : List Value} (ho : o.op = .store T x y) (hT : tyB P T = some (rw', 1)) (hx : Ev pc F x (.loc i p)) (hy : Ev pc F y d) (h1 : ∀ (s : St) v, Rep s d v → v.cells = #[v] ∧ v.oneCell' = true) (hM : M[i]? = some (.flat T' L)) (hfit : p < L.length) : DOp P pc o F M [i] .junk [(i, .mix T' ((L.map .val).set p d))] := by
  intro hp a s hok hops hfp
  have hr := ev_at hp hx (by simp [ho, Op.operands]) hops
  have hry := ev_at hp hy (by simp [ho, Op.operands]) hops
  obtain ⟨hc1, hc2⟩ := h1 s _ hry
  have hM' : s.M[i]? = some (.flat T' L) := by rw [hfp i (by simp)]; exact hM
  generalize hv : a.eval x = vx at hr
  cases hr with
  | @loc _ _ b h =>
    obtain ⟨b', e1, e2⟩ := hok.blk i _ _ hM' h
    cases e1
    obtain ⟨vs, hvs⟩ : ∃ vs, vs = L := ⟨_, rfl⟩
    rw [← hvs] at e2 hfit
    have e3 : vs.length = (L.map D.val).length := by rw [hvs]; simp
    have e4 : ∀ (j : Nat) d v, (L.map D.val)[j]? = some d → vs[j]? = some v → Rep s d v := fun j d v h1 h2 => by
      rw [hvs] at h2
      simp [h2] at h1
      subst h1
      exact .val _
    have hcell := cellsAt_block e2 0
    have hrun := run_store (P := P) (w := s.w) (C := [a.eval y]) ho hT hv rfl (by rw [hc1]) rfl (fun j hj => by
        have hj0 : j = 0 := by simp at hj; exact hj
        subst hj0
        have hp' : p < vs.length := by omega
        have := hcell p vs[p] (by simp [hp'])
        rw [Nat.zero_add] at this
        rw [Nat.add_zero, this]; rfl) (fun j hj => by simp [World.frozen?, e2]) (fun u hu => by rw [List.mem_singleton.1 hu]; exact hc2)
    refine dg_skip (s' := ⟨s.β.set i (.pointer (some ⟨b, 0, none⟩)), s.I, s.M.set i (.mix T' ((L.map .val).set p d)), s.w.setCells b p [a.eval y]⟩) hrun (tr_store hok hM' rfl h rfl p _ ?_) rfl
    refine ⟨b, vs.set p (a.eval y), rfl, setCells_block b _ p s.w vs T' e2, by simp [e3], fun j e v hj hv' => ?_⟩
    have hβ : s.β.set i (.pointer (some ⟨b, 0, none⟩)) = s.β := by
      apply List.ext_getElem?
      intro k
      by_cases e : i = k
      · subst e; rw [List.getElem?_set_self (List.getElem?_eq_some_iff.1 h).1, h]
      · rw [List.getElem?_set_ne e]
    have lift : ∀ {e : D} {v : Value}, Rep s e v → Rep ⟨s.β.set i (.pointer (some ⟨b, 0, none⟩)), s.I, s.M.set i (.mix T' ((L.map .val).set p d)), s.w.setCells b p [a.eval y]⟩ e v := by
      intro e v hr
      refine Rep.mono' (s := s) (s' := ⟨s.β.set i (.pointer (some ⟨b, 0, none⟩)), s.I, s.M.set i (.mix T' ((L.map .val).set p d)), s.w.setCells b p [a.eval y]⟩) (fun k x hk _ => by show (s.β.set i _)[k]? = _; rw [hβ]; exact hk) (fun _ h => h) (fun b' hI => setCells_other b _ p s.w b' fun e => ?_) hr
      subst e
      exact (hok.lt b' (live_of hM' rfl h rfl)).2 hI
    by_cases e' : p = j
    · subst e'
      rw [List.getElem?_set_self (by omega)] at hj
      rw [List.getElem?_set_self (by omega)] at hv'
      cases hj; cases hv'
      exact lift hry
    · rw [List.getElem?_set_ne e'] at hj hv'
      exact lift (e4 j e v hj hv')
/-- an array of zeros -/
theorem op_build0a {T : TypeId} {q : Nat × Nat} {Z : List Value} (ho : o.op = .build T #[]) (hT : arE P T = some q) (hZ : zrC P T = some Z) : DOp P pc o F M [] (.val (.agg Z.toArray)) [] := by
  intro hp a s hok hops _
  obtain ⟨i, z, e1, e2, e3⟩ := zrC_spec hZ
  obtain ⟨e, i', h1, h2, h3⟩ := arE_spec (n := q.1) (sz := q.2) hT
  refine dg_val (v := .agg Z.toArray) hok ?_ (.val _)
  have hz0 : (zeroValue T).run P s.w = .ok z s.w := by simp [zeroValue, typeInfo, e1, e2]
  have hz1 : z.cells = Z.toArray := by rw [← e3]
  unfold execOp
  simp only [ho]
  refine run_v ?_
  simp [Instr.build, Sem.run_bind, hz0, run_underlying h1, sizeOf, typeInfo, h2, Instr.fill, hz1]
end

section
variable {P : Program} {s0 : St} {n : Cx}
/-- a jump to l is J -/
def Kjmp (l : Nat) (J : Fr → List Blk → Prop) (K : Cont) : Cont
  | .goto l', F, M => l' = l ∧ J F M
  | x, F, M => K x F M
/-- a scope in which the run jumps back to one label -/
theorem dwp_jumps {α : Type} {c rest : Code} {F : Fr} {M : List Blk} {K : Cont} (l : Nat) (hf : findLabel c l = some rest) (J : α → Fr) (JM : α → List Blk) (Pr : α → Prop) (μ : α → Nat)
    (first : dwp P s0 n c F M (Kjmp l (fun F' M' => ∃ y, Pr y ∧ ∀ a w, Inv s0 n F' M' a w → Inv s0 n (J y) (JM y) a w) K))
    (pass : ∀ x, Pr x → dwp P s0 n rest (J x) (JM x) (Kjmp l (fun F' M' => ∃ y, Pr y ∧ μ y < μ x ∧ ∀ a w, Inv s0 n F' M' a w → Inv s0 n (J y) (JM y) a w) K)) : dwp P s0 n (.scope c) F M K := by
  intro a0 w0 hi0 b k cs hro hb hr
  have f : ∀ (m : Machine), m.fenced P (wd (n.ρ s0)) := fun _ => wd_fenced
  have hg : gotoIn l (.inScope c :: k) = some (.code rest :: .inScope c :: k) := by simp [gotoIn, hf]
  have key : ∀ m x a w, μ x = m → Pr x → Inv s0 n (J x) (JM x) a w → ∃ e a' w', PostK s0 n K e a' w' ∧ ArrivesIn (Machine.fenced P (wd (n.ρ s0))) P (lone (b.atR a (.code rest :: .inScope c :: k)) cs w) b k cs e a' w' := by
    intro m
    induction m using Nat.strongRecOn with
    | _ m ih =>
      intro x a w hm hp hi
      obtain ⟨e, a₁, w₁, hq, harr⟩ := pass x hp a w hi b (.inScope c :: k) cs hro hb hr
      cases e with
      | normal => exact ⟨.normal, a₁, w₁, hq, StepsIn.trans harr (.one (f _) stepR_inScope')⟩
      | exit id => exact ⟨.exit id, a₁, w₁, hq, fun k' hk => harr.1 k' (by simp [exitTo, hk]), fun h1 h2 => harr.2 h1 (by simp [exitTo, h2])⟩
      | goto l' =>
        obtain ⟨F', M', hi', rfl, y, hy, hlt, hback⟩ := hq
        obtain ⟨e₂, a₂, w₂, hq₂, harr₂⟩ := ih (μ y) (hm ▸ hlt) y a₁ w₁ rfl hy (hback _ _ hi')
        exact ⟨e₂, a₂, w₂, hq₂, .of_steps (harr.1 _ hg) harr₂⟩
      | ret => exact ⟨.ret, a₁, w₁, hq, harr⟩
      | panic ch => exact ⟨.panic ch, a₁, w₁, hq, harr⟩
      | outgrown => exact hq.elim
  obtain ⟨e, a₁, w₁, hq, harr⟩ := first a0 w0 hi0 b (.inScope c :: k) cs hro hb hr
  cases e with
  | normal => exact ⟨.normal, a₁, w₁, hq, .head (f _) stepR_scope' (StepsIn.trans harr (.one (f _) stepR_inScope'))⟩
  | exit id => exact ⟨.exit id, a₁, w₁, hq, fun k' hk => .head (f _) stepR_scope' (harr.1 k' (by simp [exitTo, hk])), fun h1 h2 => by
      obtain ⟨k1, h3, h4⟩ := harr.2 h1 (by simp [exitTo, h2])
      exact ⟨k1, h3, .head (f _) stepR_scope' h4⟩⟩
  | goto l' =>
    obtain ⟨F', M', hi', rfl, y, hy, hback⟩ := hq
    obtain ⟨e₂, a₂, w₂, hq₂, harr₂⟩ := key _ y a₁ w₁ rfl hy (hback _ _ hi')
    exact ⟨e₂, a₂, w₂, hq₂, .of_steps (.head (f _) stepR_scope' (harr.1 _ hg)) harr₂⟩
  | ret => exact ⟨.ret, a₁, w₁, hq, .of_steps (.one (f _) stepR_scope') harr⟩
  | panic ch => exact ⟨.panic ch, a₁, w₁, hq, .of_steps (.one (f _) stepR_scope') harr⟩
  | outgrown => exact hq.elim
end
end Go.Proofs.Ytgomklemldldiaa
