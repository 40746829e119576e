/- Loops over functions: rounds, calls of yield, the loop itself. No condition. -/
import Derived.Test.YtgomklemldldiaaLm
import Derived.RangeFuncIn
namespace Go.Proofs.Ytgomklemldldiaa
set_option linter.unusedVariables false
set_option linter.unusedSimpArgs false
open Go.RowKit

theorem reps_app {s : St} {l k : List D} {vs us : List Value} (h : Reps s l vs) (h' : Reps s k us) : Reps s (l ++ k) (vs ++ us) := by
  refine ⟨by simp [h.1, h'.1], fun j e v hj hv => ?_⟩
  have hl := h.1
  by_cases h1 : j < l.length
  · rw [List.getElem?_append_left h1] at hj
    rw [List.getElem?_append_left (by omega)] at hv
    exact h.2 j e v hj hv
  · rw [List.getElem?_append_right (by omega)] at hj
    rw [List.getElem?_append_right (by omega), hl] at hv
    exact h'.2 _ e v hj hv
theorem reps_one {s : St} {d : D} {v : Value} (h : Rep s d v) : Reps s [d] [v] := ⟨rfl, fun j e u hj hu => by
  cases j with
  | zero => simp at hj hu; subst hj; subst hu; exact h
  | succ j => simp at hj⟩
theorem reps_vw {s : St} {σ : List Nat} {V : Nat → Bool} {Min : List Blk} {l l' : List D} {vs : List Value} (hok : Ok s) (h : Reps s l vs) (hc : vwL σ V s.M l = some l') : Reps (vst s σ V Min) l' vs := by
  obtain ⟨g1, g2⟩ := vwL_spec _ _ hc
  refine ⟨by rw [h.1, g1], fun j e v hj hv => ?_⟩
  obtain ⟨y, hy, hy2⟩ := g2 j e hj
  exact vw_rep hok (h.2 j y v hy hv) e hy2

/-- memory that no name has -/
theorem step_raw {s : St} (ho : Ok s) (o : Obj) : Tr s ⟨s.β, s.I, s.M, s.w.alloc o⟩ := by
  have keep : ∀ b, b < s.w.heap.size → (s.w.alloc o).heap[b]? = s.w.heap[b]? := fun b h => Below.heap_alloc _ _ _ h
  refine ⟨⟨ho.len, fun i k h h1 h2 => BlkOk.mono (s := s) (s' := ⟨s.β, s.I, s.M, s.w.alloc o⟩) (fun _ _ h _ => h) (fun _ h => h) (fun b hI => keep b (ho.il b hI)) (ho.blk i k h h1 h2) (fun b hl hb => keep b (ho.lt b (live_of h1 hl h2 hb)).1), fun b hb => ?_, ho.inj, fun b hI => ?_⟩,
    hkeep.refl _, fun _ h => h, fun b h => .inl h, fun b hb _ => keep b hb, fun _ h => .inr h, rfl, rfl, rfl, by simp⟩
  · have := ho.lt b hb
    exact ⟨by simp; omega, this.2⟩
  · have := ho.il b hI
    simp; omega

/-- the record of a loop turned -/
theorem step_lp {s : St} (ho : Ok s) {i l N : Nat} {F : Fr} {ps : Array Tmp} {asg body : Code} {st : LoopState} {pe : Option Code} {fn : FuncId} {tmps : Array Value} {Df : Nat} (st' : LoopState) (pe' : Option Code) (hM : s.M[i]? = some (.lp N F ps asg body st pe)) (hβ : s.β[i]? = some (.pointer (some ⟨l, 0, none⟩)))
    (hh : s.w.heap[l]? = some (loopObj fn tmps Df ps asg body st pe)) (hsz : tmps.size = N) (hF : ∀ t d, lk F t = some d → Rep s d (tmps.getD t undef)) :
    Tr s ⟨s.β, s.I, s.M.set i (.lp N F ps asg body st' pe'), s.w.putObj l (loopObj fn tmps Df ps asg body st' pe')⟩ := by
  have hlt : l < s.w.heap.size := (Array.getElem?_eq_some_iff.1 hh).1
  have hli : Live s l := ⟨i, _, _, hM, rfl, hβ, rfl⟩
  have hset : s.β.set i (.pointer (some ⟨l, 0, none⟩)) = s.β := by
    apply List.ext_getElem?
    intro j
    by_cases e : i = j
    · subst e; rw [List.getElem?_set_self (List.getElem?_eq_some_iff.1 hβ).1, hβ]
    · rw [List.getElem?_set_ne e]
  have := step_set ho i s.M (.pointer (some ⟨l, 0, none⟩)) (.lp N F ps asg body st' pe') (s.w.putObj l (loopObj fn tmps Df ps asg body st' pe')) rfl (fun _ _ h => .inl h) (List.getElem?_eq_some_iff.1 hM).1 (.inr (.inl hβ)) (by simp)
    ⟨l, fn, tmps, Df, rfl, World.putObj_heap_same hlt, hsz, fun t d hd => ?_⟩ (fun b hb j k h hne h1 h2 h3 h4 => ?_) (fun b hb => .inr (by cases hb; exact hli)) (fun b hb => by cases hb; simpa using hlt) (fun _ => False) (fun _ h => h.elim) (fun b _ hb _ => World.putObj_heap_other fun e => hb (by rw [e]; rfl)) rfl rfl rfl (by simp)
  · rw [hset] at this; exact this
  · rw [hset]
    refine Rep.mono' (s := s) (s' := ⟨s.β, s.I, s.M.set i (.lp N F ps asg body st' pe'), s.w.putObj l (loopObj fn tmps Df ps asg body st' pe')⟩) (fun _ _ h _ => h) (fun _ h => h) (fun b hb => World.putObj_heap_other fun e => ?_) (hF t d hd)
    exact (ho.lt l hli).2 (e ▸ hb)
  · have := ho.inj i j _ k _ h b hM rfl hβ hb h1 h2 h3 h4
    exact hne this.symm

/-- parameters set -/
def setF : List Tmp → List D → Fr → Fr
  | p :: ps, d :: ds, F => setF ps ds ((p, d) :: F)
  | _, _, F => F
theorem setF_ok {s : St} : ∀ (ps : List Tmp) (ds : List D) (vs : List Value) (F : Fr) (a : Act), Reps s ds vs → ps.length = ds.length → (∀ p ∈ ps, p < a.tmps.size) → FOk s F a →
    FOk s (setF ps ds F) { a with tmps := (ps.zip vs).foldl (fun t (p, v) => t.setIfInBounds p v) a.tmps } ∧ ((ps.zip vs).foldl (fun (t : Array Value) (p, v) => t.setIfInBounds p v) a.tmps).size = a.tmps.size
  | [], [], vs, F, a, _, _, _, h => ⟨h, rfl⟩
  | p :: ps, d :: ds, [], F, a, hr, _, _, _ => by have := hr.1; simp at this
  | p :: ps, d :: ds, v :: vs, F, a, hr, hl, hp, h => by
    have h1 : Rep s d v := hr.2 0 d v rfl rfl
    have h2 : Reps s ds vs := ⟨by simpa using hr.1, fun j e u hj hu => hr.2 (j + 1) e u (by simpa using hj) (by simpa using hu)⟩
    have := setF_ok ps ds vs ((p, d) :: F) (a.put (some p) v) h2 (by simpa using hl) (fun q hq => by rw [put_size]; exact hp q (List.mem_cons_of_mem _ hq)) (h.put (hp p (List.mem_cons_self ..)) h1)
    rw [put_size] at this
    exact this
  | [], d :: ds, vs, F, a, _, hl, _, _ => by simp at hl
  | p :: ps, [], vs, F, a, _, hl, _, _ => by simp at hl

section
variable {P : Program}

/-- a round: yield, called so, hands back r, and leaves its memory so -/
def DRound (P : Program) (i : Nat) (args : List D) (Min : List Blk) (r : Bool) (Mout : List Blk) : Prop :=
  ∀ (s : St) (vs : List Value) (l : Nat), Ok s → s.M = Min → s.β[i]? = some (.pointer (some ⟨l, 0, none⟩)) → Reps s args vs →
    ∃ f tmps asg body, (Instr.yield l vs.toArray).run P s.w = .ok (.round l f tmps asg body) s.w ∧
      RoundIn Fence.wide 0 P l f tmps asg body s.w fun e w' => ∃ s', e = .returned (.bool r) ∧ s'.w = w' ∧ Tr s s' ∧ s'.M = Mout

/-- how a round's body must leave -/
def Krnd (m i : Nat) (N : Nat) (F : Fr) (ps : Array Tmp) (asg body : Code) (r : Bool) (Mout : List Blk) : Cont
  | .normal, _, M => r = true ∧ M[i]? = some (.lp N F ps asg body .busy none) ∧ ∃ σ, okσ m σ = true ∧ MFits σ allv (M.set i (.lp N F ps asg body .ready none)) σ Mout
  | .ret, _, M => r = false ∧ M[i]? = some (.lp N F ps asg body .busy none) ∧ ∃ σ, okσ m σ = true ∧ MFits σ allv (M.set i (.lp N F ps asg body .done (some .ret))) σ Mout
  | .exit id, _, M => r = false ∧ M[i]? = some (.lp N F ps asg body .busy none) ∧ ∃ σ, okσ m σ = true ∧ MFits σ allv (M.set i (.lp N F ps asg body .done (some (.exit id)))) σ Mout
  | .goto id, _, M => r = false ∧ M[i]? = some (.lp N F ps asg body .busy none) ∧ ∃ σ, okσ m σ = true ∧ MFits σ allv (M.set i (.lp N F ps asg body .done (some (.goto id)))) σ Mout
  | .panic _, _, _ => False

theorem dround_go {i N : Nat} {F F1 : Fr} {ps : Array Tmp} {asg body : Code} {args : List D} {Min Mout : List Blk} {r : Bool} (m : Nat) (hMi : Min[i]? = some (.lp N F ps asg body .ready none)) (hps : ps.size = args.length) (hpN : ps.all (fun p => Nat.blt p N) = true) (hF : setF ps.toList args F = F1) (hm : Min.length = m)
    (h : ∀ s0 : St, s0.M.length ≤ m → dwp P s0 ⟨N, some i, m, [], false⟩ asg F1 Min (Kseq (fun F2 M2 => M2[i]? = some (.lp N F ps asg body .ready none) ∧ dwp P s0 ⟨N, some i, m, [], false⟩ body F2 (M2.set i (.lp N F ps asg body .busy none)) (Krnd m i N F ps asg body r Mout)) (fun _ _ _ => False))) :
    DRound P i args Min r Mout := by
  subst hm hF
  intro s vs l hok hM hβ hr
  subst hM
  obtain ⟨l', fn, tmps, Df, e1, e2, e3, e4⟩ := hok.blk i _ _ hMi hβ
  cases e1
  have hrun := run_yield (P := P) (args := vs.toArray) e2 (by simp [hr.1, hps])
  refine ⟨fn, _, asg, body, hrun, roundIn_of_wpIn trivial ?_⟩
  have hρ : (Cx.mk N (some i) s.M.length [] false).ρ s = some l := by simp [Cx.ρ, hβ]
  have hs := h s (Nat.le_refl _)
  have hset := setF_ok (s := s) ps.toList args vs F { tmps, defers := [] } hr (by simpa using hps) (fun p hp => by
    have := Array.all_eq_true_iff_forall_mem.1 hpN p (by simpa using hp)
    rw [e3]; exact Nat.blt_eq.mp this) e4
  have hz : (ps.zip vs.toArray).foldl (fun t (p, v) => t.setIfInBounds p v) tmps = (ps.toList.zip vs).foldl (fun t (p, v) => t.setIfInBounds p v) tmps := by
    rw [← Array.foldl_toList]; simp
  rw [hz]
  have hinv : Inv s ⟨N, some i, s.M.length, [], false⟩ (setF ps.toList args F) s.M { tmps := (ps.toList.zip vs).foldl (fun t (p, v) => t.setIfInBounds p v) tmps, defers := [] } s.w :=
    ⟨hok, s, rfl, rfl, Tr.refl hok, hset.1, hset.2.trans e3, .nil⟩
  have h1 := hs _ _ hinv
  rw [hρ] at h1
  refine wpIn_mono h1 ?_
  intro e a w hp
  cases e with
  | normal =>
    obtain ⟨F2, M2, ⟨h0, s1, q1, q2, q3, q4, q5, q6⟩, hM2, hbody⟩ := hp
    subst q2
    have hβ1 := q3.hnd.1 i _ hβ (by simp) (by simp)
    have hM1 : s1.M[i]? = some (.lp N F ps asg body .ready none) := by rw [q1]; exact hM2
    obtain ⟨l1, fn1, tmps1, Df1, g1, g2, g3, g4⟩ := q3.ok.blk i _ _ hM1 hβ1
    cases g1
    have ht := step_lp q3.ok .busy none hM1 hβ1 g2 g3 g4
    refine ⟨_, run_beginRound g2 rfl, ?_⟩
    have hb := hbody a _ ⟨h0, ⟨s1.β, s1.I, s1.M.set i (.lp N F ps asg body .busy none), s1.w.putObj l (loopObj fn1 tmps1 Df1 ps asg body .busy none)⟩, by rw [q1], rfl, q3.trans ht, q4.mono q3.ok ht, q5, q6.mono q3.ok ht⟩
    rw [hρ] at hb
    refine wpIn_mono hb ?_
    have fin : ∀ (jump : Option Code) (M : List Blk) (w : World) (s3 : St), s3.M = M → s3.w = w → Tr s s3 → M[i]? = some (.lp N F ps asg body .busy none) → (∃ σ, okσ s.M.length σ = true ∧ MFits σ allv (M.set i (.lp N F ps asg body (if jump.isNone then .ready else .done) jump)) σ Mout) →
        ∃ v w', (Instr.endRound l jump).run P w = .ok v w' ∧ ∃ s', Ending.returned v = .returned (.bool jump.isNone) ∧ s'.w = w' ∧ Tr s s' ∧ s'.M = Mout := by
      rintro jump M w s3 rfl rfl ht3 hMb ⟨σ, hσ, hMo⟩
      have hβ3 := ht3.hnd.1 i _ hβ (by simp) (by simp)
      obtain ⟨l3, fn3, tmps3, Df3, k1, k2, k3, k4⟩ := ht3.ok.blk i _ _ hMb hβ3
      cases k1
      have ht4 := ht3.trans (step_lp ht3.ok (if jump.isNone then .ready else .done) jump hMb hβ3 k2 k3 k4)
      refine ⟨_, _, run_endRound jump k2, vst ⟨s3.β, s3.I, s3.M.set i (.lp N F ps asg body (if jump.isNone then .ready else .done) jump), s3.w.putObj l (loopObj fn3 tmps3 Df3 ps asg body (if jump.isNone then .ready else .done) jump)⟩ σ allv Mout, rfl, rfl, tr_vst hok ht4 (mfits σ Mout hMo) (Nat.le_refl _) hσ, rfl⟩
    intro e a w hp
    cases e with
    | normal => obtain ⟨F3, M3, ⟨_, s3, r1, r2, r3, r4, r5, r6⟩, rfl, k2, k3⟩ := hp; exact fin none M3 w s3 r1 r2 r3 k2 k3
    | ret => obtain ⟨F3, M3, ⟨_, s3, r1, r2, r3, r4, r5, r6⟩, rfl, k2, k3⟩ := hp; exact fin (some .ret) M3 w s3 r1 r2 r3 k2 k3
    | exit id => obtain ⟨F3, M3, ⟨_, s3, r1, r2, r3, r4, r5, r6⟩, rfl, k2, k3⟩ := hp; exact fin (some (.exit id)) M3 w s3 r1 r2 r3 k2 k3
    | goto id => obtain ⟨F3, M3, ⟨_, s3, r1, r2, r3, r4, r5, r6⟩, rfl, k2, k3⟩ := hp; exact fin (some (.goto id)) M3 w s3 r1 r2 r3 k2 k3
    | panic ch => obtain ⟨_, _, _, _, hk⟩ := hp; exact hk
    | outgrown => exact hp
  | ret => obtain ⟨_, _, _, hk⟩ := hp; exact hk
  | exit id => obtain ⟨_, _, _, hk⟩ := hp; exact hk
  | goto id => obtain ⟨_, _, _, hk⟩ := hp; exact hk
  | panic ch => obtain ⟨_, _, _, _, hk⟩ := hp; exact hk
  | outgrown => exact hp

theorem run_callY {o : Oper} {a : Act} {x : Operand} {as : List Operand} {tys : Array TypeId} {l : Nat} {w : World} (ho : o.op = .call { callee := .value x, args := as.toArray, argTypes := tys }) (hx : a.eval x = .func (.yield l) #[] #[]) :
    (execOp a.eval o).run P w = (Instr.yield l (as.map a.eval).toArray).run P w := by
  unfold execOp
  simp only [ho, resolve, hx, Deferred.ofValue]
  simp [invoke, Sem.run_bind, Result.andThen]

section
variable {s0 : St} {n : Cx} {ops : Array Oper}
/-- a call of yield -/
theorem op_y {pc : Bool} {o : Oper} {F : Fr} {M Min Mout : List Blk} {x : Operand} {as : List Operand} {tys : Array TypeId} {ds cargs : List D} {i j : Nat} {r : Bool} {wr : List (Nat × Blk)} (σ V ν : List Nat)
    (ho : o.op = .call { callee := .value x, args := as.toArray, argTypes := tys }) (hx : Ev pc F x (.yld j)) (hds : EvL pc F as ds) (hij : σ[i]? = some j)
    (hc : vwL σ (fun i => V.contains i) M ds = some cargs) (hMin : vwMs σ (fun i => V.contains i) M σ = some Min) (hy : DRound P i cargs Min r Mout)
    (hlive : Min.all (·.live) = true) (hn : decide (σ ++ ν).Nodup = true) (hν : ν.all (fun i => match M[i]? with | some .hole => true | _ => false) = true)
    (hwr : wrOf (σ ++ ν) (σ ++ ν) Mout = some wr) (hfl : (V.isEmpty || Mout.all (·.fl)) = true) : DOp P pc o F M (σ ++ V ++ ν) (.val (.bool r)) wr := by
  intro hp a s hok hops hfp
  have hVM : ∀ i, V.contains i = true → M[i]? = s.M[i]? := fun i hi => (hfp i (by simp at hi; simp [hi])).symm
  rw [vwL_congr hVM] at hc
  rw [vwMs_congr hVM σ (fun i hi => (hfp i (by simp [hi])).symm)] at hMin
  have hopx : x ∈ o.op.operands ∧ ∀ y ∈ as, y ∈ o.op.operands := by rw [ho]; simp [Op.operands, Call.operands]; intro y hy; exact .inr hy
  obtain ⟨dx, ex1, ex2⟩ := hx
  have hrx := ex2 s _ hp (hops x hopx.1 dx ex1)
  generalize hvx : a.eval x = vx at hrx
  cases hrx with
  | @yld _ l hβ =>
    have hn' : (σ ++ ν).Nodup := of_decide_eq_true hn
    have hreps := evL_reps (a := a) (s := s) hp as ds hds (fun y hy => hops y (hopx.2 y hy))
    have hreps' := reps_vw (Min := Min) hok hreps hc
    obtain ⟨f, tmps, asg, body, e1, e2⟩ := hy (vst s σ (fun i => V.contains i) Min) (as.map a.eval) l (ok_vst hok hMin (List.nodup_append.1 hn').1) rfl (vst_hnd hij hβ) hreps'
    rw [run_callY ho hvx]
    have e1' : Sem.run P (Instr.yield l (as.map a.eval).toArray) s.w = .ok (.round l f tmps asg body) s.w := e1
    rw [e1']
    refine ⟨rfl, RoundIn.mono e2 ?_⟩
    rintro e w'' ⟨s2, rfl, rfl, ht2, hM2⟩
    have hν' : ∀ i ∈ ν, s.M[i]? = some .hole := fun i hi => by
      have h1 := List.all_eq_true.1 hν i hi
      rw [hfp i (by simp [hi])]
      split at h1
      · rename_i h2; exact h2
      · cases h1
    have hfl' : (∃ i, V.contains i = true) → Mout.all (·.fl) = true := by
      rintro ⟨i, hi⟩
      cases V with
      | nil => simp at hi
      | cons y V => simpa using hfl
    obtain ⟨q1, _⟩ := call_back (M3 := upd s.M wr) hok hMin hlive hn' hν' ht2 hM2 hwr rfl hfl'
    exact ⟨back s s2 σ (fun i => V.contains i) ν (upd s.M wr), _, rfl, rfl, q1, rfl, .val _⟩

/-- `for .. := range g { .. }` -/
theorem dwp_rf {g : Operand} {ps : Array Tmp} {asg body : Code} {F FL : Fr} {M M1 M2 Min Mout : List Blk} {K : Cont} {f : FuncId} {first caps cargs : List D} {d0 : D} {wr : List (Nat × Blk)} {st : LoopState} {pe : Option Code} (σ V ν : List Nat) (j : Nat)
    (hr : n.r = none) (hmk : n.mks = true) (hg : Ev true F g (.fn (.func f) first caps)) (hj : M[j]? = some .hole) (hFL : ∀ t d, lk FL t = some d → lk F t = some d) (hM1 : M.set j (.lp n.n FL ps asg body .ready none) = M1)
    (hc : vwL σ (fun i => V.contains i) M1 (first ++ [.yld j] ++ caps) = some cargs) (hMin : vwMs σ (fun i => V.contains i) M1 σ = some Min) (hf : DFun P f cargs Min d0 Mout)
    (hlive : Min.all (·.live) = true) (hn : decide (σ ++ ν).Nodup = true) (hν : ν.all (fun i => match M1[i]? with | some .hole => true | _ => false) = true)
    (hwr : wrOf (σ ++ ν) (σ ++ ν) Mout = some wr) (hfl : (V.isEmpty || Mout.all (·.fl)) = true) (hM2 : upd M1 wr = M2) (hj2 : M2[j]? = some (.lp n.n FL ps asg body st pe)) (hst : st ≠ .busy)
    (hk0 : pe = none → K .normal F (M2.set j .gone)) (hk1 : ∀ c, pe = some c → dwp P s0 n c F (M2.set j .gone) K) : dwp P s0 n (.rangeFunc g ps asg body) F M K := by
  intro a w hi
  obtain ⟨h0, s, h1, h2, h3, h4, h5, h6⟩ := hi
  subst h1 h2
  have hok := h3.ok
  have hρ : n.ρ s0 = none := by unfold Cx.ρ; rw [hr]
  rw [hρ]
  refine wpIn_rangeFunc fun fn _ => ?_
  obtain ⟨dx, ex1, ex2⟩ := hg
  have hrx := ex2 s _ rfl (ev_rep h4 ex1)
  generalize hvx : a.eval g = vx at hrx
  have hrx' := hrx
  cases hrx with
  | @fn _ _ _ vs us hl1 hl2 hr1 hr2 =>
    have t1 := step_raw hok (.deferred (some []))
    have hsz : (s.w.alloc (.deferred (some []))).heap.size = s.w.heap.size + 1 := by simp
    have hjl : j < s.M.length := (List.getElem?_eq_some_iff.1 hj).1
    have hβj : s.β[j]? = some .nilFunc := by
      have hlt : j < s.β.length := by rw [hok.len]; exact hjl
      have e := List.getElem?_eq_getElem hlt
      have : s.β[j] = .nilFunc := hok.blk j .hole _ hj e
      rw [e, this]
    obtain ⟨lo, hlo⟩ : ∃ lo, loopObj fn a.tmps s.w.heap.size ps asg body .ready none = lo := ⟨_, rfl⟩
    have lt1 : ∀ b, Live s b → b < s.w.heap.size := fun b hb => (hok.lt b hb).1
    have t2 := step_set t1.ok j s.M (.pointer (some ⟨s.w.heap.size + 1, 0, none⟩)) (.lp n.n FL ps asg body .ready none) ((s.w.alloc (.deferred (some []))).alloc lo) rfl (fun _ _ h => .inl h) hjl (.inl hβj) (by simp)
      (by
        refine ⟨s.w.heap.size + 1, fn, a.tmps, s.w.heap.size, rfl, ?_, h5, fun t d hd => ?_⟩
        · have := World.alloc_heap_new (s.w.alloc (.deferred (some []))) lo
          rw [hsz] at this
          rw [hlo]; exact this
        · have hrep := h4 t d (hFL t d hd)
          refine Rep.mono' (s := s) (s' := ⟨s.β.set j (.pointer (some ⟨s.w.heap.size + 1, 0, none⟩)), s.I, s.M.set j (.lp n.n FL ps asg body .ready none), (s.w.alloc (.deferred (some []))).alloc lo⟩) (fun i h hi hne => ?_) (fun _ h => h) (fun b hb => ?_) hrep
          · show (s.β.set j _)[i]? = some h
            by_cases e : j = i
            · subst e; rw [hβj] at hi; exact absurd (Option.some.inj hi).symm hne
            · rw [List.getElem?_set_ne e]; exact hi
          · have := hok.il b hb
            exact (Below.heap_alloc _ _ _ (by simp; omega)).trans (Below.heap_alloc _ _ _ this))
      (fun b hb i k h hne g1 g2 g3 g4 => by
        cases hb
        have hlt : s.w.heap.size + 1 < s.w.heap.size := lt1 _ (live_of g1 g2 g3 g4)
        omega)
      (fun b hb => .inl (by cases hb; show (s.w.alloc _).heap.size ≤ _; rw [hsz]; exact Nat.le_refl _)) (fun b hb => by cases hb; simp) (fun _ => False) (fun _ h => h.elim)
      (fun b hb _ _ => Below.heap_alloc _ _ _ hb) rfl rfl rfl (by simp)
    have t12 := t1.trans t2
    obtain ⟨s1, hs1⟩ : ∃ s1 : St, s1 = ⟨s.β.set j (.pointer (some ⟨s.w.heap.size + 1, 0, none⟩)), s.I, s.M.set j (.lp n.n FL ps asg body .ready none), (s.w.alloc (.deferred (some []))).alloc lo⟩ := ⟨_, rfl⟩
    have e12 : Tr s s1 := by rw [hs1]; exact t12
    have hM1' : s1.M = M1 := by rw [hs1]; exact hM1
    have hβ1 : s1.β[j]? = some (.pointer (some ⟨s.w.heap.size + 1, 0, none⟩)) := by rw [hs1]; exact List.getElem?_set_self (by rw [hok.len]; exact hjl)
    subst hM1'
    have hn' : (σ ++ ν).Nodup := of_decide_eq_true hn
    have hargs : Reps s1 (first ++ [.yld j] ++ caps) (vs ++ [Value.func (.yield (s.w.heap.size + 1)) #[] #[]] ++ us) :=
      reps_app (reps_app ⟨hl1, fun j d v hj hv => (hr1 j d v hj hv).mono hok e12⟩ (reps_one (.yld hβ1))) ⟨hl2, fun j d v hj hv => (hr2 j d v hj hv).mono hok e12⟩
    have hreps := reps_vw (Min := Min) e12.ok hargs hc
    have hcall := hf.2 (vst s1 σ (fun i => V.contains i) Min) _ (ok_vst e12.ok hMin (List.nodup_append.1 hn').1) rfl hreps
    have hw1 : (vst s1 σ (fun i => V.contains i) Min).w = (s.w.alloc (.deferred (some []))).alloc lo := by rw [hs1]; rfl
    rw [hw1] at hcall
    refine ⟨s.w.heap.size + 1, [{ target := .collected s.w.heap.size, args := #[] }], (s.w.alloc (.deferred (some []))).alloc lo, { target := .fn (.func f) us.toArray, args := vs.toArray ++ #[Value.func (.yield (s.w.heap.size + 1)) #[] #[]] },
      (s.w.alloc (.deferred (some []))).alloc lo, f, (vs ++ [Value.func (.yield (s.w.heap.size + 1)) #[] #[]] ++ us).toArray, (s.w.alloc (.deferred (some []))).alloc lo, ?_, ?_, fun _ _ => trivial, ?_, (fun h => by cases h), ?_⟩
    · rw [← hlo]; exact run_enterLoop_outer fn a.tmps ps asg body
    · simp only [rangeCall, resolve, hvx, Deferred.ofValue]
      simp [Sem.run_pure, Act.eval]
    · have := run_callFunc hf.1 (vs ++ [Value.func (.yield (s.w.heap.size + 1)) #[] #[]] ++ us).toArray ((s.w.alloc (.deferred (some []))).alloc lo)
      simpa [invoke] using this
    refine callsIn_wd (ρ := none) (hcall.mono ?_)
    rintro e w3 ⟨s2, rfl, ht2, (⟨d, v, rfl, hrd, rfl, hMo⟩ | ⟨_, _, _, _, hno⟩)⟩
    · have hν' : ∀ i ∈ ν, s1.M[i]? = some .hole := fun i hi => by
        have h1 := List.all_eq_true.1 hν i hi
        split at h1
        · rename_i h2; exact h2
        · cases h1
      have hfl' : (∃ i, V.contains i = true) → Mout.all (·.fl) = true := by
        rintro ⟨i, hi⟩
        cases V with
        | nil => simp at hi
        | cons y V => simpa using hfl
      obtain ⟨q1, _⟩ := call_back (M3 := upd s1.M wr) e12.ok hMin hlive hn' hν' ht2 hMo hwr rfl hfl'
      obtain ⟨s3, hs3⟩ : ∃ s3 : St, s3 = back s1 s2 σ (fun i => V.contains i) ν (upd s1.M wr) := ⟨_, rfl⟩
      rw [← hs3] at q1
      have hM3 : s3.M = M2 := by rw [hs3]; exact hM2
      have hw3 : s3.w = s2.w := by rw [hs3]; rfl
      have hβ3 := q1.hnd.1 j _ hβ1 (by simp) (by simp)
      have hj3 : s3.M[j]? = some (.lp n.n FL ps asg body st pe) := by rw [hM3]; exact hj2
      obtain ⟨l3, fn3, tmps3, Df3, k1, k2, k3, k4⟩ := q1.ok.blk j _ _ hj3 hβ3
      cases k1
      have hend := run_endLoop (P := P) k2 hst
      have hlv : Live s3 (s.w.heap.size + 1) := ⟨j, _, _, hj3, rfl, hβ3, rfl⟩
      have hset : s3.β.set j (.pointer (some ⟨s.w.heap.size + 1, 0, none⟩)) = s3.β := by
        apply List.ext_getElem?
        intro i
        by_cases e : j = i
        · subst e; rw [List.getElem?_set_self (List.getElem?_eq_some_iff.1 hβ3).1, hβ3]
        · rw [List.getElem?_set_ne e]
      have t4 := step_set q1.ok j s3.M (.pointer (some ⟨s.w.heap.size + 1, 0, none⟩)) .gone (s3.w.putObj (s.w.heap.size + 1) (.loop { state := .exhausted, pending := pe, fn := fn3, tmps := tmps3, params := ps, assign := asg, body := body, defers := Df3 })) rfl (fun _ _ h => .inl h)
        (List.getElem?_eq_some_iff.1 hj3).1 (.inr (.inl hβ3)) (by simp) trivial (fun b hb i k h hne g1 g2 g3 g4 => by have := q1.ok.inj j i _ k _ h b hj3 rfl hβ3 hb g1 g2 g3 g4; exact hne this.symm)
        (fun b hb => .inr (by cases hb; exact hlv)) (fun b hb => by cases hb; simpa using (Array.getElem?_eq_some_iff.1 k2).1) (fun _ => False) (fun _ h => h.elim) (fun b _ hb _ => World.putObj_heap_other fun e => hb (by rw [e]; rfl)) rfl rfl rfl (by simp)
      rw [hset] at t4
      have tall := (e12.trans q1).trans t4
      rw [hw3] at hend
      refine ⟨pe, _, hend, ?_⟩
      have hm3 : s3.M.set j .gone = M2.set j .gone := by rw [hM3]
      -- the mark
      have hmarkT := q1.trans t4
      have hB1 : s1.w.heap[s.w.heap.size]? = some (.deferred (some [])) := by
        rw [hs1]
        exact (Below.heap_alloc _ _ _ (by simp)).trans (World.alloc_heap_new s.w _)
      have hBI : ¬ s1.I s.w.heap.size := fun h => by
        have : s.I s.w.heap.size := by rw [hs1] at h; exact h
        have := hok.il _ this
        omega
      have hBL : ¬ Live s1 s.w.heap.size := by
        rintro ⟨i, k, h, g1, g2, g3, g4⟩
        by_cases e : i = j
        · subst e
          rw [hβ1] at g3
          cases g3
          replace g4 := owns_hb (b := s.w.heap.size + 1) rfl g4; simp [hb] at g4
        · rw [hs1] at g1 g3
          rw [List.getElem?_set_ne (Ne.symm e)] at g1 g3
          have := lt1 _ (live_of g1 g2 g3 g4)
          omega
      have hne : ∀ {U ds}, DfOk s0 s n.mks U ds → ∀ d ∈ ds, d.target ≠ .collected s.w.heap.size := by
        intro U ds h
        induction h with
        | nil => intro d hd; cases hd
        | mark _ h _ _ _ _ _ ih =>
          intro d hd
          rcases List.mem_cons.1 hd with rfl | hd
          · intro e
            have := (Array.getElem?_eq_some_iff.1 h).1
            cases e
            omega
          · exact ih d hd
        | fn _ _ ih =>
          intro d hd
          rcases List.mem_cons.1 hd with rfl | hd
          · intro e; cases e
          · exact ih d hd
      have hdf : DfOk s0 s1 n.mks n.U ({ target := .collected s.w.heap.size, args := #[] } :: a.defers) := .mark hmk hB1 hBI hBL h3.size (hne h6) (h6.mono hok e12)
      have hinv : Inv s0 n F (M2.set j .gone) { a with defers := [{ target := .collected s.w.heap.size, args := #[] }] ++ a.defers } (s2.w.putObj (s.w.heap.size + 1) (.loop { state := .exhausted, pending := pe, fn := fn3, tmps := tmps3, params := ps, assign := asg, body := body, defers := Df3 })) :=
        ⟨h0, _, hm3, by rw [hw3], h3.trans tall, fun t d hd => (h4 t d hd).mono hok tall, h5, hdf.mono e12.ok hmarkT⟩
      cases pe with
      | none => exact ⟨F, _, hinv, hk0 rfl⟩
      | some c =>
        have := hk1 c rfl _ _ hinv
        rw [hρ] at this
        exact this
    · exact hno.elim
end
end
end Go.Proofs.Ytgomklemldldiaa
