/- Functions that are deferred: a body up to there; closures that recover; results in cells. No condition. -/
import Derived.Test.YtgomklemldldiaaLl
import Derived.Recover
namespace Go.Proofs.Ytgomklemldldiaa
set_option linter.unusedVariables false
set_option linter.unusedSimpArgs false
open Go.RowKit

theorem uponIn_mono {G : Fence} {k : Nat} {P : Program} {o : Oper} {a : Act} {K K' : Act → World → Prop} {Q Q' : Exit → Act → World → Prop} (hK : ∀ a w, K a w → K' a w) (hQ : ∀ ch a w, Q (.panic ch) a w → Q' (.panic ch) a w) (hO : LetsOut Q → LetsOut Q') :
    ∀ r, o.uponIn G k P a K Q r → o.uponIn G k P a K' Q' r := by
  intro r h
  cases r with
  | halt x w =>
    cases x with
    | panic v => exact hQ _ _ _ h
    | _ => exact h.elim
  | ok x w =>
    cases x with
    | value v => exact hK _ _ h
    | skip => exact hK _ _ h
    | defer d => exact hK _ _ h
    | enter f args => exact ⟨h.1, h.2.mono (fun e w h => by cases e with | returned v => exact hK _ _ h | panicked ch => exact hQ _ _ _ h | outgrown => exact hO h)⟩
    | row row args => exact ⟨h.1, h.2.mono fun v w => hK _ _⟩
    | round l f tmps asg body => exact ⟨h.1, h.2.mono (fun e w h => by cases e with | returned v => exact hK _ _ h | panicked ch => exact hQ _ _ _ h | outgrown => exact hO h)⟩
    | _ => exact h.elim
theorem wpListIn_app {G : Fence} {k : Nat} {P : Program} {ops : Array Oper} {Q Q' : Exit → Act → World → Prop} {l2 : List Oper} (hn : ∀ a w, Q' .normal a w → wpListIn G k P ops Q l2 a w) (hp : ∀ ch a w, Q' (.panic ch) a w → Q (.panic ch) a w) (hO : ∀ a w, ¬ Q' .outgrown a w) :
    ∀ (l1 : List Oper) (a : Act) (w : World), wpListIn G k P ops Q' l1 a w → wpListIn G k P ops Q (l1 ++ l2) a w
  | [], a, w, h => hn a w h
  | o :: l1, a, w, h => by
    unfold wpListIn at h
    show if Region.wanted o (yielded ops a.tmps) then _ else _
    split at h
    · rename_i hw
      rw [if_pos hw]
      exact ⟨h.1, uponIn_mono (fun a w => wpListIn_app hn hp hO l1 a w) (fun ch a w h => hp ch a w h) (fun ⟨a, w, h⟩ => (hO a w h).elim) _ h.2⟩
    · rename_i hw
      rw [if_neg hw]
      exact ⟨h.1, wpListIn_app hn hp hO l1 _ _ h.2⟩

theorem run_defer {P : Program} {o : Oper} {a : Act} {x : Operand} {g : FuncId} {v1 v2 : Array Value} {w : World} (ho : o.op = .defer { callee := .value x, args := #[], argTypes := #[] }) (hx : a.eval x = .func (.func g) v1 v2) :
    (o.semAt none a.eval).run P w = .ok (.defer { target := .fn (.func g) v2, args := v1 }) w := by
  rw [Oper.semAt_none]
  unfold execOp
  simp only [ho, resolve, hx, Deferred.ofValue]
  simp [pure, bind, Sem.bind, Sem.run]

section
variable {P : Program} {s0 : St} {n : Cx}

/-- up to a function that is deferred -/
theorem dbody_defer {fn : Func} {id : Nat} {l l0 : List Oper} {o : Oper} {y : Code} {x : Operand} {F : Fr} {M : List Blk} {m : Nat} {post pan : D → List Blk → Prop} (hl : l = l0 ++ [o]) (ho : o.op = .defer { callee := .value x, args := #[], argTypes := #[] }) (hg : o.guard = none) (hdst : o.dst = none) (hr : n.r = none) (hle : s0.M.length ≤ m)
    (h : Walk P s0 n l.toArray l0 F M (Kseq (fun F1 M1 => ∃ f first caps k', Ev true F1 x (.fn (.func f) first caps) ∧ s0.M.length ≤ k' ∧ D.ltL k' (.fn (.func f) first caps :: n.U) = true ∧ dbody P s0 ⟨n.n, none, k', .fn (.func f) first caps :: n.U, n.mks⟩ fn m post pan y F1 M1) (Kret P fn m n.U post pan))) :
    dbody P s0 n fn m post pan (.seq (.region id l.toArray false) y) F M := by
  intro a w hi
  have h1 := h a w hi
  have hρ : n.ρ s0 = none := by unfold Cx.ρ; rw [hr]
  rw [hρ] at h1
  refine wpIn_seq (wpIn_region_lit ?_)
  have key := wpListIn_app (G := wd none) (k := 0) (P := P) (ops := l.toArray) (Q := Exit.then (fun a w => y.wpIn Fence.wide 0 P (bodyPostM Fence.wide 0 P fn (Lv s0 post pan)) a w) (bodyPostM Fence.wide 0 P fn (Lv s0 post pan))) (l2 := [o]) ?_ ?_ ?_ l0 a w h1
  · rw [← hl] at key; exact key
  · intro a w hp
    obtain ⟨F1, M1, ⟨h0, s1, q1, q2, q3, q4, q5, q6⟩, f, first, caps, k', ⟨d', e1, e2⟩, hk, hlt, hy⟩ := hp
    subst q1 q2
    have hrep := e2 s1 _ rfl (ev_rep q4 e1)
    generalize hvx : a.eval x = vx at hrep
    cases hrep with
    | @fn _ _ _ vs us hl1 hl2 hr1 hr2 =>
      show if Region.wanted o (yielded l.toArray a.tmps) then _ else _
      have hw : Region.wanted o (yielded l.toArray a.tmps) = true := by unfold Region.wanted; rw [hg]
      rw [if_pos hw]
      refine ⟨fun _ _ => trivial, ?_⟩
      rw [show (wd none).round = none from rfl, run_defer ho hvx]
      rw [Oper.uponIn_defer, hdst]
      exact hy _ _ ⟨h0, s1, rfl, rfl, q3, q4, q5, .fn (.fn hl1 hl2 hr1 hr2) q6⟩
  · intro ch a w hp
    obtain ⟨F, M, d, ⟨h0, s1, v, q1, q2, q3, q4, q5, q6, q7, q8⟩, hk⟩ := hp
    subst q1 q2 q7
    exact leaves h0 hle a _ _ (some d) _ _ _ q6 q3 q4 ⟨v, rfl, q8⟩ hk
  · intro a w hp
    exact hp
end

theorem run_recover {P : Program} {o : Oper} {a : Act} {w : World} (ho : o.op = .call { callee := .builtin .recover, args := #[], argTypes := #[] }) : (execOp a.eval o).run P w = .ok .recover w := by
  unfold execOp
  simp only [ho, resolve]
  simp [go_sem, invoke, builtin]

/-- what recover hands back to a function that was deferred, and the mode that it leaves -/
def recV (u : FrameMode) : Value × FrameMode :=
  match u with
  | .panicking ({ v, recovered := false, goexit := false } :: older) => (v, .panicking ({ v, recovered := true } :: older))
  | _ => (.nilIface, u)

theorem recD (c0 : Frame) (cs : List Frame) : (recoverD (c0 :: cs) = none ∧ (recV c0.mode).1 = .nilIface ∧ (recV c0.mode).2 = c0.mode) ∨ recoverD (c0 :: cs) = some ((recV c0.mode).1, { c0 with mode := (recV c0.mode).2 } :: cs) := by
  unfold recoverD
  cases hm : c0.mode with
  | run => exact .inl ⟨by simp [hm], rfl, rfl⟩
  | returning => exact .inl ⟨by simp [hm], rfl, rfl⟩
  | panicking chain =>
    cases chain with
    | nil => exact .inl ⟨by simp [hm], rfl, rfl⟩
    | cons e older =>
      obtain ⟨v, r, g⟩ := e
      cases r with
      | true => exact .inl ⟨by simp [hm], rfl, rfl⟩
      | false =>
        cases g with
        | true => exact .inl ⟨by simp [hm], rfl, rfl⟩
        | false => exact .inr (by simp [hm, recV])
theorem step_rec {P : Program} {b : Frame} {a : Act} {k : List Item} {c0 : Frame} {cs : List Frame} {w : World} {ops : Array Oper} {i : Nat} {rest : List Nat} {o : Oper} (hk : b.kind = .deferred) (hro : b.roundOf = none) (hi : ops[i]? = some o) (hg : o.guard = none)
    (ho : o.op = .call { callee := .builtin .recover, args := #[], argTypes := #[] }) :
    step P (lone (b.atR a (.inRegion ops (i :: rest) :: k)) (c0 :: cs) w) = .next (lone (b.atR (a.put o.dst (recV c0.mode).1) (.inRegion ops rest :: k)) ({ c0 with mode := (recV c0.mode).2 } :: cs) w) := by
  have hw : Region.wanted o (yielded ops a.tmps) = true := by unfold Region.wanted; rw [hg]
  have hfin : ∀ v, (b.atR a (.inRegion ops (i :: rest) :: k)).finish v = b.atR (a.put o.dst v) (.inRegion ops rest :: k) := by
    intro v; rw [Frame.finish_atR, hi]; rfl
  have hgr := stepGR_op (P := P) (b := b) (a := a) (k := k) (cs := c0 :: cs) (w := w) (rest := rest) hi hw
  rw [hro, Oper.semAt_none] at hgr
  have hr := run_recover (P := P) (a := a) (w := w) ho
  refine step_lone_go ?_
  rw [hgr, ← hfin]
  have htr := tryRecover_deferred (fr := b.atR a (.inRegion ops (i :: rest) :: k)) hk (c0 :: cs)
  simp only [Frame.atR, hro] at htr ⊢
  rcases recD c0 cs with ⟨hrec, h1, h2⟩ | hrec
  · rw [h1, h2]
    simp [stepG.apply, hr, htr, hrec]
  · generalize recV c0.mode = x at hrec
    simp [stepG.apply, hr, htr, hrec]

section
variable {P : Program}
/-- what recover hands back, as data -/
def recD' : Option D → D
  | none => .val .nilIface
  | some d => d
theorem recV_mode {s : St} {pn : Option D} {u : FrameMode} (h : ModeOk s pn u) : Rep s (recD' pn) (recV u).1 ∧ settle (recV u).2 = .returning := by
  cases pn with
  | none => obtain rfl : u = .returning := h; exact ⟨.val _, rfl⟩
  | some d => obtain ⟨v, rfl, hr⟩ := h; exact ⟨hr, rfl⟩

theorem range_cons {o : Oper} {l : List Oper} : List.range (o :: l).toArray.size = 0 :: List.range' 1 l.length := by simp [List.range_eq_range', List.range'_succ]
theorem ddef_fin {f : FuncId} {fn : Func} {N m : Nat} {s : St} {dr : D} {Mout : List Blk} {b : Frame} {m0 : Machine} {c0 : Frame} {cs : List Frame} {e : Exit} {a : Act} {w : World} (hok : Ok s) (hle : s.M.length ≤ m) (hf : P.funcs[f]? = some fn) (hbf : b.fn = f) (hbk : b.kind = .deferred) (hro : b.roundOf = none)
    (hset : settle (recV c0.mode).2 = .returning) (hq : PostK s ⟨N, none, m, [], false⟩ (Kret P fn m [] (fun d M => d = dr ∧ M = Mout) (fun _ _ => False)) e a w)
    (harr : ArrivesIn (Machine.fenced P Fence.wide) P m0 b [] ({ c0 with mode := (recV c0.mode).2 } :: cs) e a w) :
    ∃ e u' w' fr, (∃ s' v, e = .returned v ∧ s'.w = w' ∧ Tr s s' ∧ s'.M = Mout ∧ ModeOk s' none (settle u')) ∧
      ComesIn (Machine.fenced P Fence.wide) P m0 (lone fr ({ c0 with mode := u' } :: cs) w') e ∧ fr.kind = .deferred ∧ fr.fn = f ∧ fr.going P w' e := by
  have no_marks : ∀ {s1 : St} {ds : List Deferred}, DfOk s s1 false [] ds → ds = [] := fun h => by
    cases h with
    | nil => rfl
    | mark hmk => cases hmk
  have fin : (e = .normal ∨ e = .ret) → (∃ F M, Inv s ⟨N, none, m, [], false⟩ F M a w ∧ DEnd P fn m (fun d M => d = dr ∧ M = Mout) (fun _ _ => False) [] none F M) → a.defers = [] ∧ ∃ v s', (results fn a.tmps).run P w = .ok v w ∧ s'.w = w ∧ Tr s s' ∧ s'.M = Mout := by
    rintro _ ⟨F, M, ⟨h0, s1, rfl, rfl, q3, q4, q5, q6⟩, hk⟩
    cases hk with
    | @ret _ _ Mo _ _ σ hr hσ hv hM hp =>
      obtain ⟨v, h1, h2⟩ := hr s1 a q3.ok rfl q4
      obtain ⟨rfl, rfl⟩ := hp
      exact ⟨no_marks q6, v, vst s1 σ allv Mo, h1, rfl, tr_vst hok q3 (mfits _ _ hM) hle hσ, rfl⟩
  cases e with
  | normal =>
    obtain ⟨hd, v, s', h1, h2, h3, h4⟩ := fin (.inl rfl) hq
    refine ⟨.returned v, (recV c0.mode).2, w, { b.atR a [] with mode := .returning }, ⟨s', v, rfl, h2, h3, h4, hset⟩, StepsIn.trans harr (.one (fenced_wide _ _) (stepR_end hro)), hbk, hbf, rfl, hd, fn, ?_, h1⟩
    show P.funcs[b.fn]? = some fn
    rw [hbf]; exact hf
  | ret =>
    obtain ⟨hd, v, s', h1, h2, h3, h4⟩ := fin (.inr rfl) hq
    obtain ⟨todo, hs⟩ := harr.1 hro
    refine ⟨.returned v, (recV c0.mode).2, w, { b.atR a todo with mode := .returning }, ⟨s', v, rfl, h2, h3, h4, hset⟩, hs, hbk, hbf, rfl, hd, fn, ?_, h1⟩
    show P.funcs[b.fn]? = some fn
    rw [hbf]; exact hf
  | panic ch => obtain ⟨F, M, d, _, hk⟩ := hq; cases hk with | pan _ _ _ hp => exact hp.elim
  | exit id => obtain ⟨_, _, _, hk⟩ := hq; exact hk.elim
  | goto l => obtain ⟨_, _, _, hk⟩ := hq; exact hk.elim
  | outgrown => exact hq.elim

/-- a function that is deferred, and recovers as its first deed -/
theorem ddef_set {fn : Func} {o : Oper} {l : List Oper} {args : List D} {Min : List Blk} {pn : Option D} {N t m : Nat} {s : St} {vs : List Value} {c0 : Frame} {K : Cont} (hn : fn.ntmps = N) (hle : Nat.ble args.length N = true) (hm : Min.length = m)
    (hd : o.dst = some t) (ht : Nat.blt t N = true) (hok : Ok s) (hM : s.M = Min) (hr : Reps s args vs) (hmode : ModeOk s pn c0.mode)
    (h : Walk P s ⟨N, none, m, [], false⟩ (o :: l).toArray l ((t, recD' pn) :: fr0 0 args) Min K) :
    wpOpsIn (wd none) 0 P (o :: l).toArray (PostK s ⟨N, none, m, [], false⟩ K) (List.range' 1 l.length) (Act.put { tmps := vs.toArray ++ Array.replicate (fn.ntmps - vs.toArray.size) undef, defers := [] } o.dst (recV c0.mode).1) s.w := by
  subst hm
  obtain ⟨hl, hr⟩ := hr
  have hle := Nat.le_of_ble_eq_true hle
  generalize ha : ({ tmps := vs.toArray ++ Array.replicate (fn.ntmps - vs.toArray.size) undef, defers := [] } : Act) = a0
  have hsize : a0.tmps.size = N := by subst ha; simp; omega
  have hslot : ∀ t d, lk (fr0 0 args) t = some d → Rep s d (slot a0 t) := by
    intro t d hd
    obtain ⟨_, h2⟩ := fr0_lk args 0 t d hd
    simp only [Nat.sub_zero] at h2
    have hlt : t < args.length := (List.getElem?_eq_some_iff.1 h2).1
    have hv : vs[t]? = some vs[t] := List.getElem?_eq_getElem (by omega)
    have : slot a0 t = vs[t] := by
      subst ha
      unfold slot
      simp only [Array.getD_eq_getD_getElem?]
      rw [Array.getElem?_append_left (by simp; omega)]
      simp [show t < vs.length by omega]
    rw [this]
    exact hr t d _ h2 hv
  obtain ⟨hrec, hset⟩ := recV_mode hmode
  have hsetup : Inv s ⟨N, none, Min.length, [], false⟩ ((t, recD' pn) :: fr0 0 args) Min (a0.put o.dst (recV c0.mode).1) s.w := by
    refine ⟨hok, s, hM, rfl, Tr.refl hok, ?_, by rw [put_size]; exact hsize, ?_⟩
    · rw [hd]
      exact FOk.put (s := s) (F := fr0 0 args) hslot (by rw [hsize]; exact Nat.blt_eq.mp ht) hrec
    · rw [put_def, ← ha]; exact .nil
  have hw := h _ _ hsetup
  rw [wpOpsIn_eq_wpListIn l 1 (by intro j; simp [Nat.add_comm 1 j])]
  exact hw

theorem ddef_go1 {f : FuncId} {fn : Func} {id : Nat} {o : Oper} {l : List Oper} {args : List D} {F0 : Fr} {Min Mout : List Blk} {pn : Option D} {dr : D} {N t : Nat} (m : Nat) (hcb : callB P f = true) (hf : P.funcs[f]? = some fn)
    (hc : fn.body = some (.region id (o :: l).toArray false)) (hn : fn.ntmps = N) (hle : Nat.ble args.length N = true) (hF : fr0 0 args = F0) (hm : Min.length = m)
    (ho : o.op = .call { callee := .builtin .recover, args := #[], argTypes := #[] }) (hg : o.guard = none) (hd : o.dst = some t) (ht : Nat.blt t N = true)
    (h : ∀ s0 : St, s0.M.length ≤ m → Walk P s0 ⟨N, none, m, [], false⟩ (o :: l).toArray l ((t, recD' pn) :: F0) Min (Kret P fn m [] (fun d M => d = dr ∧ M = Mout) (fun _ _ => False))) :
    DDef P f args Min pn none Mout := by
  subst hF
  refine ⟨hcb, fun s vs u hok hM hr hmode => ⟨trivial, fun c0 cs hu hroom => ?_⟩⟩
  subst hu
  have hlen : s.M.length ≤ m := by rw [hM, hm]; exact Nat.le_refl _
  have hops := ddef_set hn hle hm hd ht hok hM hr hmode (h s hlen)
  let b : Frame := { (default : Frame) with fn := f, kind := .deferred, roundOf := none }
  have henter : Frame.enter P f vs.toArray .deferred = b.atR { tmps := vs.toArray ++ Array.replicate (fn.ntmps - vs.toArray.size) undef, defers := [] } [.code (.region id (o :: l).toArray false)] := by
    simp [Frame.enter, Frame.atR, hf, hc, b]
  obtain ⟨e, a', w', hq, harr⟩ := wp_opsIn _ _ _ hops b [] ({ c0 with mode := (recV c0.mode).2 } :: cs) rfl trivial (wd_room _ _)
  rw [henter]
  refine ddef_fin (P := P) (b := b) hok hlen hf rfl rfl rfl (recV_mode hmode).2 hq (ArrivesIn.of_steps (.head (fenced_wide _ _) stepR_region (.one (fenced_wide _ _) ?_)) harr)
  have := step_rec (P := P) (b := b) (a := { tmps := vs.toArray ++ Array.replicate (fn.ntmps - vs.toArray.size) undef, defers := [] }) (k := []) (c0 := c0) (cs := cs) (w := s.w) (ops := (o :: l).toArray) (i := 0) (rest := List.range' 1 l.length) (o := o) rfl rfl rfl hg ho
  rw [range_cons]
  exact this
theorem ddef_go {f : FuncId} {fn : Func} {id : Nat} {o : Oper} {l : List Oper} {y : Code} {args : List D} {F0 : Fr} {Min Mout : List Blk} {pn : Option D} {dr : D} {N t : Nat} (m : Nat) (hcb : callB P f = true) (hf : P.funcs[f]? = some fn)
    (hc : fn.body = some (.seq (.region id (o :: l).toArray false) y)) (hn : fn.ntmps = N) (hle : Nat.ble args.length N = true) (hF : fr0 0 args = F0) (hm : Min.length = m)
    (ho : o.op = .call { callee := .builtin .recover, args := #[], argTypes := #[] }) (hg : o.guard = none) (hd : o.dst = some t) (ht : Nat.blt t N = true)
    (h : ∀ s0 : St, s0.M.length ≤ m → Walk P s0 ⟨N, none, m, [], false⟩ (o :: l).toArray l ((t, recD' pn) :: F0) Min (Kseq (fun F M => dwp P s0 ⟨N, none, m, [], false⟩ y F M (Kret P fn m [] (fun d M => d = dr ∧ M = Mout) (fun _ _ => False))) (Kret P fn m [] (fun d M => d = dr ∧ M = Mout) (fun _ _ => False)))) :
    DDef P f args Min pn none Mout := by
  subst hF
  refine ⟨hcb, fun s vs u hok hM hr hmode => ⟨trivial, fun c0 cs hu hroom => ?_⟩⟩
  subst hu
  have hlen : s.M.length ≤ m := by rw [hM, hm]; exact Nat.le_refl _
  have hops := ddef_set hn hle hm hd ht hok hM hr hmode (h s hlen)
  let b : Frame := { (default : Frame) with fn := f, kind := .deferred, roundOf := none }
  have henter : Frame.enter P f vs.toArray .deferred = b.atR { tmps := vs.toArray ++ Array.replicate (fn.ntmps - vs.toArray.size) undef, defers := [] } [.code (.seq (.region id (o :: l).toArray false) y)] := by
    simp [Frame.enter, Frame.atR, hf, hc, b]
  obtain ⟨e, a', w', hq, harr⟩ := wp_opsIn _ _ _ hops b [.code y] ({ c0 with mode := (recV c0.mode).2 } :: cs) rfl trivial (wd_room _ _)
  rw [henter]
  have pre : StepsIn (Machine.fenced P Fence.wide) P (lone (b.atR { tmps := vs.toArray ++ Array.replicate (fn.ntmps - vs.toArray.size) undef, defers := [] } [.code (.seq (.region id (o :: l).toArray false) y)]) (c0 :: cs) s.w)
      (lone (b.atR (Act.put { tmps := vs.toArray ++ Array.replicate (fn.ntmps - vs.toArray.size) undef, defers := [] } o.dst (recV c0.mode).1) (.inRegion (o :: l).toArray (List.range' 1 l.length) :: [.code y])) ({ c0 with mode := (recV c0.mode).2 } :: cs) s.w) := by
    refine .head (fenced_wide _ _) stepR_seq (.head (fenced_wide _ _) stepR_region (.one (fenced_wide _ _) ?_))
    have := step_rec (P := P) (b := b) (a := { tmps := vs.toArray ++ Array.replicate (fn.ntmps - vs.toArray.size) undef, defers := [] }) (k := [.code y]) (c0 := c0) (cs := cs) (w := s.w) (ops := (o :: l).toArray) (i := 0) (rest := List.range' 1 l.length) (o := o) rfl rfl rfl hg ho
    rw [range_cons]
    exact this
  have other : ∀ e : Exit, e ≠ .normal → PostK s ⟨N, none, m, [], false⟩ (Kseq (fun F M => dwp P s ⟨N, none, m, [], false⟩ y F M (Kret P fn m [] (fun d M => d = dr ∧ M = Mout) (fun _ _ => False))) (Kret P fn m [] (fun d M => d = dr ∧ M = Mout) (fun _ _ => False))) e a' w' →
      PostK s ⟨N, none, m, [], false⟩ (Kret P fn m [] (fun d M => d = dr ∧ M = Mout) (fun _ _ => False)) e a' w' := by
    intro e he hq
    cases e with
    | normal => exact absurd rfl he
    | exit id => exact hq
    | goto l => exact hq
    | ret => exact hq
    | panic ch => exact hq
    | outgrown => exact hq
  by_cases he : e = .normal
  · subst he
    obtain ⟨F, M, hi, hk⟩ := hq
    obtain ⟨e2, a2, w2, hq2, harr2⟩ := hk a' w' hi b [] ({ c0 with mode := (recV c0.mode).2 } :: cs) rfl trivial (wd_room _ _)
    exact ddef_fin (P := P) (b := b) hok hlen hf rfl rfl rfl (recV_mode hmode).2 hq2 (ArrivesIn.of_steps (StepsIn.trans pre harr) harr2)
  · exact ddef_fin (P := P) (b := b) hok hlen hf rfl rfl rfl (recV_mode hmode).2 (other e he hq) (ArrivesIn.of_steps pre (.pass (x := .code y) rfl (fun _ _ => .inl he) harr))

theorem fn_pre {s : St} {σ : List Nat} {V : Nat → Bool} {Min : List Blk} {f : Fn} {d1 d2 cargs : List D} {vs us : List Value} (hok : Ok s) (hr : Rep s (.fn f d1 d2) (.func f vs.toArray us.toArray)) (hc : vwL σ V s.M (d1 ++ d2) = some cargs) : Reps (vst s σ V Min) cargs (vs ++ us) := by
  generalize hvs : vs.toArray = va at hr
  generalize hus : us.toArray = ua at hr
  cases hr with
  | @fn _ _ _ vs' us' hl1 hl2 hr1 hr2 =>
    have e1 : vs' = vs := by simpa using congrArg Array.toList hvs.symm
    have e2 : us' = us := by simpa using congrArg Array.toList hus.symm
    subst e1 e2
    have hall : Reps s (d1 ++ d2) (vs' ++ us') := by
      refine ⟨by simp [hl1, hl2], fun j e v hj hv => ?_⟩
      by_cases h1 : j < d1.length
      · rw [List.getElem?_append_left h1] at hj
        rw [List.getElem?_append_left (by omega)] at hv
        exact hr1 j e v hj hv
      · rw [List.getElem?_append_right (by omega)] at hj
        rw [List.getElem?_append_right (by omega), hl1] at hv
        exact hr2 _ e v hj hv
    obtain ⟨g1, g2⟩ := vwL_spec _ _ hc
    refine ⟨by rw [hall.1, g1], fun j e v hj hv => ?_⟩
    obtain ⟨y, hy, hy2⟩ := g2 j e hj
    exact vw_rep hok (hall.2 j y v hy hv) e hy2

/-- the turn of a function that was deferred, where its closure stands -/
theorem dturn_idle {f : FuncId} {first caps cargs : List D} {M Min Mout M' : List Blk} {wr : List (Nat × Blk)} (σ ν : List Nat) (hc : vwL σ nov M (first ++ caps) = some cargs) (hMin : vwMs σ nov M σ = some Min) (hf : DDef P f cargs Min none none Mout)
    (hlive : Min.all (·.live) = true) (hn : decide (σ ++ ν).Nodup = true) (hν : ν.all (fun i => match M[i]? with | some .hole => true | _ => false) = true) (hwr : wrOf (σ ++ ν) (σ ++ ν) Mout = some wr) (hM' : upd M wr = M') : DTurn P f first caps none M none M' := by
  subst hM'
  refine ⟨hf.1, fun s vs us u hok hM hrep hmode => ?_⟩
  subst hM
  have hn' : (σ ++ ν).Nodup := of_decide_eq_true hn
  have hcr : Reps (vst s σ nov Min) cargs (vs ++ us) := by
    exact fn_pre hok hrep hc
  refine CallsDIn.mono (hf.2 (vst s σ nov Min) (vs ++ us) u (ok_vst hok hMin (List.nodup_append.1 hn').1) rfl hcr hmode) ?_
  rintro e u' w' ⟨s2, v, rfl, rfl, ht, hM2, hm⟩
  have hν' : ∀ i ∈ ν, s.M[i]? = some .hole := fun i hi => by
    have h1 := List.all_eq_true.1 hν i hi
    split at h1
    · rename_i h2; exact h2
    · cases h1
  obtain ⟨q1, _⟩ := call_back (M3 := upd s.M wr) hok hMin hlive hn' hν' ht hM2 hwr rfl fun ⟨i, h⟩ => by cases h
  exact ⟨back s s2 σ nov ν (upd s.M wr), v, rfl, rfl, q1, rfl, hm⟩
theorem dturn_caught {f : FuncId} {first caps cargs : List D} {M Min Mout M' : List Blk} {wr : List (Nat × Blk)} {d d0 : D} (σ ν : List Nat) (hc : vwL σ nov M (first ++ caps) = some cargs) (hMin : vwMs σ nov M σ = some Min) (hd : vw σ nov M d = some d0) (hf : DDef P f cargs Min (some d0) none Mout)
    (hlive : Min.all (·.live) = true) (hn : decide (σ ++ ν).Nodup = true) (hν : ν.all (fun i => match M[i]? with | some .hole => true | _ => false) = true) (hwr : wrOf (σ ++ ν) (σ ++ ν) Mout = some wr) (hM' : upd M wr = M') : DTurn P f first caps (some d) M none M' := by
  subst hM'
  refine ⟨hf.1, fun s vs us u hok hM hrep hmode => ?_⟩
  subst hM
  have hn' : (σ ++ ν).Nodup := of_decide_eq_true hn
  have hcr : Reps (vst s σ nov Min) cargs (vs ++ us) := by
    exact fn_pre hok hrep hc
  obtain ⟨v, rfl, hv⟩ := hmode
  refine CallsDIn.mono (hf.2 (vst s σ nov Min) (vs ++ us) _ (ok_vst hok hMin (List.nodup_append.1 hn').1) rfl hcr ⟨v, rfl, vw_rep hok hv d0 hd⟩) ?_
  rintro e u' w' ⟨s2, v', rfl, rfl, ht, hM2, hm⟩
  have hν' : ∀ i ∈ ν, s.M[i]? = some .hole := fun i hi => by
    have h1 := List.all_eq_true.1 hν i hi
    split at h1
    · rename_i h2; exact h2
    · cases h1
  obtain ⟨q1, _⟩ := call_back (M3 := upd s.M wr) hok hMin hlive hn' hν' ht hM2 hwr rfl fun ⟨i, h⟩ => by cases h
  exact ⟨back s s2 σ nov ν (upd s.M wr), v', rfl, rfl, q1, rfl, hm⟩

/-! ### results, in slots and in cells -/
def rv (tmps : Array Value) : ResultVar → Sem Value
  | .tmp t => pure (tmps.getD t undef)
  | .cell p t => do loadVar t (← asAddr (tmps.getD p undef))
def RvD (P : Program) (r : ResultVar) (F : Fr) (M : List Blk) (d : D) : Prop := ∀ (s : St) (a : Act), Ok s → s.M = M → FOk s F a → ∃ v, (rv a.tmps r).run P s.w = .ok v s.w ∧ Rep s d v
theorem results_rv (fn : Func) (tmps : Array Value) : results fn tmps = (do let vs ← fn.results.mapM (rv tmps); pure (if h : vs.size = 1 then vs[0] else .tuple vs)) := by
  unfold results
  congr 1
section
variable {fn : Func} {F : Fr} {M : List Blk} {r1 r2 r3 r4 : ResultVar} {d1 d2 d3 d4 d : D}
theorem rs1 (h : fn.results = #[r1]) (h1 : RvD P r1 F M d1) : ResD P fn F M d1 := fun s a ho hM hF => by
  obtain ⟨v1, e1, q1⟩ := h1 s a ho hM hF
  refine ⟨v1, ?_, q1⟩
  rw [results_rv, h]; simp [Sem.run_bind, e1]
theorem rs2 (h : fn.results = #[r1, r2]) (h1 : RvD P r1 F M d1) (h2 : RvD P r2 F M d2) : ResD P fn F M (.tup [d1, d2]) := fun s a ho hM hF => by
  obtain ⟨v1, e1, q1⟩ := h1 s a ho hM hF
  obtain ⟨v2, e2, q2⟩ := h2 s a ho hM hF
  refine ⟨.tuple #[v1, v2], ?_, Rep.tup (vs := [v1, v2]) rfl fun j x y hj hy => ?_⟩
  · rw [results_rv, h]; simp [Sem.run_bind, e1, e2]
  · match j with
    | 0 => simp at hj hy; subst hj; subst hy; exact q1
    | 1 => simp at hj hy; subst hj; subst hy; exact q2
    | j + 2 => simp at hj
theorem rs3 (h : fn.results = #[r1, r2, r3]) (h1 : RvD P r1 F M d1) (h2 : RvD P r2 F M d2) (h3 : RvD P r3 F M d3) : ResD P fn F M (.tup [d1, d2, d3]) := fun s a ho hM hF => by
  obtain ⟨v1, e1, q1⟩ := h1 s a ho hM hF
  obtain ⟨v2, e2, q2⟩ := h2 s a ho hM hF
  obtain ⟨v3, e3, q3⟩ := h3 s a ho hM hF
  refine ⟨.tuple #[v1, v2, v3], ?_, Rep.tup (vs := [v1, v2, v3]) rfl fun j x y hj hy => ?_⟩
  · rw [results_rv, h]; simp [Sem.run_bind, e1, e2, e3]
  · match j with
    | 0 => simp at hj hy; subst hj; subst hy; exact q1
    | 1 => simp at hj hy; subst hj; subst hy; exact q2
    | 2 => simp at hj hy; subst hj; subst hy; exact q3
    | j + 3 => simp at hj
theorem rs4 (h : fn.results = #[r1, r2, r3, r4]) (h1 : RvD P r1 F M d1) (h2 : RvD P r2 F M d2) (h3 : RvD P r3 F M d3) (h4 : RvD P r4 F M d4) : ResD P fn F M (.tup [d1, d2, d3, d4]) := fun s a ho hM hF => by
  obtain ⟨v1, e1, q1⟩ := h1 s a ho hM hF
  obtain ⟨v2, e2, q2⟩ := h2 s a ho hM hF
  obtain ⟨v3, e3, q3⟩ := h3 s a ho hM hF
  obtain ⟨v4, e4, q4⟩ := h4 s a ho hM hF
  refine ⟨.tuple #[v1, v2, v3, v4], ?_, Rep.tup (vs := [v1, v2, v3, v4]) rfl fun j x y hj hy => ?_⟩
  · rw [results_rv, h]; simp [Sem.run_bind, e1, e2, e3, e4]
  · match j with
    | 0 => simp at hj hy; subst hj; subst hy; exact q1
    | 1 => simp at hj hy; subst hj; subst hy; exact q2
    | 2 => simp at hj hy; subst hj; subst hy; exact q3
    | 3 => simp at hj hy; subst hj; subst hy; exact q4
    | j + 4 => simp at hj
theorem rv_t {t : Tmp} (h : lk F t = some d) : RvD P (.tmp t) F M d := fun s a _ _ hF => ⟨_, rfl, hF t d h⟩
/-- a whole struct, or array -/
theorem rv_w {p : Tmp} {T T' : TypeId} {i k : Nat} {L : List Value} (hT : tyB P T = some (true, k)) (h : lk F p = some (.loc i 0)) (hM : M[i]? = some (.flat T' L)) (hl : L.length = k) : RvD P (.cell p T) F M (.val (.agg L.toArray)) := fun s a ho hMs hF => by
  subst hMs
  have hv := hF p _ h
  generalize hvx : slot a p = vx at hv
  cases hv with
  | @loc _ _ b hb =>
    obtain ⟨b', e1, e2⟩ := ho.blk i _ _ hM hb
    cases e1
    obtain ⟨dd, ii, h1, h2, h3, h4⟩ := tyB_spec hT
    refine ⟨_, ?_, .val _⟩
    have hvx' : a.tmps.getD p undef = .pointer (some ⟨b, 0, none⟩) := hvx
    simp only [rv, hvx']
    simp only [asAddr, Sem.run_bind, Sem.run_pure, Result.andThen_ok]
    exact run_loadVar_row s.w b T' T L.toArray (0, 0) dd e2 h1 (by cases dd <;> simp_all [TypeDesc.isRow]) (by simp [h2, h4, hl])
/-- one cell -/
theorem rv_1 {p : Tmp} {T T' : TypeId} {i k : Nat} {v : Value} {L : List Value} (hT : tyB P T = some (false, k)) (h : lk F p = some (.loc i 0)) (hM : M[i]? = some (.flat T' L)) (hl : L[0]? = some v) : RvD P (.cell p T) F M (.val v) := fun s a ho hMs hF => by
  subst hMs
  have hv := hF p _ h
  generalize hvx : slot a p = vx at hv
  cases hv with
  | @loc _ _ b hb =>
    obtain ⟨b', e1, e2⟩ := ho.blk i _ _ hM hb
    cases e1
    obtain ⟨dd, ii, h1, h2, h3, h4⟩ := tyB_spec hT
    refine ⟨v, ?_, .val _⟩
    have hvx' : a.tmps.getD p undef = .pointer (some ⟨b, 0, none⟩) := hvx
    have hc : s.w.cell? ⟨b, 0, none⟩ = some v := by rw [cell_of_row s.w b 0 L.toArray T' (0, 0) e2]; simpa using hl
    have hagg : (isAgg T).run P s.w = .ok false s.w := by
      unfold isAgg
      rw [Sem.run_bind, run_underlying h1]
      cases dd <;> simp_all [TypeDesc.isRow]
    simp only [rv, hvx']
    simp [asAddr, loadVar, Sem.run_bind, hagg, load, Sem.run, hc]
/-- one cell that holds an address -/
theorem rv_m {p : Tmp} {T T' : TypeId} {i k : Nat} {l : List D} (hT : tyB P T = some (false, k)) (h : lk F p = some (.loc i 0)) (hM : M[i]? = some (.mix T' l)) (hl : l[0]? = some d) : RvD P (.cell p T) F M d := fun s a ho hMs hF => by
  subst hMs
  have hv := hF p _ h
  generalize hvx : slot a p = vx at hv
  cases hv with
  | @loc _ _ b hb =>
    obtain ⟨b', vs, e1, e2, e3, e4⟩ := ho.blk i _ _ hM hb
    cases e1
    obtain ⟨dd, ii, h1, h2, h3, h4⟩ := tyB_spec hT
    obtain ⟨v, hv0⟩ : ∃ v, vs[0]? = some v := ⟨vs[0]'(by rw [e3]; exact (List.getElem?_eq_some_iff.1 hl).1), List.getElem?_eq_getElem _⟩
    refine ⟨v, ?_, e4 0 d v hl hv0⟩
    have hvx' : a.tmps.getD p undef = .pointer (some ⟨b, 0, none⟩) := hvx
    have hc : s.w.cell? ⟨b, 0, none⟩ = some v := by rw [cell_of_row s.w b 0 vs.toArray T' (0, 0) e2]; simpa using hv0
    have hagg : (isAgg T).run P s.w = .ok false s.w := by
      unfold isAgg
      rw [Sem.run_bind, run_underlying h1]
      cases dd <;> simp_all [TypeDesc.isRow]
    simp only [rv, hvx']
    simp [asAddr, loadVar, Sem.run_bind, hagg, load, Sem.run, hc]
end

/-! ### interfaces, panics -/
section
variable {pc : Bool} {o : Oper} {F : Fr} {M : List Blk}
/-- a concrete type -/
def niF (P : Program) (T : TypeId) : Bool := match P.underlying T with
  | some (.interface _) => false
  | some _ => true
  | none => false
def zrV (P : Program) (T : TypeId) : Option Value := (P.info? T).bind (·.zero)
theorem op_mi {T : TypeId} {x : Operand} {d : D} (ho : o.op = .makeInterface T x) (hT : niF P T = true) (hx : Ev pc F x d) : DOp P pc o F M [] (.ifc T d) [] := by
  intro hp a s hok hops _
  have h1 := ev_at hp hx (by simp [ho, Op.operands]) hops
  refine dg_val (v := .iface T (a.eval x)) hok ?_ (.ifc h1)
  unfold execOp
  simp only [ho]
  refine run_v ?_
  unfold niF at hT
  unfold Instr.makeInterface
  split at hT
  · cases hT
  · rename_i dd hne hu
    rw [Sem.run_bind, run_underlying hu]
    simp only [Result.andThen_ok]
    cases dd <;> simp_all
  · cases hT
theorem op_tay {T X : TypeId} {x : Operand} {d : D} (ho : o.op = .typeAssert x X T true) (hT : niF P T = true) (hx : Ev pc F x (.ifc T d)) : DOp P pc o F M [] (.tup [d, .val (.bool true)]) [] := by
  intro hp a s hok hops _
  have h1 := ev_at hp hx (by simp [ho, Op.operands]) hops
  generalize hv : a.eval x = v at h1
  cases h1 with
  | @ifc _ _ u h1 =>
    refine dg_val (v := .tuple #[u, .bool true]) hok ?_ (Rep.tup (vs := [u, .bool true]) rfl fun j y z hj hz => ?_)
    · unfold execOp
      simp only [ho]
      refine run_v ?_
      unfold niF at hT
      unfold Instr.typeAssert
      split at hT
      · cases hT
      · rename_i dd hne hu
        rw [Sem.run_bind, run_underlying hu]
        simp only [Result.andThen_ok, hv]
        split <;> simp_all
      · cases hT
    · match j with
      | 0 => simp at hj hz; subst hj; subst hz; exact h1
      | 1 => simp at hj hz; subst hj; subst hz; exact .val _
      | j + 2 => simp at hj
theorem op_tan {T X : TypeId} {x : Operand} {z : Value} (ho : o.op = .typeAssert x X T true) (hT : niF P T = true) (hz : zrV P T = some z) (hx : Ev pc F x (.val .nilIface)) : DOp P pc o F M [] (.tup [.val z, .val (.bool false)]) [] := by
  intro hp a s hok hops _
  have h1 := (ev_at hp hx (by simp [ho, Op.operands]) hops).val_eq
  refine dg_val (v := .tuple #[z, .bool false]) hok ?_ (Rep.tup (vs := [z, .bool false]) rfl fun j y q hj hq => ?_)
  · unfold execOp
    simp only [ho]
    refine run_v ?_
    unfold niF at hT
    unfold Instr.typeAssert
    have hzr : (zeroValue T).run P s.w = .ok z s.w := by
      unfold zrV at hz
      obtain ⟨i, hi, hz⟩ := Option.bind_eq_some_iff.1 hz
      simp [zeroValue, typeInfo, hi, hz]
    split at hT
    · cases hT
    · rename_i dd hne hu
      rw [Sem.run_bind, run_underlying hu]
      simp only [Result.andThen_ok, h1]
      split <;> simp_all
    · cases hT
  · match j with
    | 0 => simp at hj hq; subst hj; subst hq; exact .val _
    | 1 => simp at hj hq; subst hj; subst hq; exact .val _
    | j + 2 => simp at hj
theorem op_pan {T : TypeId} {x : Operand} {d : D} (ho : o.op = .panic x) (hx : Ev pc F x (.ifc T d)) : DOpP P pc o F M [] (.ifc T d) [] := by
  intro hp a s hok hops _
  have h1 := ev_at hp hx (by simp [ho, Op.operands]) hops
  have hr := h1
  generalize hv : a.eval x = v at h1
  cases h1 with
  | @ifc _ _ u h1 =>
    have : (execOp a.eval o).run P s.w = .halt (.panic (.iface T u)) s.w := by
      unfold execOp
      simp only [ho, hv, Instr.panic]
      simp [goPanic, Sem.run_bind, Sem.run, Sem.bind, bind]
    rw [this]
    exact ⟨s, rfl, Tr.refl hok, rfl, by rw [hv] at hr; exact hr⟩
end
end
end Go.Proofs.Ytgomklemldldiaa
