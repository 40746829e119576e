/- Functions without a body that touch one cell (package sync/atomic), or mark; a function that is deferred with its arguments; deferred functions that do not recover. Conditions: what such a call's run is. -/
import Derived.Test.YtgomklemldldiaaLwa
import Derived.Laws.LoneSync
namespace Go.Proofs.Ytgomklemldldiaa
set_option linter.unusedVariables false
set_option linter.unusedSimpArgs false
open Go.RowKit

section
variable {P : Program} {pc : Bool} {o : Oper} {F : Fr} {M : List Blk}
theorem run_ext {a : Act} {x : Operand} {as : List Operand} {tys : Array TypeId} {g : FuncId} {w : World} (ho : o.op = .call { callee := .value x, args := as.toArray, argTypes := tys }) (hx : a.eval x = .func (.func g) #[] #[]) : (execOp a.eval o).run P w = (callFunc g (as.map a.eval).toArray).run P w := by
  have e : execOp a.eval o = callFunc g (as.map a.eval).toArray := by
    unfold execOp
    simp only [ho, resolve, hx, Deferred.ofValue]
    simp [invoke, pure, bind, Sem.bind]
  rw [e]
theorem fn_plain {s : St} {g : FuncId} {v : Value} (h : Rep s (.fn (.func g) [] []) v) : v = .func (.func g) #[] #[] := by
  cases h with
  | @fn _ _ _ vs us hl hk _ _ =>
    have e1 : vs = [] := List.eq_nil_of_length_eq_zero hl
    have e2 : us = [] := List.eq_nil_of_length_eq_zero hk
    subst e1 e2
    rfl
theorem loc_cell {s : St} (hok : Ok s) {T : TypeId} {L : List Value} {i p : Nat} {u v : Value} (hM : s.M[i]? = some (.flat T L)) (hR : L[p]? = some u) (hr : Rep s (.loc i p) v) : ∃ b, v = .pointer (some ⟨b, p, none⟩) ∧ s.β[i]? = some (.pointer (some ⟨b, 0, none⟩)) ∧ s.w.heap[b]? = some (.cells L.toArray T (0, 0)) ∧ s.w.cell? ⟨b, p, none⟩ = some u ∧ s.w.frozen? ⟨b, p, none⟩ = false := by
  cases hr with
  | @loc _ _ b h =>
    have hc := flat_cells hok hM h rfl
    have hcell := cellsAt_block hc 0
    have h1 := hcell p u (by simpa using hR)
    rw [Nat.zero_add] at h1
    exact ⟨b, rfl, h, hc, h1, by simp [World.frozen?, hc]⟩
/-- each bit turned -/
theorem op_cpl {T : TypeId} {x : Operand} {k : IntKind} {p : Int} (ho : o.op = .unOp .xor T x) (hx : Ev pc F x (.val (.int k p))) : DOp P pc o F M [] (.val (.int k (xorZ k (if k.signed then -1 else k.max) p))) [] := by
  intro hp a s hok hops _
  have h1 := (ev_at hp hx (by simp [ho, Op.operands]) hops).val_eq
  refine dg_val (v := .int k (xorZ k (if k.signed then -1 else k.max) p)) hok ?_ (.val _)
  unfold execOp
  simp only [ho, h1]
  exact run_v (by simp [Op.unary, Op.intBits, xorZ])
/-- it marks -/
theorem op_mark0 {x : Operand} {tys : Array TypeId} {g : FuncId} (hrun : ∀ w, (callFunc g #[]).run P w = .ok (.value (.tuple #[])) w) (ho : o.op = .call { callee := .value x, args := #[], argTypes := tys }) (hx : Ev pc F x (.fn (.func g) [] [])) : DOp P pc o F M [] (.tup []) [] := by
  intro hp a s hok hops _
  have h1 := fn_plain (ev_at hp hx (by simp [ho, Op.operands, Call.operands]) hops)
  refine dg_val hok ?_ (Rep.tup (vs := []) rfl fun j d v hj => by simp at hj)
  have := run_ext (P := P) (w := s.w) (as := []) ho h1
  rw [this]
  exact hrun _
/-- .. an address -/
theorem op_marked {x y : Operand} {tys : Array TypeId} {g : FuncId} {i p : Nat} (hrun : ∀ (b : Addr) w, (callFunc g #[.pointer (some b)]).run P w = .ok (.value (.tuple #[])) w) (ho : o.op = .call { callee := .value x, args := #[y], argTypes := tys }) (hx : Ev pc F x (.fn (.func g) [] [])) (hy : Ev pc F y (.loc i p)) : DOp P pc o F M [] (.tup []) [] := by
  intro hp a s hok hops _
  have h1 := fn_plain (ev_at hp hx (by simp [ho, Op.operands, Call.operands]) hops)
  have h2 := ev_at hp hy (by simp [ho, Op.operands, Call.operands]) hops
  refine dg_val hok ?_ (Rep.tup (vs := []) rfl fun j d v hj => by simp at hj)
  have := run_ext (P := P) (w := s.w) (as := [y]) ho h1
  rw [this]
  generalize hv : a.eval y = vy at h2
  cases h2 with
  | loc h =>
    simp only [List.map_cons, List.map_nil, hv]
    exact hrun _ _
/-- it reads a cell -/
theorem op_ard {x y : Operand} {tys : Array TypeId} {g : FuncId} {T : TypeId} {L : List Value} {i p : Nat} {u : Value} (hrun : ∀ (b : Addr) w, w.cell? b = some u → (callFunc g #[.pointer (some b)]).run P w = .ok (.value u) w) (ho : o.op = .call { callee := .value x, args := #[y], argTypes := tys }) (hx : Ev pc F x (.fn (.func g) [] [])) (hy : Ev pc F y (.loc i p)) (hM : M[i]? = some (.flat T L)) (hR : L[p]? = some u) : DOp P pc o F M [i] (.val u) [] := by
  intro hp a s hok hops hfp
  have h1 := fn_plain (ev_at hp hx (by simp [ho, Op.operands, Call.operands]) hops)
  have h2 := ev_at hp hy (by simp [ho, Op.operands, Call.operands]) hops
  obtain ⟨b, hv, _, _, hc, _⟩ := loc_cell hok (by rw [hfp i (by simp)]; exact hM) hR h2
  refine dg_val hok ?_ (.val _)
  have := run_ext (P := P) (w := s.w) (as := [y]) ho h1
  rw [this]
  simp only [List.map_cons, List.map_nil, hv]
  exact hrun _ _ hc
/-- it writes a cell -/
theorem op_awr {x y : Operand} {ys : List Operand} {yv : List Value} {tys : Array TypeId} {g : FuncId} {T : TypeId} {L : List Value} {i p : Nat} {u u' r : Value} {d : D} (hrun : ∀ (b : Addr) w, w.cell? b = some u → w.frozen? b = false → (callFunc g (.pointer (some b) :: yv).toArray).run P w = .ok (.value r) (w.setCell b u'))
    (hd : ∀ s : St, Rep s d r) (h1c : u'.oneCell' = true) (ho : o.op = .call { callee := .value x, args := (y :: ys).toArray, argTypes := tys }) (hx : Ev pc F x (.fn (.func g) [] [])) (hy : Ev pc F y (.loc i p)) (hys : EvL pc F ys (yv.map .val)) (hM : M[i]? = some (.flat T L)) (hR : L[p]? = some u) : DOp P pc o F M [i] d [(i, .flat T (L.set p u'))] := by
  intro hp a s hok hops hfp
  have h1 := fn_plain (ev_at hp hx (by simp [ho, Op.operands, Call.operands]) hops)
  have h2 := ev_at hp hy (by simp [ho, Op.operands, Call.operands]) hops
  have hM' : s.M[i]? = some (.flat T L) := by rw [hfp i (by simp)]; exact hM
  obtain ⟨b, hv, hβ, hheap, hc, hz⟩ := loc_cell hok hM' hR h2
  have hl := evL_reps hp ys _ hys fun z hz' => hops z (by rw [ho]; simp [Op.operands, Call.operands]; exact .inr (.inr hz'))
  have hyv : ys.map a.eval = yv := by
    refine List.ext_getElem? fun j => ?_
    have hlen : (ys.map a.eval).length = yv.length := by rw [hl.1]; simp
    by_cases hj : j < yv.length
    · have h3 := hl.2 j (.val yv[j]) ((ys.map a.eval)[j]'(by omega)) (by rw [List.getElem?_map, List.getElem?_eq_getElem hj]; rfl) (List.getElem?_eq_getElem (by omega))
      rw [List.getElem?_eq_getElem (by omega), List.getElem?_eq_getElem hj, h3.val_eq]
    · rw [List.getElem?_eq_none (by omega), List.getElem?_eq_none (by omega)]
  have hpl : p < L.length := (List.getElem?_eq_some_iff.1 hR).1
  have hrun' : (execOp a.eval o).run P s.w = .ok (.value r) (s.w.setCells b p [u']) := by
    have := run_ext (P := P) (w := s.w) (as := y :: ys) ho h1
    rw [this]
    simp only [List.map_cons, hv, hyv]
    exact hrun _ _ hc hz
  have hset : setL L p [u'] = L.set p u' := by
    simp [setL]
  exact dg_step (s' := ⟨s.β.set i (.pointer (some ⟨b, 0, none⟩)), s.I, s.M.set i (.flat T (L.set p u')), s.w.setCells b p [u']⟩) hrun' (tr_store hok hM' rfl hβ rfl p [u'] ⟨b, rfl, by rw [← hset]; exact setCells_block b [u'] p s.w L T hheap⟩) rfl (hd _)
/-- an address, whatever it points to -/
theorem op_unsafe {x : Operand} {src dst T : TypeId} {L : List Value} {i p : Nat} {u : Value} (hrun : ∀ (b : Addr) w, w.cell? b = some u → (convert src dst (.pointer (some b))).run P w = .ok (.pointer (some b)) w) (ho : o.op = .convert src dst x) (hx : Ev pc F x (.loc i p)) (hM : M[i]? = some (.flat T L)) (hR : L[p]? = some u) : DOp P pc o F M [i] (.loc i p) [] := by
  intro hp a s hok hops hfp
  have h2 := ev_at hp hx (by simp [ho, Op.operands]) hops
  obtain ⟨b, hv, _, _, hc, _⟩ := loc_cell hok (by rw [hfp i (by simp)]; exact hM) hR h2
  refine dg_val hok (v := a.eval x) ?_ h2
  unfold execOp
  simp only [ho, hv]
  exact run_v (hrun _ _ hc)
end

theorem run_defer_a {P : Program} {o : Oper} {a : Act} {x : Operand} {as : List Operand} {tys : Array TypeId} {g : FuncId} {w : World} (ho : o.op = .defer { callee := .value x, args := as.toArray, argTypes := tys }) (hx : a.eval x = .func (.func g) #[] #[]) :
    (o.semAt none a.eval).run P w = .ok (.defer { target := .fn (.func g) #[], args := (as.map a.eval).toArray }) w := by
  rw [Oper.semAt_none]
  unfold execOp
  simp only [ho, resolve, hx, Deferred.ofValue]
  simp [pure, bind, Sem.bind, Sem.run]

section
variable {P : Program} {s0 : St} {n : Cx}
/-- up to a function that is deferred with its arguments -/
theorem dbody_defer_a {fn : Func} {id : Nat} {l l0 : List Oper} {o : Oper} {y : Code} {x : Operand} {as : List Operand} {tys : Array TypeId} {F : Fr} {M : List Blk} {m : Nat} {post pan : D → List Blk → Prop} (hl : l = l0 ++ [o]) (ho : o.op = .defer { callee := .value x, args := as.toArray, argTypes := tys }) (hg : o.guard = none) (hdst : o.dst = none) (hr : n.r = none) (hle : s0.M.length ≤ m)
    (h : Walk P s0 n l.toArray l0 F M (Kseq (fun F1 M1 => ∃ f ds k', Ev true F1 x (.fn (.func f) [] []) ∧ EvL true F1 as ds ∧ s0.M.length ≤ k' ∧ D.ltL k' (.fn (.func f) ds [] :: n.U) = true ∧ dbody P s0 ⟨n.n, none, k', .fn (.func f) ds [] :: n.U, n.mks⟩ fn m post pan y F1 M1) (Kret P fn m n.U post pan))) :
    dbody P s0 n fn m post pan (.seq (.region id l.toArray false) y) F M := by
  intro a w hi
  have h1 := h a w hi
  have hρ : n.ρ s0 = none := by unfold Cx.ρ; rw [hr]
  rw [hρ] at h1
  refine wpIn_seq (wpIn_region_lit ?_)
  have key := wpListIn_app (G := wd none) (k := 0) (P := P) (ops := l.toArray) (Q := Exit.then (fun a w => y.wpIn Fence.wide 0 P (bodyPostM Fence.wide 0 P fn (Lv s0 post pan)) a w) (bodyPostM Fence.wide 0 P fn (Lv s0 post pan))) (l2 := [o]) ?_ ?_ ?_ l0 a w h1
  · rw [← hl] at key; exact key
  · intro a w hp
    obtain ⟨F1, M1, ⟨h0, s1, q1, q2, q3, q4, q5, q6⟩, f, ds, k', ⟨d', e1, e2⟩, hds, hk, hlt, hy⟩ := hp
    subst q1 q2
    have hrep := fn_plain (e2 s1 _ rfl (ev_rep q4 e1))
    have hreps := evL_reps (a := a) (s := s1) rfl as ds hds fun z _ d hz => ev_rep q4 hz
    show if Region.wanted o (yielded l.toArray a.tmps) then _ else _
    have hw : Region.wanted o (yielded l.toArray a.tmps) = true := by unfold Region.wanted; rw [hg]
    rw [if_pos hw]
    refine ⟨fun _ _ => trivial, ?_⟩
    rw [show (wd none).round = none from rfl, run_defer_a ho hrep]
    rw [Oper.uponIn_defer, hdst]
    exact hy _ _ ⟨h0, s1, rfl, rfl, q3, q4, q5, .fn (us := []) (.fn hreps.1 rfl hreps.2 fun j d v hj => by simp at hj) q6⟩
  · intro ch a w hp
    obtain ⟨F, M, d, ⟨h0, s1, v, q1, q2, q3, q4, q5, q6, q7, q8⟩, hk⟩ := hp
    subst q1 q2 q7
    exact leaves h0 hle a _ _ (some d) _ _ _ q6 q3 q4 ⟨v, rfl, q8⟩ hk
  · intro a w hp
    exact hp
/-- .. a condition that is known -/
theorem dbody_if_t {fn : Func} {x y : Code} {c : Operand} {b : Bool} {F : Fr} {M : List Blk} {m : Nat} {post pan : D → List Blk → Prop} (hc : ev F c = some (.val (.bool b))) (hb : b = true) (h : dbody P s0 n fn m post pan x F M) : dbody P s0 n fn m post pan (.cond c x y) F M := by
  intro a w hi
  have hi' := hi
  obtain ⟨_, s, h1, h2, h3, h4, h5, h6⟩ := hi
  subst hb
  exact wpIn_cond_true (ev_rep h4 hc).val_eq (h a w hi')
end

theorem inv_begin {fn : Func} {args : List D} {N m : Nat} {s : St} {vs : List Value} (hn : fn.ntmps = N) (hle : Nat.ble args.length N = true) (hok : Ok s) (hr : Reps s args vs) :
    Inv s ⟨N, none, m, [], false⟩ (fr0 0 args) s.M { tmps := vs.toArray ++ Array.replicate (fn.ntmps - vs.toArray.size) undef, defers := [] } s.w := by
  obtain ⟨hl, hr⟩ := hr
  have hle := Nat.le_of_ble_eq_true hle
  generalize ha : ({ tmps := vs.toArray ++ Array.replicate (fn.ntmps - vs.toArray.size) undef, defers := [] } : Act) = a0
  have hsize : a0.tmps.size = N := by subst ha; simp; omega
  have hslot : ∀ t d, lk (fr0 0 args) t = some d → Rep s d (slot a0 t) := by
    intro t d hd
    obtain ⟨_, h2⟩ := fr0_lk args 0 t d hd
    simp only [Nat.sub_zero] at h2
    have hlt : t < args.length := (List.getElem?_eq_some_iff.1 h2).1
    have hv : vs[t]? = some vs[t] := List.getElem?_eq_getElem (by omega)
    have : slot a0 t = vs[t] := by
      subst ha
      unfold slot
      simp only [Array.getD_eq_getD_getElem?]
      rw [Array.getElem?_append_left (by simp; omega)]
      simp [show t < vs.length by omega]
    rw [this]
    exact hr t d _ h2 hv
  refine ⟨hok, s, rfl, rfl, Tr.refl hok, hslot, hsize, ?_⟩
  rw [← ha]
  exact .nil
/-- a function that is deferred, and does not recover, where nothing panics -/
theorem ddef_code {P : Program} {f : FuncId} {fn : Func} {c : Code} {args : List D} {F0 : Fr} {Min Mout : List Blk} {dr : D} {N : Nat} (m : Nat) (hcb : callB P f = true) (hf : P.funcs[f]? = some fn)
    (hc : fn.body = some c) (hn : fn.ntmps = N) (hle : Nat.ble args.length N = true) (hF : fr0 0 args = F0) (hm : Min.length = m)
    (h : ∀ s0 : St, s0.M.length ≤ m → dwp P s0 ⟨N, none, m, [], false⟩ c F0 Min (Kret P fn m [] (fun d M => d = dr ∧ M = Mout) (fun _ _ => False))) :
    DDef P f args Min none none Mout := by
  subst hF
  refine ⟨hcb, fun s vs u hok hM hr hmode => ⟨trivial, fun c0 cs hu hroom => ?_⟩⟩
  subst hu
  subst hm
  have hle' : s.M.length ≤ Min.length := by rw [hM]; exact Nat.le_refl _
  have hset : settle c0.mode = .returning := by rw [show c0.mode = .returning from hmode]; rfl
  let b : Frame := { (default : Frame) with fn := f, kind := .deferred, roundOf := none }
  have henter : Frame.enter P f vs.toArray .deferred = b.atR { tmps := vs.toArray ++ Array.replicate (fn.ntmps - vs.toArray.size) undef, defers := [] } [.code c] := by
    simp [Frame.enter, Frame.atR, hf, hc, b]
  rw [henter]
  have hi := inv_begin (m := Min.length) hn hle hok hr
  rw [hM] at hi
  obtain ⟨e, a, w, hq, harr⟩ := h s hle' _ _ hi b [] (c0 :: cs) rfl trivial (wd_room _ _)
  have no_marks : ∀ {s1 : St} {ds : List Deferred}, DfOk s s1 false [] ds → ds = [] := fun h => by
    cases h with
    | nil => rfl
    | mark hmk => cases hmk
  have fin : (∃ F M, Inv s ⟨N, none, Min.length, [], false⟩ F M a w ∧ DEnd P fn Min.length (fun d M => d = dr ∧ M = Mout) (fun _ _ => False) [] none F M) → a.defers = [] ∧ ∃ v s', (results fn a.tmps).run P w = .ok v w ∧ s'.w = w ∧ Tr s s' ∧ s'.M = Mout := by
    rintro ⟨F, M, ⟨h0, s1, rfl, rfl, q3, q4, q5, q6⟩, hk⟩
    cases hk with
    | @ret _ _ Mo _ _ σ hr hσ hv hM hp =>
      obtain ⟨v, h1, h2⟩ := hr s1 a q3.ok rfl q4
      obtain ⟨rfl, rfl⟩ := hp
      exact ⟨no_marks q6, v, vst s1 σ allv Mo, h1, rfl, tr_vst hok q3 (mfits _ _ hM) hle' hσ, rfl⟩
  cases e with
  | normal =>
    obtain ⟨hd, v, s', h1, h2, h3, h4⟩ := fin hq
    refine ⟨.returned v, c0.mode, w, { b.atR a [] with mode := .returning }, ⟨s', v, rfl, h2, h3, h4, hset⟩, StepsIn.trans harr (.one (fenced_wide _ _) (stepR_end rfl)), rfl, rfl, rfl, hd, fn, ?_, h1⟩
    exact hf
  | ret =>
    obtain ⟨hd, v, s', h1, h2, h3, h4⟩ := fin hq
    obtain ⟨todo, hs⟩ := harr.1 rfl
    refine ⟨.returned v, c0.mode, w, { b.atR a todo with mode := .returning }, ⟨s', v, rfl, h2, h3, h4, hset⟩, hs, rfl, rfl, rfl, hd, fn, ?_, h1⟩
    exact hf
  | panic ch => obtain ⟨F, M, d, _, hk⟩ := hq; cases hk with | pan _ _ _ hp => exact hp.elim
  | exit id => obtain ⟨_, _, _, hk⟩ := hq; exact hk.elim
  | goto l => obtain ⟨_, _, _, hk⟩ := hq; exact hk.elim
  | outgrown => exact hq.elim

section
variable {P : Program} {pc : Bool} {o : Oper} {F : Fr} {M : List Blk}
theorem nlL_take : ∀ {l : List D} (k : Nat), D.nlL l = true → D.nlL (l.take k) = true
  | _, 0, _ => by simp [D.nlL]
  | [], _ + 1, _ => rfl
  | d :: l, k + 1, h => by
    rw [D.nlL, Bool.and_eq_true] at h
    rw [List.take_succ_cons, D.nlL, h.1, nlL_take k h.2]
    rfl
/-- a part of a slice of slices that stays -/
theorem op_slms {T e : TypeId} {sz by' n : Nat} {x : Operand} {lo hi : Option Operand} {L : List D} {l h : Int} (ho : o.op = .slice T x lo hi none) (hT : slE P T = some (e, sz, by')) (hx : Ev pc F x (.slm sz n L)) (hlo : Bd pc F lo 0 l) (hhi : Bd pc F hi n h)
    (hb : pc = true → 0 ≤ l ∧ l ≤ h ∧ h ≤ n) : DOp P pc o F M [] (.slm sz (h.toNat - l.toNat) ((L.drop (l.toNat * sz)).take ((h.toNat - l.toNat) * sz))) [] := by
  intro hp a s hok hops _
  obtain ⟨b1, b2, b3⟩ := hb hp
  have hr := ev_at hp hx (by simp [ho, Op.operands]) hops
  generalize hv : a.eval x = vx at hr
  cases hr with
  | @slm _ _ cap ad _ vs hnl hl hn hc ha hvl hel hL =>
    refine dg_val hok (run_slice ho hT hv (bd_at hp hlo (fun u e => by subst e; simp [ho, Op.operands]) hops) (bd_at hp hhi (fun u e => by subst e; simp [ho, Op.operands]) hops) b1 b2 b3 hn) ?_
    have hlen : ((L.drop (l.toNat * sz)).take ((h.toNat - l.toNat) * sz)).length = (h.toNat - l.toNat) * sz := by
      rw [List.length_take, List.length_drop, hl, ← Nat.mul_sub_right_distrib]
      exact Nat.min_eq_left (Nat.mul_le_mul_right _ (by omega))
    refine .slm (vs := (vs.drop (l.toNat * sz)).take ((h.toNat - l.toNat) * sz)) (nlL_take _ (nlL_drop _ hnl)) hlen (by omega) (by omega) (fun e => ?_) (by rw [List.length_take, List.length_drop, List.length_take, List.length_drop, hvl]) (fun j d v h1 h2 => ?_) ?_
    · split at e
      · omega
      · cases ad with
        | none => have := ha rfl; omega
        | some ad => cases e
    · rw [List.getElem?_take] at h1 h2
      split at h1
      · rename_i hj
        rw [if_pos hj] at h2
        rw [List.getElem?_drop] at h1 h2
        exact hel _ d v h1 h2
      · cases h1
    · rcases hL with rfl | ⟨b, q, rfl, hI, hcl⟩
      · left; simp
      · by_cases hz : cap = l.toNat
        · left
          have : h.toNat - l.toNat = 0 := by omega
          rw [this]; simp
        · right
          rw [if_neg hz]
          exact ⟨b, q + l.toNat * sz, by rw [Option.map_some, Addr.add_mid], hI, cellsAt_sub hcl _ _⟩
theorem flatM_drop {α β : Type} {en : α → List β} {sz : Nat} (hen : ∀ a, (en a).length = sz) : ∀ (l : List α) (k : Nat), (l.flatMap en).drop (k * sz) = (l.drop k).flatMap en
  | l, 0 => by simp
  | [], k + 1 => by simp
  | a :: l, k + 1 => by
    rw [List.flatMap_cons, List.drop_succ_cons, ← flatM_drop hen l k, Nat.succ_mul, Nat.add_comm (k * sz), ← List.drop_drop, List.drop_left' (hen a)]
theorem flatM_take {α β : Type} {en : α → List β} {sz : Nat} (hen : ∀ a, (en a).length = sz) : ∀ (l : List α) (k : Nat), (l.flatMap en).take (k * sz) = (l.take k).flatMap en
  | l, 0 => by simp
  | [], k + 1 => by simp
  | a :: l, k + 1 => by
    rw [List.flatMap_cons, List.take_succ_cons, List.flatMap_cons, ← flatM_take hen l k, Nat.succ_mul, Nat.add_comm (k * sz), List.take_add, List.take_left' (hen a), List.drop_left' (hen a)]
/-- .. from i to j -/
theorem op_slmmd {α : Type} {mk : α → List D} {r : List α} {T e : TypeId} {sz by' : Nat} {x : Operand} {lo hi : Option Operand} {l h : Int} {i j : Nat} (ho : o.op = .slice T x lo hi none) (hT : slE P T = some (e, sz, by')) (hx : Ev pc F x (.slm sz r.length (r.flatMap mk))) (hlo : Bd pc F lo 0 l) (hhi : Bd pc F hi r.length h)
    (hl : pc = true → l = (i : Int)) (hh : pc = true → h = (j : Int)) (hij : pc = true → i ≤ j ∧ j ≤ r.length) (hmk : ∀ a, (mk a).length = sz) : DOp P pc o F M [] (.slm sz ((r.drop i).take (j - i)).length (((r.drop i).take (j - i)).flatMap mk)) [] := fun hp => by
  have h1 := hij hp
  have := op_slms (P := P) (M := M) ho hT hx hlo hhi (fun hp => by have := hl hp; have := hh hp; omega) hp
  rw [hl hp, hh hp, Int.toNat_natCast, Int.toNat_natCast, flatM_drop hmk, flatM_take hmk] at this
  rw [show ((r.drop i).take (j - i)).length = j - i by rw [List.length_take, List.length_drop]; omega]
  exact this
theorem op_slmtk {α : Type} {mk : α → List D} {r : List α} {T e : TypeId} {sz by' : Nat} {x : Operand} {hi : Option Operand} {h : Int} {j : Nat} (ho : o.op = .slice T x none hi none) (hT : slE P T = some (e, sz, by')) (hx : Ev pc F x (.slm sz r.length (r.flatMap mk))) (hhi : Bd pc F hi r.length h)
    (hh : pc = true → h = (j : Int)) (hij : pc = true → j ≤ r.length) (hmk : ∀ a, (mk a).length = sz) : DOp P pc o F M [] (.slm sz (r.take j).length ((r.take j).flatMap mk)) [] :=
  op_slmmd (i := 0) ho hT hx (bd_none (z := 0)) hhi (fun _ => rfl) hh (fun hp => ⟨Nat.zero_le _, hij hp⟩) hmk
theorem flat1_at {α : Type} {mk : α → D} {l : List α} {j : Nat} (h : j < l.length) : (l.flatMap fun a => [mk a])[j]? = some (mk l[j]) := by
  have e : ∀ l : List α, (l.flatMap fun a => [mk a]) = l.map mk := fun l => by
    induction l with
    | nil => rfl
    | cons a l ih => rw [List.flatMap_cons, List.map_cons, ih]; rfl
  rw [e, List.getElem?_map, List.getElem?_eq_getElem h]; rfl
end
end Go.Proofs.Ytgomklemldldiaa
