/- A function that is deferred, and recovers, whose one region draws its order: each of the orders by itself. No condition. -/
import Derived.Test.YtgomklemldldiaaLx
namespace Go.Proofs.Ytgomklemldldiaa
set_option linter.unusedVariables false
set_option linter.unusedSimpArgs false
open Go.RowKit

/-- the orders that a region may draw -/
def allL (md : Region.Mode) (ops : Array Oper) : Nat → Array Bool → List (List Nat)
  | 0, _ => [[]]
  | f + 1, listed => match Region.ready md ops listed with
    | [] => [[]]
    | i :: r => (i :: r).flatMap fun j => (allL md ops f (listed.setIfInBounds j true)).map (j :: ·)
theorem allL_go {md : Region.Mode} {ops : Array Oper} : ∀ (f t : Nat) (listed : Array Bool), Region.linearise.go md ops f t listed [] ∈ allL md ops f listed
  | 0, t, listed => by simp [Region.linearise.go, allL]
  | f + 1, t, listed => by
    simp only [Region.linearise.go]
    change (match (Region.ready md ops listed)[t % (Region.ready md ops listed).length]? with
      | some i => Region.linearise.go md ops f (t / (Region.ready md ops listed).length) (listed.setIfInBounds i true) [i]
      | none => [].reverse) ∈ _
    unfold allL
    cases hr : Region.ready md ops listed with
    | nil => simp
    | cons x xs =>
      have hlt : t % (x :: xs).length < (x :: xs).length := Nat.mod_lt _ (by simp)
      rw [List.getElem?_eq_getElem hlt]
      simp only []
      rw [linearise_go_acc, List.reverse_singleton, List.singleton_append]
      exact List.mem_flatMap.2 ⟨_, List.getElem_mem hlt, List.mem_map.2 ⟨_, allL_go f _ _, rfl⟩⟩
def orders (ops : Array Oper) : List (List Nat) := allL .any ops ops.size (Array.replicate ops.size false)
theorem orders_mem {P : Program} {ops : Array Oper} (hm : P.follows .mixedOrders = true) (t : Nat) : Region.schedule (P.follows .mixedOrders) ops t ∈ orders ops := by
  simp only [Region.schedule, hm, Bool.true_or, if_true]
  exact allL_go _ _ _

def opsAt (ops : Array Oper) (L : List Nat) : List Oper := L.filterMap (ops[·]?)
theorem wpOps_at {G : Fence} {k : Nat} {P : Program} {ops : Array Oper} {Q : Exit → Act → World → Prop} : ∀ L : List Nat, wpOpsIn G k P ops Q L = wpListIn G k P ops Q (opsAt ops L)
  | [] => by funext a w; rfl
  | i :: L => by
    funext a w
    have ih := wpOps_at (G := G) (k := k) (P := P) (ops := ops) (Q := Q) L
    cases ho : ops[i]? with
    | none => simp only [wpOpsIn, opsAt, List.filterMap_cons, ho]; exact congrFun (congrFun ih a) w
    | some o => simp only [wpOpsIn, opsAt, List.filterMap_cons, ho, wpListIn]; rw [ih]; rfl

/-- the head of an order, that ends as it should -/
theorem pre_steps {P : Program} {ops : Array Oper} {Q : Exit → Act → World → Prop} {b : Frame} {k : List Item} {cs : List Frame} {tail : List Nat} (hro : b.roundOf = none)
    (hQ : ∀ e a w, Q e a w → e = .normal) (l : List Nat) :
    ∀ (a : Act) (w : World), wpOpsIn (wd none) 0 P ops Q l a w →
      ∃ a' w', Q .normal a' w' ∧ StepsIn (Machine.fenced P Fence.wide) P (lone (b.atR a (.inRegion ops (l ++ tail) :: k)) cs w) (lone (b.atR a' (.inRegion ops tail :: k)) cs w') := by
  induction l with
  | nil => exact fun a w h => ⟨a, w, h, StepsIn.refl _⟩
  | cons i rest ih =>
    intro a w h
    simp only [wpOpsIn] at h
    rw [List.cons_append]
    cases ho : ops[i]? with
    | none =>
      simp only [ho] at h
      obtain ⟨a', w', hq, hs'⟩ := ih a w h
      have hs := stepR_op_skip (P := P) (b := b) (a := a) (k := k) (cs := cs) (w := w) (ops := ops) (i := i) (rest := rest ++ tail) (by simp [ho])
      simp only [ho, Option.bind_none, Act.put] at hs
      exact ⟨a', w', hq, .head (fenced_wide _ _) hs hs'⟩
    | some o =>
      simp only [ho] at h
      by_cases hw : Region.wanted o (yielded ops a.tmps) = true
      · simp only [hw, if_true, Oper.wpIn] at h
        obtain ⟨_, h⟩ := h
        rw [show (wd none).round = none from rfl] at h
        simp only [Oper.uponIn] at h
        have hg := stepGR_op (P := P) (b := b) (k := k) (cs := cs) (w := w) (rest := rest ++ tail) ho hw
        rw [hro] at hg
        have hfin : ∀ v, (b.atR a (.inRegion ops (i :: (rest ++ tail)) :: k)).finish v = b.atR (a.put o.dst v) (.inRegion ops (rest ++ tail) :: k) := by
          intro v; rw [Frame.finish_atR, ho]; rfl
        split at h
        · rename_i v w' hr'
          have hr'' : (o.semAt none a.eval).run P w = .ok (.value v) w' := hr'
          obtain ⟨a', w'', hq, hs'⟩ := ih _ _ h
          refine ⟨a', w'', hq, .head (fenced_wide _ _) (step_lone_go ?_) hs'⟩
          rw [hg, ← hfin]; simp [stepG.apply, hr'']
        · rename_i w' hr'
          have hr'' : (o.semAt none a.eval).run P w = .ok .skip w' := hr'
          obtain ⟨a', w'', hq, hs'⟩ := ih _ _ h
          refine ⟨a', w'', hq, .head (fenced_wide _ _) (step_lone_go ?_) hs'⟩
          rw [hg, ← hfin]; simp [stepG.apply, hr'']
        · rename_i d w' hr'
          have hr'' : (o.semAt none a.eval).run P w = .ok (.defer d) w' := hr'
          obtain ⟨a', w'', hq, hs'⟩ := ih _ _ h
          refine ⟨a', w'', hq, .head (fenced_wide _ _) (step_lone_go ?_) hs'⟩
          have : ({ b.atR a (.inRegion ops (i :: (rest ++ tail)) :: k) with defers := d :: a.defers } : Frame).finish undef =
              b.atR ({ a with defers := d :: a.defers }.put o.dst undef) (.inRegion ops (rest ++ tail) :: k) := by
            have := Frame.finish_atR b { a with defers := d :: a.defers } ops i (rest ++ tail) k undef
            rw [ho] at this; exact this
          rw [hg]; simp only [stepG.apply, Sem.runT_eq, hr'', GStep.bare_after]
          exact congrArg (fun fr => GStep.go { frame := fr, callers := cs, status := .running, dying := none } w') this
        · rename_i f args w' hr'
          have hr'' : (o.semAt none a.eval).run P w = .ok (.enter f args) w' := hr'
          obtain ⟨hn, hF, h⟩ := h
          obtain ⟨e, w'', fr, hR, hsteps, hfn, hleave⟩ := h (b.atR a (.inRegion ops (i :: (rest ++ tail)) :: k) :: cs) (wd_room _ _)
          have henter : step P (lone (b.atR a (.inRegion ops (i :: (rest ++ tail)) :: k)) cs w) =
              .next (lone (Frame.enter P f args .normal) (b.atR a (.inRegion ops (i :: (rest ++ tail)) :: k) :: cs) w') :=
            step_lone_go (by rw [hg]; simp [stepG.apply, hr'', Frame.atR])
          cases e with
          | returned v =>
            obtain ⟨a', w₃, hq, hs'⟩ := ih _ _ hR
            refine ⟨a', w₃, hq, .head (fenced_wide _ _) henter (StepsIn.trans (hsteps.mono fun _ _ => fenced_wide _ _) (.head (fenced_wide _ _) ?_ hs'))⟩
            rw [← hfin]; exact step_leave_returned hleave
          | panicked chain => cases hQ _ _ _ hR
          | outgrown => obtain ⟨a₀, w₀, hq⟩ := hR; cases hQ _ _ _ hq
        · rename_i row args w' hr'
          have hr'' : (o.semAt none a.eval).run P w = .ok (.row row args) w' := hr'
          obtain ⟨hn, h⟩ := h
          obtain ⟨v, w'', hR, hsteps⟩ := h (b.atR a (.inRegion ops (i :: (rest ++ tail)) :: k)) cs (wd_room _ _)
          have henter : step P (lone (b.atR a (.inRegion ops (i :: (rest ++ tail)) :: k)) cs w) =
              .next (lone (Frame.ofRow P row args .normal) (b.atR a (.inRegion ops (i :: (rest ++ tail)) :: k) :: cs) w') :=
            step_lone_go (by rw [hg]; simp [stepG.apply, hr'', Frame.atR])
          obtain ⟨a', w₃, hq, hs'⟩ := ih _ _ hR
          refine ⟨a', w₃, hq, .head (fenced_wide _ _) henter ?_⟩
          rw [← hfin] at hs'; exact StepsIn.trans (hsteps.mono fun _ _ => fenced_wide _ _) hs'
        · rename_i l f tmps assign body w' hr'
          have hr'' : (o.semAt none a.eval).run P w = .ok (.round l f tmps assign body) w' := hr'
          obtain ⟨hn, _, h⟩ := h
          obtain ⟨e, w'', hR, hsteps⟩ := h (b.atR a (.inRegion ops (i :: (rest ++ tail)) :: k)) cs (wd_room _ _)
          have henter : step P (lone (b.atR a (.inRegion ops (i :: (rest ++ tail)) :: k)) cs w) =
              .next (lone (Frame.round l f tmps assign body .normal) (b.atR a (.inRegion ops (i :: (rest ++ tail)) :: k) :: cs) w') :=
            step_lone_go (by rw [hg]; simp [stepG.apply, hr'', Frame.atR])
          cases e with
          | returned v =>
            obtain ⟨a', w₃, hq, hs'⟩ := ih _ _ hR
            refine ⟨a', w₃, hq, .head (fenced_wide _ _) henter ?_⟩
            rw [← hfin] at hs'
            have hsteps : StepsIn _ P _ _ := hsteps
            exact StepsIn.trans (hsteps.mono fun _ _ => fenced_wide _ _) hs'
          | panicked chain => cases hQ _ _ _ hR
          | outgrown => obtain ⟨a₀, w₀, hq⟩ := hR; cases hQ _ _ _ hq
        · rename_i v w' hr'
          cases hQ _ _ _ h
        · exact h.elim
      · simp only [hw, if_false, Bool.false_eq_true] at h
        obtain ⟨_, h⟩ := h
        obtain ⟨a', w', hq, hs'⟩ := ih _ _ h
        have hs := stepR_op_skip (P := P) (b := b) (a := a) (k := k) (cs := cs) (w := w) (ops := ops) (i := i) (rest := rest ++ tail)
          (by simp [ho]; simpa using hw)
        simp only [ho, Option.bind_some] at hs
        exact ⟨a', w', hq, .head (fenced_wide _ _) hs hs'⟩

def Kn (Q : Fr → List Blk → Prop) : Cont
  | .normal, F, M => Q F M
  | _, _, _ => False

theorem inv_start {fn : Func} {args : List D} {N m : Nat} {s : St} {vs : List Value} (hn : fn.ntmps = N) (hle : Nat.ble args.length N = true) (hok : Ok s) (hr : Reps s args vs) :
    Inv s ⟨N, none, m, [], false⟩ (fr0 0 args) s.M { tmps := vs.toArray ++ Array.replicate (fn.ntmps - vs.toArray.size) undef, defers := [] } { s.w with drawn := s.w.drawn + 1 } := by
  obtain ⟨hl, hr⟩ := hr
  have hle := Nat.le_of_ble_eq_true hle
  generalize ha : ({ tmps := vs.toArray ++ Array.replicate (fn.ntmps - vs.toArray.size) undef, defers := [] } : Act) = a0
  have hsize : a0.tmps.size = N := by subst ha; simp; omega
  have hslot : ∀ t d, lk (fr0 0 args) t = some d → Rep s d (slot a0 t) := by
    intro t d hd
    obtain ⟨_, h2⟩ := fr0_lk args 0 t d hd
    simp only [Nat.sub_zero] at h2
    have hlt : t < args.length := (List.getElem?_eq_some_iff.1 h2).1
    have hv : vs[t]? = some vs[t] := List.getElem?_eq_getElem (by omega)
    have : slot a0 t = vs[t] := by
      subst ha
      unfold slot
      simp only [Array.getD_eq_getD_getElem?]
      rw [Array.getElem?_append_left (by simp; omega)]
      simp [show t < vs.length by omega]
    rw [this]
    exact hr t d _ h2 hv
  have hst := step_same hok { s.w with drawn := s.w.drawn + 1 } rfl rfl rfl rfl
  refine ⟨hok, ⟨s.β, s.I, s.M, { s.w with drawn := s.w.drawn + 1 }⟩, rfl, rfl, hst, fun t d hd => (hslot t d hd).mono hok hst, hsize, ?_⟩
  rw [← ha]
  exact .nil

/-- **A function that is deferred, and recovers**, in a region that draws its order; each order by itself. -/
theorem ddef_any {P : Program} {f : FuncId} {fn : Func} {id : Nat} {ops : Array Oper} {o : Oper} {args : List D} {F0 : Fr} {Min Mout : List Blk} {pn : Option D} {dr : D} {N t : Nat} (m r : Nat) (Ls : List (List Nat)) (hmx : P.follows .mixedOrders = true) (hcb : callB P f = true) (hf : P.funcs[f]? = some fn)
    (hc : fn.body = some (.region id ops true)) (hn : fn.ntmps = N) (hle : Nat.ble args.length N = true) (hF : fr0 0 args = F0) (hm : Min.length = m) (hor : ops[r]? = some o) (hLs : orders ops = Ls)
    (ho : o.op = .call { callee := .builtin .recover, args := #[], argTypes := #[] }) (hg : o.guard = none) (hd : o.dst = some t) (ht : Nat.blt t N = true)
    (h : ∀ s0 : St, s0.M.length ≤ m → ∀ L ∈ Ls, ∃ L1 L2, L = L1 ++ r :: L2 ∧ Walk P s0 ⟨N, none, m, [], false⟩ ops (opsAt ops L1) F0 Min
      (Kn fun F M => Walk P s0 ⟨N, none, m, [], false⟩ ops (opsAt ops L2) ((t, recD' pn) :: F) M (Kret P fn m [] (fun d M => d = dr ∧ M = Mout) (fun _ _ => False)))) :
    DDef P f args Min pn none Mout := by
  subst hF
  subst hLs
  refine ⟨hcb, fun s vs u hok hM hr hmode => ⟨trivial, fun c0 cs hu hroom => ?_⟩⟩
  subst hu
  subst hm
  have hlen : s.M.length ≤ Min.length := by rw [hM]; exact Nat.le_refl _
  let b : Frame := { (default : Frame) with fn := f, kind := .deferred, roundOf := none }
  have henter : Frame.enter P f vs.toArray .deferred = b.atR { tmps := vs.toArray ++ Array.replicate (fn.ntmps - vs.toArray.size) undef, defers := [] } [.code (.region id ops true)] := by
    simp [Frame.enter, Frame.atR, hf, hc, b]
  rw [henter]
  obtain ⟨L1, L2, hL, hw1⟩ := h s hlen _ (orders_mem (ops := ops) hmx (s.w.tape s.w.drawn (.order b.fn id)))
  have hi := inv_start (m := Min.length) hn hle hok hr
  rw [hM] at hi
  have h1 := hw1 _ _ hi
  rw [show Cx.ρ ⟨N, none, Min.length, [], false⟩ s = none from rfl, ← wpOps_at] at h1
  obtain ⟨a1, w1, hq1, hs1⟩ := pre_steps (b := b) (k := []) (cs := c0 :: cs) (tail := r :: L2) rfl (fun e a w hq => by
    cases e with
    | normal => rfl
    | ret => obtain ⟨_, _, _, hk⟩ := hq; exact hk.elim
    | exit id => obtain ⟨_, _, _, hk⟩ := hq; exact hk.elim
    | goto l => obtain ⟨_, _, _, hk⟩ := hq; exact hk.elim
    | panic ch => obtain ⟨_, _, _, _, hk⟩ := hq; exact hk.elim
    | outgrown => exact hq.elim) L1 _ _ h1
  obtain ⟨F, M, ⟨h0, s1, q1, q2, q3, q4, q5, q6⟩, hk⟩ := hq1
  obtain ⟨hrec, hset⟩ := recV_mode hmode
  have hi2 : Inv s ⟨N, none, Min.length, [], false⟩ ((t, recD' pn) :: F) M (a1.put o.dst (recV c0.mode).1) w1 := by
    refine ⟨h0, s1, q1, q2, q3, ?_, by rw [put_size]; exact q5, by rw [put_def]; exact q6⟩
    rw [hd]
    exact FOk.put (s := s1) (F := F) q4 (by rw [q5]; exact Nat.blt_eq.mp ht) (hrec.mono hok q3)
  have h2 := hk _ _ hi2
  rw [show Cx.ρ ⟨N, none, Min.length, [], false⟩ s = none from rfl, ← wpOps_at] at h2
  obtain ⟨e, a', w', hq, harr⟩ := wp_opsIn _ _ _ h2 b [] ({ c0 with mode := (recV c0.mode).2 } :: cs) rfl trivial (wd_room _ _)
  refine ddef_fin (P := P) (b := b) hok hlen hf rfl rfl rfl hset hq (ArrivesIn.of_steps (.head (fenced_wide _ _) stepR_region_draw ?_) harr)
  rw [hL]
  refine StepsIn.trans hs1 (.one (fenced_wide _ _) ?_)
  exact step_rec (P := P) (b := b) (a := a1) (k := []) (c0 := c0) (cs := cs) (w := w1) (ops := ops) (i := r) (rest := L2) (o := o) rfl rfl hor hg ho

/-- a nil slice, as a row without elements -/
theorem rep_nils {s : St} {v : Value} (sz : Nat) (h : Rep s (.val (.slice none 0 0)) v) : Rep s (.slf sz 0 []) v := by
  cases h; exact .slf (by simp) (Nat.le_refl _) (Nat.zero_le _) (fun _ => rfl) (.inl rfl)
theorem evnil {pc : Bool} {F : Fr} {x : Operand} (sz : Nat) (h : Ev pc F x (.val (.slice none 0 0))) : Ev pc F x (.slf sz 0 []) := by
  obtain ⟨d, h1, h2⟩ := h
  exact ⟨d, h1, fun s v hp hr => rep_nils sz (h2 s v hp hr)⟩
theorem dwp_nils {P : Program} {s0 : St} {n : Cx} {c : Code} {F : Fr} {M : List Blk} {K : Cont} (t sz : Nat) (ht : lk F t = some (.val (.slice none 0 0))) (h : dwp P s0 n c ((t, .slf sz 0 []) :: F) M K) : dwp P s0 n c F M K := by
  intro a w ⟨h0, s, h1, h2, h3, h4, h5, h6⟩
  refine h a w ⟨h0, s, h1, h2, h3, fun t' d hd => ?_, h5, h6⟩
  rw [lk_cons] at hd
  split at hd
  · rename_i e
    subst e
    obtain rfl := Option.some.inj hd
    exact rep_nils sz (h4 t _ ht)
  · exact h4 t' d hd

section
variable {P : Program} {pc : Bool} {o : Oper} {F : Fr} {M : List Blk}
/-- an address in memory that stays is not nil -/
theorem op_pnilm {T T' e : TypeId} {x : Operand} {l : List D} (ho : o.op = .binOp .eql T x (.const (.pointer none)) T') (hT : ptT P T = some e) (hx : Ev pc F x (.dpm l)) : DOp P pc o F M [] (.val (.bool false)) [] := by
  intro hp a s hok hops _
  have hr := ev_at hp hx (by simp [ho, Op.operands]) hops
  generalize hv : a.eval x = vx at hr
  cases hr with
  | @dpm b q _ _ _ _ _ _ _ =>
    refine dg_val (v := .bool false) hok ?_ (.val _)
    unfold execOp
    simp only [ho, hv]
    refine run_v ?_
    have hc : a.eval (.const (.pointer none)) = .pointer none := rfl
    rw [hc]
    have hg : (eqGuard .eql T x (.const (.pointer none)) (.pointer (some ⟨b, q, none⟩)) (.pointer none)).run P s.w = .ok () s.w := by unfold eqGuard; rfl
    rw [Sem.run_bind, hg]
    have he := run_equal_pointer_nil (P := P) s.w T (some ⟨b, q, none⟩) (by rw [show P.pointee T = e by simp [Program.pointee, ptT_spec hT]]; exact ptT_spec hT)
    simp only [Result.andThen, binOp, Sem.run_bind, he]
    rfl
theorem op_fadm {f q : Nat} {T : TypeId} {x : Operand} {l : List D} (ho : o.op = .fieldAddr T x f) (hT : fdO P T f = some q) (hx : Ev pc F x (.dpm l)) : DOp P pc o F M [] (.dpm (l.drop q)) [] := by
  intro hp a s hok hops hfp
  have hr := ev_at hp hx (by simp [ho, Op.operands]) hops
  generalize hv : a.eval x = vx at hr
  cases hr with
  | @dpm b c _ vs hnl hI hc hl h =>
    refine dg_val hok (run_fieldAddr ho hT hv) (.dpm (vs := vs.drop q) (nlL_drop q hnl) hI (fun j v hj => ?_) (by simp [hl]) fun j d v hj hv => ?_)
    · rw [List.getElem?_drop] at hj
      rw [Nat.add_assoc]
      exact hc _ v hj
    · rw [List.getElem?_drop] at hj hv
      exact h _ d v hj hv
end
end Go.Proofs.Ytgomklemldldiaa
