/- Loops, contracts, the entry into a call, an operation, a call. No condition. -/
import Derived.Test.YtgomklemldldiaaLd
import Derived.RangeFuncLeaves
namespace Go.Proofs.Ytgomklemldldiaa
set_option linter.unusedVariables false
set_option linter.unusedSimpArgs false
open Go.RowKit

theorem vst_at {s : St} {σ : List Nat} {V : Nat → Bool} {M' : List Blk} (ho : Ok s) (hM : vwMs σ V s.M σ = some M') {j : Nat} {k' : Blk} {h : Value} (h1 : M'[j]? = some k') (h2 : (vst s σ V M').β[j]? = some h) :
    ∃ i k, σ[j]? = some i ∧ s.M[i]? = some k ∧ s.β[i]? = some h ∧ vwB σ V s.M k = some k' := by
  obtain ⟨_, hs⟩ := vwMs_spec σ M' hM
  obtain ⟨i, k, e1, e2, e3⟩ := hs j k' h1
  have hi : i < s.β.length := by rw [ho.len]; exact (List.getElem?_eq_some_iff.1 e2).1
  have e4 : s.β[i]? = some s.β[i] := List.getElem?_eq_getElem hi
  rw [vst_hnd e1 e4] at h2
  exact ⟨i, k, e1, e2, by rw [e4, h2], e3⟩

theorem nodup_at {σ : List Nat} (hn : σ.Nodup) {i j k : Nat} (h1 : σ[i]? = some k) (h2 : σ[j]? = some k) : i = j := by
  obtain ⟨a, b⟩ := List.getElem?_eq_some_iff.1 h1
  obtain ⟨c, d⟩ := List.getElem?_eq_some_iff.1 h2
  exact (List.getElem_inj hn).1 (b.trans d.symm)

theorem vst_live {s : St} {σ : List Nat} {V : Nat → Bool} {M' : List Blk} (ho : Ok s) (hM : vwMs σ V s.M σ = some M') {b : Nat} (h : Live (vst s σ V M') b) :
    ∃ (i : Nat) (k : Blk) (h : Value), i ∈ σ ∧ s.M[i]? = some k ∧ k.live = true ∧ s.β[i]? = some h ∧ owns k h b := by
  obtain ⟨j, k', x, h1, h2, h3, h4⟩ := h
  obtain ⟨i, k, e1, e2, e3, e4⟩ := vst_at ho hM h1 h3
  exact ⟨i, k, x, List.mem_of_getElem? e1, e2, by rw [← vwB_live e4]; exact h2, e3, (vwB_owns e4).1 h4⟩

theorem ok_vst {s : St} {σ : List Nat} {V : Nat → Bool} {M' : List Blk} (ho : Ok s) (hM : vwMs σ V s.M σ = some M') (hn : σ.Nodup) : Ok (vst s σ V M') := by
  have hlen := (vwMs_spec σ M' hM).1
  refine ⟨by simp [vst, hlen], fun j k' h h1 h2 => ?_, fun b hb => ?_, ?_, fun b hb => ?_⟩
  · obtain ⟨i, k, e1, e2, e3, e4⟩ := vst_at ho hM h1 h2
    have hk := ho.blk i k h e2 e3
    cases k with
    | gone => cases e4; trivial
    | hole => cases e4; exact hk
    | flat T L => cases e4; exact hk
    | arr T sz n L => cases e4; exact hk
    | mix T l =>
      simp only [vwB, Option.map_eq_some_iff] at e4
      obtain ⟨l', e4, rfl⟩ := e4
      obtain ⟨b, vs, q1, q2, q3, q4⟩ := hk
      obtain ⟨h1, h2⟩ := vwL_spec l l' e4
      refine ⟨b, vs, q1, q2, by omega, fun j d v hj hv => ?_⟩
      obtain ⟨x, hx, hx2⟩ := h2 j d hj
      exact vw_rep ho (q4 j x v hx hv) d hx2
    | arx T sz n l =>
      simp only [vwB, Option.map_eq_some_iff] at e4
      obtain ⟨l', e4, rfl⟩ := e4
      obtain ⟨vs, q2, q3, q4⟩ := hk
      obtain ⟨h1, h2⟩ := vwL_spec l l' e4
      refine ⟨vs, q2, by omega, fun j d v hj hv => ?_⟩
      obtain ⟨x, hx, hx2⟩ := h2 j d hj
      exact vw_rep ho (q4 j x v hx hv) d hx2
    | obj o => cases e4; exact hk
    | lp n F ps asg body st pe =>
      simp only [vwB, Option.map_eq_some_iff] at e4
      obtain ⟨F', e4, rfl⟩ := e4
      obtain ⟨b, fn, tmps, Df, q1, q2, q3, q4⟩ := hk
      refine ⟨b, fn, tmps, Df, q1, q2, q3, fun t d hd => ?_⟩
      obtain ⟨x, hx, hx2⟩ := vwF_spec F F' e4 t d hd
      exact vw_rep ho (q4 t x hx) d hx2
    | fam Bs => cases e4; exact hk
  · obtain ⟨i, k, x, e0, e1, e2, e3, e4⟩ := vst_live ho hM hb
    obtain ⟨g1, g2⟩ := ho.lt b (live_of e1 e2 e3 e4)
    refine ⟨g1, fun hI => ?_⟩
    rcases hI with hI | ⟨i', k', x', _, f1, f2, f3, f4, f5⟩
    · exact g2 hI
    · have := ho.inj i i' k k' x x' b e1 e2 e3 e4 f2 f3 f4 f5
      subst this
      exact f1 e0
  · intro j1 j2 k1 k2 x1 x2 b a1 a2 a3 a4 b1 b2 b3 b4
    obtain ⟨i1, m1, c1, c2, c3, c4⟩ := vst_at ho hM a1 a3
    obtain ⟨i2, m2, d1, d2, d3, d4⟩ := vst_at ho hM b1 b3
    have := ho.inj i1 i2 m1 m2 x1 x2 b c2 (by rw [← vwB_live c4]; exact a2) c3 ((vwB_owns c4).1 a4) d2 (by rw [← vwB_live d4]; exact b2) d3 ((vwB_owns d4).1 b4)
    subst this
    exact nodup_at hn c1 d1
  · rcases hb with hb | ⟨i', k', x', _, f1, f2, f3, f4, f5⟩
    · exact ho.il b hb
    · exact (ho.lt b (live_of f2 f3 f4 f5)).1

/-- the names below m stay, and no name comes twice -/
def okσ (m : Nat) (σ : List Nat) : Bool := (List.range m).all (fun i => σ[i]? == some i) && decide σ.Nodup
theorem okσ_at {m : Nat} {σ : List Nat} (h : okσ m σ = true) {i : Nat} (hi : i < m) : σ[i]? = some i := by
  simp only [okσ, Bool.and_eq_true, decide_eq_true_eq, List.all_eq_true, List.mem_range, beq_iff_eq] at h
  exact h.1 i hi
theorem pos_at : ∀ (σ : List Nat) (i j : Nat), σ.Nodup → σ[j]? = some i → pos σ i = some j
  | [], _, _, _, h => by simp at h
  | k :: r, i, 0, _, h => by simp at h; subst h; unfold pos; simp
  | k :: r, i, j + 1, hn, h => by
    obtain ⟨h1, h2⟩ := List.nodup_cons.1 hn
    simp at h
    unfold pos
    have : Nat.beq k i = false := by
      cases e : Nat.beq k i with
      | false => rfl
      | true => exact absurd (Nat.eq_of_beq_eq_true e ▸ List.mem_of_getElem? h) h1
    rw [this, cond_false, pos_at r i j h2 h]
    rfl

mutual
/-- its names are below k -/
def D.lt (k : Nat) : D → Bool
  | .val _ => true
  | .loc i _ => Nat.blt i k
  | .arr i => Nat.blt i k
  | .aloc i _ => Nat.blt i k
  | .own i _ _ _ => Nat.blt i k
  | .dpf _ => true
  | .slf _ _ _ => true
  | .slc _ _ _ => true
  | .tup l => D.ltL k l
  | .agg l => D.ltL k l
  | .dpm _ => true
  | .slm _ _ _ => true
  | .fn _ a b => D.ltL k a && D.ltL k b
  | .ifc _ d => d.lt k
  | .opt _ d => d.lt k
  | .hnd i => Nat.blt i k
  | .yld i => Nat.blt i k
  | .floc i _ _ => Nat.blt i k
  | .farr i _ => Nat.blt i k
  | .faloc i _ _ => Nat.blt i k
  | .junk => true
def D.ltL (k : Nat) : List D → Bool
  | [] => true
  | d :: l => d.lt k && D.ltL k l
end
mutual
theorem vw_lt {k : Nat} {σ : List Nat} {V : Nat → Bool} {M : List Blk} (h : okσ k σ = true) : ∀ (d : D), d.lt k = true → vw σ V M d = some d
  | .val _, _ => by unfold vw; rfl
  | .loc i o, e => by unfold vw; rw [pos_lt h (by simpa [D.lt] using e)]
  | .arr i, e => by unfold vw; rw [pos_lt h (by simpa [D.lt] using e)]
  | .aloc i o, e => by unfold vw; rw [pos_lt h (by simpa [D.lt] using e)]
  | .own i _ _ _, e => by unfold vw; rw [pos_lt h (by simpa [D.lt] using e)]
  | .dpf _, _ => by unfold vw; rfl
  | .slf _ _ _, _ => by unfold vw; rfl
  | .slc _ _ _, _ => by unfold vw; rfl
  | .tup l, e => by unfold vw; rw [vwL_lt h l (by simpa [D.lt] using e)]; rfl
  | .agg l, e => by unfold vw; rw [vwL_lt h l (by simpa [D.lt] using e)]; rfl
  | .dpm _, _ => by unfold vw; rfl
  | .slm _ _ _, _ => by unfold vw; rfl
  | .fn _ a b, e => by
    have e2 : D.ltL k a = true ∧ D.ltL k b = true := by simpa [D.lt] using e
    unfold vw; rw [vwL_lt h a e2.1, vwL_lt h b e2.2]
  | .ifc _ d, e => by unfold vw; rw [vw_lt h d (by simpa [D.lt] using e)]; rfl
  | .opt _ d, e => by unfold vw; rw [vw_lt h d (by simpa [D.lt] using e)]; rfl
  | .hnd i, e => by unfold vw; rw [pos_lt h (by simpa [D.lt] using e)]
  | .yld i, e => by unfold vw; rw [pos_lt h (by simpa [D.lt] using e)]
  | .floc i _ _, e => by unfold vw; rw [pos_lt h (by simpa [D.lt] using e)]
  | .farr i _, e => by unfold vw; rw [pos_lt h (by simpa [D.lt] using e)]
  | .faloc i _ _, e => by unfold vw; rw [pos_lt h (by simpa [D.lt] using e)]
  | .junk, _ => by unfold vw; rfl
theorem vwL_lt {k : Nat} {σ : List Nat} {V : Nat → Bool} {M : List Blk} (h : okσ k σ = true) : ∀ (l : List D), D.ltL k l = true → vwL σ V M l = some l
  | [], _ => by unfold vwL; rfl
  | d :: l, e => by
    have e2 : d.lt k = true ∧ D.ltL k l = true := by simpa [D.ltL] using e
    unfold vwL; rw [vw_lt h d e2.1, vwL_lt h l e2.2]
theorem pos_lt {k : Nat} {σ : List Nat} (h : okσ k σ = true) {i : Nat} (hi : i < k) : pos σ i = some i := by
  have h2 := okσ_at h hi
  simp only [okσ, Bool.and_eq_true, decide_eq_true_eq] at h
  exact pos_at σ i i h.2 h2
end

theorem tr_vst {s0 s : St} {σ : List Nat} {V : Nat → Bool} {M' : List Blk} (h0 : Ok s0) (t : Tr s0 s) (hM : vwMs σ V s.M σ = some M') {m : Nat} (hm : s0.M.length ≤ m) (hσ : okσ m σ = true) : Tr s0 (vst s σ V M') := by
  simp only [okσ, Bool.and_eq_true, decide_eq_true_eq, List.all_eq_true, List.mem_range, beq_iff_eq] at hσ
  have ho := t.ok
  refine ⟨ok_vst ho hM hσ.2, ⟨fun i h hi hne ht => ?_, fun i hs hi => ?_⟩, fun b hb => .inl (t.up b hb), fun b hb => ?_, t.keep, fun b hb => ?_, t.os, t.tape, t.output, t.size⟩
  · exact vst_hnd (hσ.1 i (Nat.lt_of_lt_of_le (by rw [← h0.len]; exact (List.getElem?_eq_some_iff.1 hi).1) hm)) (t.hnd.1 i h hi hne ht)
  · obtain ⟨hs', q1, q2⟩ := t.hnd.2 i hs hi
    exact ⟨hs', vst_hnd (hσ.1 i (Nat.lt_of_lt_of_le (by rw [← h0.len]; exact (List.getElem?_eq_some_iff.1 hi).1) hm)) q1, q2⟩
  · rcases hb with hb | ⟨i', k', x', _, f1, f2, f3, f4, f5⟩
    · exact t.new b hb
    · exact .inr (t.lv b (live_of f2 f3 f4 f5))
  · obtain ⟨i, k, x, _, e1, e2, e3, e4⟩ := vst_live ho hM hb
    exact t.lv b (live_of e1 e2 e3 e4)

def nov : Nat → Bool := fun _ => false
def allv : Nat → Bool := fun _ => true

/-- slot by slot -/
def Fits (F' : Fr) (σ : List Nat) (M' : List Blk) : Fr → Prop
  | [] => True
  | (t, d) :: r => (lk F' t).bind (vw σ nov M') = some d ∧ Fits F' σ M' r
def MFits (σ : List Nat) (V : Nat → Bool) (M : List Blk) : List Nat → List Blk → Prop
  | [], [] => True
  | i :: r, k :: ks => (M[i]?).bind (vwB σ V M) = some k ∧ MFits σ V M r ks
  | _, _ => False
theorem mfits {σ : List Nat} {V : Nat → Bool} {M : List Blk} : ∀ (τ : List Nat) (M' : List Blk), MFits σ V M τ M' → vwMs σ V M τ = some M'
  | [], [], _ => rfl
  | i :: r, k :: ks, h => by
    obtain ⟨h1, h2⟩ := h
    rw [Option.bind_eq_some_iff] at h1
    obtain ⟨x, e1, e2⟩ := h1
    unfold vwMs
    rw [e1, mfits r ks h2]
    simp [e2]
  | [], _ :: _, h => by cases h
  | _ :: _, [], h => by cases h
theorem fits_lk {F' : Fr} {σ : List Nat} {M' : List Blk} : ∀ (F : Fr), Fits F' σ M' F → ∀ t d, lk F t = some d → ∃ d', lk F' t = some d' ∧ vw σ nov M' d' = some d
  | [], _, t, d, h => by cases h
  | (k, x) :: r, h, t, d, hd => by
    rw [lk_cons] at hd
    split at hd
    · rename_i e
      subst e
      obtain rfl := Option.some.inj hd
      simpa [Option.bind_eq_some_iff] using h.1
    · exact fits_lk r h.2 t d hd

theorem dfok_vst {s0 s : St} {mk : Bool} {σ : List Nat} {V : Nat → Bool} {M' : List Blk} {k : Nat} (ho : Ok s) (hM : vwMs σ V s.M σ = some M') (hσ : okσ k σ = true) {U : List D} {ds : List Deferred} (h : DfOk s0 s mk U ds) : D.ltL k U = true → DfOk s0 (vst s σ V M') mk U ds := by
  induction h with
  | nil => intro _; exact .nil
  | mark hmk h hI hl h0 hd _ ih =>
    intro e
    refine .mark hmk h (fun hI' => ?_) (fun hl' => ?_) h0 hd (ih e)
    · rcases hI' with q | ⟨i, k, h, _, _, f1, f2, f3, f4⟩
      · exact hI q
      · exact hl (live_of f1 f2 f3 f4)
    · obtain ⟨i, k, x, _, e1, e2, e3, e4⟩ := vst_live ho hM hl'
      exact hl (live_of e1 e2 e3 e4)
  | fn h _ ih =>
    intro e
    simp only [D.ltL, Bool.and_eq_true] at e
    exact .fn (vw_rep ho h _ (vw_lt hσ _ e.1)) (ih e.2)

/-- a state from which an activation goes -/
structure Gs (s0 : St) (c : Cx) : Prop where
  le : s0.M.length ≤ c.k
  lt : D.ltL c.k c.U = true

theorem inv_ren {s0 : St} {n : Cx} {F F' : Fr} {M M' : List Blk} {a : Act} {w : World} {σ : List Nat} (h : Inv s0 n F' M' a w) (hg : Gs s0 n) (hσ : okσ n.k σ = true) (hF : Fits F' σ M' F) (hM : MFits σ nov M' σ M) : Inv s0 n F M a w := by
  obtain ⟨h0, s, h1, h2, h3, h4, h5, h6⟩ := h
  have hMs := mfits σ M hM
  subst h1
  refine ⟨h0, vst s σ nov M, rfl, h2, tr_vst h0 h3 hMs hg.le hσ, fun t d hd => ?_, h5, dfok_vst h3.ok hMs hσ h6 hg.lt⟩
  obtain ⟨d', e1, e2⟩ := fits_lk F hF t d hd
  exact vw_rep h3.ok (h4 t d' e1) d e2

section
variable {P : Program} {s0 : St} {n : Cx}

/-- the loop goes on, in the state y -/
def Again {α : Type} (m : Nat) (J : α → Fr) (JM : α → List Blk) (Pr : α → Prop) (μ : α → Nat) (x : α) (F' : Fr) (M' : List Blk) : Prop :=
  ∃ (y : α) (σ : List Nat), Pr y ∧ μ y < μ x ∧ okσ m σ = true ∧ Fits F' σ M' (J y) ∧ MFits σ nov M' σ (JM y)

theorem dwp_loop {α : Type} {c : Code} {F : Fr} {M : List Blk} {K : Cont} (hg : Gs s0 n) (J : α → Fr) (JM : α → List Blk) (Pr : α → Prop) (μ : α → Nat) (x0 : α) (σ0 : List Nat) (h0 : Pr x0)
    (hσ0 : okσ n.k σ0 = true) (hF0 : Fits F σ0 M (J x0)) (hM0 : MFits σ0 nov M σ0 (JM x0))
    (round : ∀ x, Pr x → dwp P s0 n c (J x) (JM x) (Kseq (Again n.k J JM Pr μ x) K)) : dwp P s0 n (.loop c) F M K := by
  refine dwp_loop_inv J JM Pr μ x0 h0 (fun a w hi => inv_ren hi hg hσ0 hF0 hM0) fun x hx => dwp_mono (round x hx) ?_
  intro e F' M' hk
  cases e with
  | normal => obtain ⟨y, σ, h1, h2, h3, h4, h5⟩ := hk; exact ⟨y, h1, h2, fun a w hi => inv_ren hi hg h3 h4 h5⟩
  | exit id => exact hk
  | goto l => exact hk
  | ret => exact hk
  | panic d => exact hk

/-- other names, fewer slots and blocks -/
theorem dwp_ren {c : Code} {F F' : Fr} {M M' : List Blk} {K : Cont} (hg : Gs s0 n) (σ : List Nat) (F : Fr) (M : List Blk) (hσ : okσ n.k σ = true) (hF : Fits F' σ M' F) (hM : MFits σ nov M' σ M)
    (h : dwp P s0 n c F M K) : dwp P s0 n c F' M' K := fun a w hi => h a w (inv_ren hi hg hσ hF hM)

def Reps (s : St) (ds : List D) (vs : List Value) : Prop := vs.length = ds.length ∧ ∀ (j : Nat) d v, ds[j]? = some d → vs[j]? = some v → Rep s d v

/-- a function with a body -/
def callB (P : Program) (f : FuncId) : Bool := match P.funcs[f]? with
  | some fn => fn.body.isSome && !(fn.name == "runtime.NumGoroutine")
  | none => false
theorem run_callFunc {f : FuncId} (h : callB P f = true) (args : Array Value) (w : World) : (callFunc f args).run P w = .ok (.enter f args) w := by
  unfold callB at h
  split at h
  · rename_i fn hf
    simp only [Bool.and_eq_true, Bool.not_eq_true'] at h
    unfold callFunc
    have h2 : ¬ fn.name = "runtime.NumGoroutine" := by simpa using h.2
    simp [program, Sem.run, hf, h2, Sem.bind, bind, pure, Option.isSome_iff_ne_none.1 h.1]
  · cases h

/-- a contract -/
def DCalls (P : Program) (f : FuncId) (args : List D) (Min : List Blk) (post pan : D → List Blk → Prop) : Prop :=
  callB P f = true ∧ ∀ (s : St) (vs : List Value), Ok s → s.M = Min → Reps s args vs → Calls P f vs.toArray s.w fun e w' =>
    ∃ s', s'.w = w' ∧ Tr s s' ∧ ((∃ d v, e = .returned v ∧ Rep s' d v ∧ post d s'.M) ∨ (∃ d v, e = .panicked [{ v := v, recovered := false }] ∧ Rep s' d v ∧ pan d s'.M))
/-- it returns this, and leaves its memory so -/
def DFun (P : Program) (f : FuncId) (args : List D) (Min : List Blk) (d : D) (Mout : List Blk) : Prop :=
  DCalls P f args Min (fun d' M' => d' = d ∧ M' = Mout) (fun _ _ => False)

/-- what a function's results read as -/
def ResD (P : Program) (fn : Func) (F : Fr) (M : List Blk) (d : D) : Prop := ∀ (s : St) (a : Act), Ok s → s.M = M → FOk s F a → ∃ v, (results fn a.tmps).run P s.w = .ok v s.w ∧ Rep s d v
theorem res_none {fn : Func} {F : Fr} {M : List Blk} (h : fn.results = #[]) : ResD P fn F M (.tup []) := fun s a _ _ _ => ⟨_, results_none h _ _ _, Rep.tup (vs := []) rfl fun j d v hj => by simp at hj⟩
theorem res_one {fn : Func} {F : Fr} {M : List Blk} {t : Tmp} {d : D} (h : fn.results = #[.tmp t]) (hd : lk F t = some d) : ResD P fn F M d := fun s a _ _ hF => ⟨_, results_tmp h _ _ _, hF t d hd⟩

/-- a function that is deferred: how it is called, in a panic or not; how it leaves that -/
def ModeOk (s : St) (pn : Option D) (u : FrameMode) : Prop :=
  match pn with
  | none => u = .returning
  | some d => ∃ v, u = .panicking [{ v := v, recovered := false }] ∧ Rep s d v
def DDef (P : Program) (f : FuncId) (args : List D) (Min : List Blk) (pn pn' : Option D) (Mout : List Blk) : Prop :=
  callB P f = true ∧ ∀ (s : St) (vs : List Value) (u : FrameMode), Ok s → s.M = Min → Reps s args vs → ModeOk s pn u → CallsDIn Fence.wide 0 P f vs.toArray u s.w fun e u' w' =>
    ∃ s' v, e = .returned v ∧ s'.w = w' ∧ Tr s s' ∧ s'.M = Mout ∧ ModeOk s' pn' (settle u')

/-- what is left of it, from a state -/
def Lv (s0 : St) (post pan : D → List Blk → Prop) : Ending → World → Prop := fun e w' => ∃ s', s'.w = w' ∧ Tr s0 s' ∧ ((∃ d v, e = .returned v ∧ Rep s' d v ∧ post d s'.M) ∨ (∃ d v, e = .panicked [{ v := v, recovered := false }] ∧ Rep s' d v ∧ pan d s'.M))

/-- a deferred call's turn of memory, whatever state it is from: M and a panic, or none, become others -/
def DTurn (P : Program) (f : FuncId) (first caps : List D) (pn : Option D) (M : List Blk) (pn' : Option D) (M' : List Blk) : Prop :=
  callB P f = true ∧ ∀ (s : St) (vs us : List Value) (u : FrameMode), Ok s → s.M = M → Rep s (.fn (.func f) first caps) (.func (.func f) vs.toArray us.toArray) → ModeOk s pn u → CallsDIn Fence.wide 0 P f (vs ++ us).toArray u s.w fun e u' w' =>
    ∃ s' v, e = .returned v ∧ s'.w = w' ∧ Tr s s' ∧ s'.M = M' ∧ ModeOk s' pn' (settle u')

inductive DEnd (P : Program) (fn : Func) (m : Nat) (post pan : D → List Blk → Prop) : List D → Option D → Fr → List Blk → Prop
  | ret {F : Fr} {M Mo : List Blk} {d d' : D} {σ : List Nat} (hr : ResD P fn F M d) (hσ : okσ m σ = true) (hv : vw σ allv M d = some d') (hM : MFits σ allv M σ Mo) (hp : post d' Mo) : DEnd P fn m post pan [] none F M
  | pan {F : Fr} {M Mo : List Blk} {d d' : D} {σ : List Nat} (hσ : okσ m σ = true) (hv : vw σ allv M d = some d') (hM : MFits σ allv M σ Mo) (hp : pan d' Mo) : DEnd P fn m post pan [] (some d) F M
  | fn {f : FuncId} {first caps U : List D} {pn pn' : Option D} {F : Fr} {M M' : List Blk} (h : DTurn P f first caps pn M pn' M') (r : DEnd P fn m post pan U pn' F M') : DEnd P fn m post pan (.fn (.func f) first caps :: U) pn F M

/-- how a body must leave -/
def Kret (P : Program) (fn : Func) (m : Nat) (U : List D) (post pan : D → List Blk → Prop) : Cont
  | .normal, F, M => DEnd P fn m post pan U none F M
  | .ret, F, M => DEnd P fn m post pan U none F M
  | .panic d, F, M => DEnd P fn m post pan U (some d) F M
  | _, _, _ => False

theorem ok_shut {s : St} (ho : Ok s) {b : Nat} {o : Obj} (hI : ¬ s.I b) (hl : ¬ Live s b) : Ok ⟨s.β, s.I, s.M, s.w.putObj b o⟩ := by
  refine ⟨ho.len, fun i k h h1 h2 => ?_, fun c hc => ?_, ho.inj, fun c hc => by simpa using ho.il c hc⟩
  · exact BlkOk.mono (s := s) (s' := ⟨s.β, s.I, s.M, s.w.putObj b o⟩) (fun _ _ h _ => h) (fun _ h => h) (fun c hc => World.putObj_heap_other (fun e => hI (e ▸ hc))) (ho.blk i k h h1 h2) fun c hk hb => World.putObj_heap_other (fun e => hl (e ▸ live_of h1 hk h2 hb))
  · have := ho.lt c hc
    exact ⟨by simpa using this.1, this.2⟩
theorem tr_shut {s0 s : St} (t : Tr s0 s) {b : Nat} {o : Obj} (hI : ¬ s.I b) (hl : ¬ Live s b) (h0 : s0.w.heap.size ≤ b) : Tr s0 ⟨s.β, s.I, s.M, s.w.putObj b o⟩ := by
  refine ⟨ok_shut t.ok hI hl, t.hnd, t.up, t.new, fun c hc hn => ?_, t.lv, t.os, t.tape, t.output, ?_⟩
  · exact (World.putObj_heap_other (by omega)).trans (t.keep c hc hn)
  · show s0.w.heap.size ≤ (s.w.putObj b o).heap.size
    simpa using t.size
theorem rep_shut {s : St} {b : Nat} {o : Obj} (hI : ¬ s.I b) {d : D} {v : Value} (h : Rep s d v) : Rep ⟨s.β, s.I, s.M, s.w.putObj b o⟩ d v :=
  Rep.mono' (s := s) (s' := ⟨s.β, s.I, s.M, s.w.putObj b o⟩) (fun _ _ h _ => h) (fun _ h => h) (fun c hc => World.putObj_heap_other (fun e => hI (by rw [← e]; exact hc))) h
theorem dfok_shut {s0 s : St} {mk : Bool} {b : Nat} {o : Obj} (hI : ¬ s.I b) {U : List D} {ds : List Deferred} (h : DfOk s0 s mk U ds) : (∀ d ∈ ds, d.target ≠ .collected b) → DfOk s0 ⟨s.β, s.I, s.M, s.w.putObj b o⟩ mk U ds := by
  induction h with
  | nil => intro _; exact .nil
  | @mark U ds c hmk h hI' hl h0 hd _ ih =>
    intro e
    refine .mark hmk ((World.putObj_heap_other fun q => ?_).trans h) hI' hl h0 hd (ih fun d hd => e d (List.mem_cons_of_mem _ hd))
    subst q
    exact e _ (List.mem_cons_self ..) rfl
  | fn h _ ih => intro e; exact .fn (rep_shut hI h) (ih fun d hd => e d (List.mem_cons_of_mem _ hd))

theorem leaves {mk : Bool} {fn : Func} {post pan : D → List Blk → Prop} {m : Nat} (h0 : Ok s0) (hle : s0.M.length ≤ m) (a : Act) : ∀ (ds : List Deferred) (U : List D) (pn : Option D) (F : Fr) (s : St) (u : FrameMode), DfOk s0 s mk U ds → Tr s0 s → FOk s F a → ModeOk s pn u → DEnd P fn m post pan U pn F s.M →
    LeavesInM Fence.wide 0 P fn a.tmps (Lv s0 post pan) ds u s.w := by
  intro ds
  induction ds with
  | nil =>
    intro U pn F s u hd ht hF hm he
    cases hd with
    | nil =>
      cases he with
      | @ret F M Mo d d' σ hr hσ hv hM hp =>
        obtain rfl : u = .returning := hm
        obtain ⟨v, h1, h2⟩ := hr s a ht.ok rfl hF
        exact ⟨v, h1, vst s σ allv Mo, rfl, tr_vst h0 ht (mfits σ Mo hM) hle hσ, .inl ⟨d', v, rfl, vw_rep ht.ok h2 d' hv, hp⟩⟩
      | @pan F M Mo d d' σ hσ hv hM hp =>
        obtain ⟨v, rfl, h2⟩ := hm
        exact ⟨vst s σ allv Mo, rfl, tr_vst h0 ht (mfits σ Mo hM) hle hσ, .inr ⟨d', v, rfl, vw_rep ht.ok h2 d' hv, hp⟩⟩
  | cons x ds ih =>
    intro U pn F s u hd ht hF hm he
    have hrun : u ≠ .run := by
      cases pn with
      | none => obtain rfl : u = .returning := hm; simp
      | some d => obtain ⟨v, rfl, _⟩ := hm; simp
    cases hd with
    | @mark _ _ b hmk h hI hl hb hne r =>
      refine ⟨hrun, .inl ⟨b, s.w.putObj b (.deferred none), rfl, run_takeDeferred h, ?_⟩⟩
      refine ih U pn F ⟨s.β, s.I, s.M, s.w.putObj b (.deferred none)⟩ u (dfok_shut hI r hne) (tr_shut ht hI hl hb) (fun t d hd => rep_shut hI (hF t d hd)) ?_ he
      cases pn with
      | none => exact hm
      | some d => obtain ⟨v, h1, h2⟩ := hm; exact ⟨v, h1, rep_shut hI h2⟩
    | @fn f first caps vs us U ds h r =>
      cases he with
      | @fn _ _ _ _ _ pn' _ M M' hturn he =>
        obtain ⟨hcb, hturn⟩ := hturn
        refine ⟨hrun, .inr ⟨(fun h => by cases h), .func f, us.toArray, f, (vs ++ us).toArray, rfl, ?_, fun _ _ => trivial, ?_⟩⟩
        · have := run_callFunc hcb (vs ++ us).toArray s.w
          simpa [invoke] using this
        · refine CallsDIn.mono (hturn s vs us u ht.ok rfl h hm) ?_
          rintro e u' w' ⟨s', v, rfl, rfl, ht', rfl, hm'⟩
          exact ih U pn' F s' _ (r.mono ht.ok ht') (ht.trans ht') (hF.mono ht.ok ht') hm' he

/-- the arguments in their slots -/
def fr0 : Nat → List D → Fr
  | _, [] => []
  | k, d :: l => (k, d) :: fr0 (k + 1) l
theorem fr0_lk : ∀ (l : List D) (k t : Nat) (d : D), lk (fr0 k l) t = some d → k ≤ t ∧ l[t - k]? = some d
  | [], k, t, d, h => by cases h
  | x :: l, k, t, d, h => by
    rw [fr0, lk_cons] at h
    split at h
    · rename_i e; subst e; simpa using h
    · obtain ⟨h1, h2⟩ := fr0_lk l (k + 1) t d h
      refine ⟨by omega, ?_⟩
      rw [show t - k = (t - (k + 1)) + 1 by omega]
      simpa using h2

theorem wp_body {fn : Func} {c : Code} {F : Fr} {M : List Blk} {m : Nat} {post pan : D → List Blk → Prop} (hr : n.r = none) (hle : s0.M.length ≤ m) (h : dwp P s0 n c F M (Kret P fn m n.U post pan)) {a : Act} {w : World} (hi : Inv s0 n F M a w) :
    c.wpIn Fence.wide 0 P (bodyPostM Fence.wide 0 P fn (Lv s0 post pan)) a w := by
  have h1 := h a w hi
  have : n.ρ s0 = none := by unfold Cx.ρ; rw [hr]
  rw [this] at h1
  refine wpIn_mono h1 ?_
  intro e a w hp
  cases e with
  | normal => obtain ⟨F, M, ⟨h0, s1, q1, q2, q3, q4, q5, q6⟩, hk⟩ := hp; subst q1 q2; exact leaves h0 hle a _ _ none _ _ _ q6 q3 q4 rfl hk
  | ret => obtain ⟨F, M, ⟨h0, s1, q1, q2, q3, q4, q5, q6⟩, hk⟩ := hp; subst q1 q2; exact leaves h0 hle a _ _ none _ _ _ q6 q3 q4 rfl hk
  | exit id => obtain ⟨_, _, _, hk⟩ := hp; exact hk
  | goto l => obtain ⟨_, _, _, hk⟩ := hp; exact hk
  | panic ch => obtain ⟨F, M, d, ⟨h0, s1, v, q1, q2, q3, q4, q5, q6, q7, q8⟩, hk⟩ := hp; subst q1 q2 q7; exact leaves h0 hle a _ _ (some d) _ _ _ q6 q3 q4 ⟨v, rfl, q8⟩ hk
  | outgrown => exact hp.elim

/-- a function's body, from a state -/
def dbody (P : Program) (s0 : St) (n : Cx) (fn : Func) (m : Nat) (post pan : D → List Blk → Prop) (c : Code) (F : Fr) (M : List Blk) : Prop :=
  ∀ a w, Inv s0 n F M a w → c.wpIn Fence.wide 0 P (bodyPostM Fence.wide 0 P fn (Lv s0 post pan)) a w
theorem dbody_end {fn : Func} {c : Code} {F : Fr} {M : List Blk} {m : Nat} {post pan : D → List Blk → Prop} (hr : n.r = none) (hle : s0.M.length ≤ m) (h : dwp P s0 n c F M (Kret P fn m n.U post pan)) : dbody P s0 n fn m post pan c F M :=
  fun _ _ hi => wp_body hr hle h hi
theorem dbody_seq {fn : Func} {x y : Code} {F : Fr} {M : List Blk} {m : Nat} {post pan : D → List Blk → Prop} (hr : n.r = none) (hle : s0.M.length ≤ m) (h : dwp P s0 n x F M (Kseq (fun F M => dbody P s0 n fn m post pan y F M) (Kret P fn m n.U post pan))) : dbody P s0 n fn m post pan (.seq x y) F M := by
  intro a w hi
  have h1 := h a w hi
  have : n.ρ s0 = none := by unfold Cx.ρ; rw [hr]
  rw [this] at h1
  refine wpIn_seq (wpIn_mono h1 ?_)
  intro e a w hp
  cases e with
  | normal => obtain ⟨F, M, hi, hk⟩ := hp; exact hk a w hi
  | ret => obtain ⟨F, M, ⟨h0, s1, q1, q2, q3, q4, q5, q6⟩, hk⟩ := hp; subst q1 q2; exact leaves h0 hle a _ _ none _ _ _ q6 q3 q4 rfl hk
  | exit id => obtain ⟨_, _, _, hk⟩ := hp; exact hk.elim
  | goto l => obtain ⟨_, _, _, hk⟩ := hp; exact hk.elim
  | panic ch => obtain ⟨F, M, d, ⟨h0, s1, v, q1, q2, q3, q4, q5, q6, q7, q8⟩, hk⟩ := hp; subst q1 q2 q7; exact leaves h0 hle a _ _ (some d) _ _ _ q6 q3 q4 ⟨v, rfl, q8⟩ hk
  | outgrown => exact hp.elim

theorem dcalls_body {f : FuncId} {fn : Func} {c : Code} {args : List D} {F0 : Fr} {Min : List Blk} {post pan : D → List Blk → Prop} {N : Nat} (m : Nat) (hcb : callB P f = true) (hf : P.funcs[f]? = some fn) (hc : fn.body = some c) (hn : fn.ntmps = N) (hle : Nat.ble args.length N = true) (hF : fr0 0 args = F0) (hm : Min.length = m)
    (h : ∀ s0 : St, s0.M.length ≤ m → dbody P s0 ⟨N, none, m, [], true⟩ fn m post pan c F0 Min) : DCalls P f args Min post pan := by
  subst hF hm
  refine ⟨hcb, ?_⟩
  intro s vs ho hM hr
  obtain ⟨hl, hr⟩ := hr
  have hle := Nat.le_of_ble_eq_true hle
  have hslot : ∀ t d, lk (fr0 0 args) t = some d → Rep s d (slot { tmps := vs.toArray ++ Array.replicate (fn.ntmps - vs.toArray.size) undef, defers := [] } t) := by
    intro t d hd
    obtain ⟨_, h2⟩ := fr0_lk args 0 t d hd
    simp only [Nat.sub_zero] at h2
    have hlt : t < args.length := (List.getElem?_eq_some_iff.1 h2).1
    have hv : vs[t]? = some vs[t] := List.getElem?_eq_getElem (by omega)
    have : slot { tmps := vs.toArray ++ Array.replicate (fn.ntmps - vs.toArray.size) undef, defers := [] } t = vs[t] := by
      unfold slot
      simp only [Array.getD_eq_getD_getElem?]
      rw [Array.getElem?_append_left (by simp; omega)]
      simp [show t < vs.length by omega]
    rw [this]
    exact hr t d _ h2 hv
  refine callsIn_wide.1 (callsIn_of_wp_marks (F := Fence.wide) (n := 0) hf hc trivial (h s (by rw [hM]; exact Nat.le_refl _) _ _ ⟨ho, s, hM, rfl, Tr.refl ho, hslot, ?_, .nil⟩))
  simp; omega
theorem dcalls_go {f : FuncId} {fn : Func} {c : Code} {args : List D} {F0 : Fr} {Min : List Blk} {post pan : D → List Blk → Prop} {N : Nat} (m : Nat) (hcb : callB P f = true) (hf : P.funcs[f]? = some fn) (hc : fn.body = some c) (hn : fn.ntmps = N) (hle : Nat.ble args.length N = true) (hF : fr0 0 args = F0) (hm : Min.length = m)
    (h : ∀ s0 : St, s0.M.length ≤ m → dwp P s0 ⟨N, none, m, [], true⟩ c F0 Min (Kret P fn m [] post pan)) : DCalls P f args Min post pan :=
  dcalls_body m hcb hf hc hn hle hF hm fun s0 hs => dbody_end rfl hs (h s0 hs)

end
end Go.Proofs.Ytgomklemldldiaa
