/- Frames as data, and the rules of control. No condition. -/
import Derived.Test.YtgomklemldldiaaLb
import Derived.RangeFuncRecord
namespace Go.Proofs.Ytgomklemldldiaa
set_option linter.unusedVariables false
set_option linter.unusedSimpArgs false
open Go.RowKit

abbrev Fr := List (Nat × D)
theorem lk_cons (k : Nat) (d : D) (r : Fr) (t : Nat) : lk ((k, d) :: r) t = if k = t then some d else lk r t := by
  show (bif Nat.beq k t then some d else lk r t) = _
  by_cases h : k = t
  · subst h; simp
  · rw [if_neg h]
    have : Nat.beq k t = false := by
      cases e : Nat.beq k t
      · rfl
      · exact absurd (Nat.eq_of_beq_eq_true e) h
    rw [this]; rfl

def slot (a : Act) (t : Tmp) : Value := a.tmps.getD t undef
theorem slot_put (a : Act) (d t : Tmp) (v : Value) : slot (a.put (some d) v) t = if t = d ∧ d < a.tmps.size then v else slot a t := by
  unfold slot Act.put
  simp only [Array.getD_eq_getD_getElem?, Array.getElem?_setIfInBounds]
  by_cases h : d = t
  · subst h
    by_cases h2 : d < a.tmps.size
    · simp [h2]
    · simp [h2]
  · simp [h, Ne.symm h]
theorem put_size (a : Act) (d : Option Tmp) (v : Value) : (a.put d v).tmps.size = a.tmps.size := by cases d <;> simp [Act.put]
theorem put_def (a : Act) (d : Option Tmp) (v : Value) : (a.put d v).defers = a.defers := by cases d <;> rfl

def FOk (s : St) (F : Fr) (a : Act) : Prop := ∀ t d, lk F t = some d → Rep s d (slot a t)
theorem FOk.mono {s s' : St} {F : Fr} {a : Act} (h : FOk s F a) (ho : Ok s) (t : Tr s s') : FOk s' F a := fun x d hd => (h x d hd).mono ho t
theorem FOk.put {s : St} {F : Fr} {a : Act} (h : FOk s F a) {t : Tmp} (ht : t < a.tmps.size) {d : D} {v : Value} (hd : Rep s d v) : FOk s ((t, d) :: F) (a.put (some t) v) := by
  intro x e hx
  rw [lk_cons] at hx
  rw [slot_put]
  by_cases hxt : t = x
  · subst hxt
    rw [if_pos rfl] at hx
    rw [if_pos ⟨rfl, ht⟩]
    obtain rfl := Option.some.inj hx
    exact hd
  · rw [if_neg hxt] at hx
    rw [if_neg (fun q => hxt q.1.symm)]
    exact h x e hx

/-- what an activation is in: how many slots; the loop whose round it is; how many names are fixed; what it has deferred -/
structure Cx where
  n : Nat
  r : Option Nat := none
  k : Nat
  U : List D := []
  mks : Bool := true

def wd (ρ : Option Nat) : Fence := { fn := fun _ => True, depth := none, alive := false, round := ρ }
theorem wd_none : wd none = Fence.wide := rfl
theorem wd_room (ρ : Option Nat) (k : Nat) : (wd ρ).room k := fun _ h => by cases h
theorem wd_dep {ρ : Option Nat} {k : Nat} : (wd ρ).depth.isSome = true → 1 ≤ k := fun h => by cases h
theorem wd_fenced {ρ : Option Nat} {P : Program} {m : Machine} : m.fenced P (wd ρ) := fun _ _ => ⟨fun h => by simp [wd] at h, .inl trivial, fun _ _ => trivial, fun _ h => by simp [wd] at h⟩

/-- the loop of the round that runs -/
def Cx.ρ (c : Cx) (s0 : St) : Option Nat :=
  match c.r with
  | none => none
  | some i => match s0.β[i]? with
    | some (.pointer (some ⟨l, _, _⟩)) => some l
    | _ => none

/-- what is deferred: marks of loops, and these functions -/
inductive DfOk (s0 s : St) (mk : Bool) : List D → List Deferred → Prop
  | nil : DfOk s0 s mk [] []
  | mark {U : List D} {ds : List Deferred} {b : Nat} (hmk : mk = true) (h : s.w.heap[b]? = some (.deferred (some []))) (hI : ¬ s.I b) (hl : ¬ Live s b) (h0 : s0.w.heap.size ≤ b) (hd : ∀ d ∈ ds, d.target ≠ .collected b) (r : DfOk s0 s mk U ds) :
      DfOk s0 s mk U ({ target := .collected b, args := #[] } :: ds)
  | fn {f : FuncId} {first caps : List D} {vs us : List Value} {U : List D} {ds : List Deferred} (h : Rep s (.fn (.func f) first caps) (.func (.func f) vs.toArray us.toArray)) (r : DfOk s0 s mk U ds) :
      DfOk s0 s mk (.fn (.func f) first caps :: U) ({ target := .fn (.func f) us.toArray, args := vs.toArray } :: ds)
theorem DfOk.mono {s0 s s' : St} {mk : Bool} (ho : Ok s) (t : Tr s s') {U : List D} {ds : List Deferred} (h : DfOk s0 s mk U ds) : DfOk s0 s' mk U ds := by
  induction h with
  | nil => exact .nil
  | mark hmk h hI hl h0 hd _ ih =>
    have hb := (Array.getElem?_eq_some_iff.1 h).1
    refine .mark hmk ((t.keep _ hb hl).trans h) (fun hI' => ?_) (fun hl' => ?_) h0 hd ih
    · rcases t.new _ hI' with q | q | q
      · exact hI q
      · omega
      · exact hl q
    · rcases t.lv _ hl' with q | q
      · omega
      · exact hl q
  | fn h _ ih => exact .fn (h.mono ho t) ih

def Inv (s0 : St) (c : Cx) (F : Fr) (M : List Blk) (a : Act) (w : World) : Prop := Ok s0 ∧ ∃ s : St, s.M = M ∧ s.w = w ∧ Tr s0 s ∧ FOk s F a ∧ a.tmps.size = c.n ∧ DfOk s0 s c.mks c.U a.defers
/-- .. in a panic -/
def InvP (s0 : St) (c : Cx) (F : Fr) (M : List Blk) (d : D) (ch : List PanicEntry) (a : Act) (w : World) : Prop :=
  Ok s0 ∧ ∃ (s : St) (v : Value), s.M = M ∧ s.w = w ∧ Tr s0 s ∧ FOk s F a ∧ a.tmps.size = c.n ∧ DfOk s0 s c.mks c.U a.defers ∧ ch = [{ v := v, recovered := false }] ∧ Rep s d v

inductive DX where
  | normal
  | exit (id : Nat)
  | goto (l : Nat)
  | ret
  | panic (d : D)

abbrev Cont := DX → Fr → List Blk → Prop

def PostK (s0 : St) (c : Cx) (K : Cont) : Exit → Act → World → Prop
  | .normal, a, w => ∃ F M, Inv s0 c F M a w ∧ K .normal F M
  | .exit id, a, w => ∃ F M, Inv s0 c F M a w ∧ K (.exit id) F M
  | .goto l, a, w => ∃ F M, Inv s0 c F M a w ∧ K (.goto l) F M
  | .ret, a, w => ∃ F M, Inv s0 c F M a w ∧ K .ret F M
  | .panic ch, a, w => ∃ F M d, InvP s0 c F M d ch a w ∧ K (.panic d) F M
  | .outgrown, _, _ => False

theorem PostK.mono {s0 : St} {c : Cx} {K K' : Cont} (h : ∀ x F M, K x F M → K' x F M) : ∀ e a w, PostK s0 c K e a w → PostK s0 c K' e a w := by
  intro e a w hp
  cases e with
  | normal => obtain ⟨F, M, h1, h2⟩ := hp; exact ⟨F, M, h1, h _ _ _ h2⟩
  | exit id => obtain ⟨F, M, h1, h2⟩ := hp; exact ⟨F, M, h1, h _ _ _ h2⟩
  | goto id => obtain ⟨F, M, h1, h2⟩ := hp; exact ⟨F, M, h1, h _ _ _ h2⟩
  | ret => obtain ⟨F, M, h1, h2⟩ := hp; exact ⟨F, M, h1, h _ _ _ h2⟩
  | panic ch => obtain ⟨F, M, d, h1, h2⟩ := hp; exact ⟨F, M, d, h1, h _ _ _ h2⟩
  | outgrown => exact hp

section
variable {P : Program} {s0 : St} {n : Cx}

def dwp (P : Program) (s0 : St) (n : Cx) (c : Code) (F : Fr) (M : List Blk) (K : Cont) : Prop := ∀ a w, Inv s0 n F M a w → c.wpIn (wd (n.ρ s0)) 0 P (PostK s0 n K) a w

theorem dwp_mono {c : Code} {F : Fr} {M : List Blk} {K K' : Cont} (h : dwp P s0 n c F M K) (hk : ∀ x F M, K x F M → K' x F M) : dwp P s0 n c F M K' :=
  fun a w hi => wpIn_mono (h a w hi) (PostK.mono hk)

/-- what a seq, a block leaves to what follows -/
def Kseq (next : Fr → List Blk → Prop) (K : Cont) : Cont
  | .normal, F, M => next F M
  | x, F, M => K x F M
def Kblk (id : Nat) (K : Cont) : Cont
  | .exit id', F, M => if id' = id then K .normal F M else K (.exit id') F M
  | x, F, M => K x F M

theorem dwp_seq {x y : Code} {F : Fr} {M : List Blk} {K : Cont} (h : dwp P s0 n x F M (Kseq (fun F M => dwp P s0 n y F M K) K)) : dwp P s0 n (.seq x y) F M K := by
  intro a w hi
  refine wpIn_seq (wpIn_mono (h a w hi) ?_)
  intro e a' w' hp
  cases e with
  | normal => obtain ⟨F', M', h1, h2⟩ := hp; exact h2 a' w' h1
  | exit id => exact hp
  | goto l => exact hp
  | ret => exact hp
  | panic ch => exact hp
  | outgrown => exact hp

theorem dwp_block {id : Nat} {c : Code} {F : Fr} {M : List Blk} {K : Cont} (h : dwp P s0 n c F M (Kblk id K)) : dwp P s0 n (.block id c) F M K := by
  intro a w hi
  refine wpIn_block (wpIn_mono (h a w hi) ?_)
  intro e a' w' hp
  cases e with
  | exit id' =>
    obtain ⟨F', M', h1, h2⟩ := hp
    simp only [Kblk] at h2
    simp only [Exit.inBlock]
    split
    · rename_i e; rw [if_pos e] at h2; exact ⟨F', M', h1, h2⟩
    · rename_i e; rw [if_neg e] at h2; exact ⟨F', M', h1, h2⟩
  | normal => exact hp
  | goto l => exact hp
  | ret => exact hp
  | panic ch => exact hp
  | outgrown => exact hp

theorem dwp_skip {F : Fr} {M : List Blk} {K : Cont} (h : K .normal F M) : dwp P s0 n .skip F M K := fun a w hi => wpIn_skip ⟨F, M, hi, h⟩
theorem dwp_label {l : Nat} {F : Fr} {M : List Blk} {K : Cont} (h : K .normal F M) : dwp P s0 n (.label l) F M K := fun a w hi => wpIn_label ⟨F, M, hi, h⟩
theorem dwp_exit {id : Nat} {F : Fr} {M : List Blk} {K : Cont} (h : K (.exit id) F M) : dwp P s0 n (.exit id) F M K := fun a w hi => wpIn_exit ⟨F, M, hi, h⟩
theorem dwp_goto {l : Nat} {F : Fr} {M : List Blk} {K : Cont} (h : K (.goto l) F M) : dwp P s0 n (.goto l) F M K := fun a w hi => wpIn_goto ⟨F, M, hi, h⟩
theorem dwp_ret {F : Fr} {M : List Blk} {K : Cont} (h : K .ret F M) : dwp P s0 n .ret F M K := fun a w hi => wpIn_ret ⟨F, M, hi, h⟩

/-- an operand -/
def ev (F : Fr) : Operand → Option D
  | .tmp t => lk F t
  | .const v => some (.val v)
  | .func f => some (.fn (.func f) [] [])
  | .global _ => none
theorem ev_rep {s : St} {F : Fr} {a : Act} (h : FOk s F a) {x : Operand} {d : D} (hx : ev F x = some d) : Rep s d (a.eval x) := by
  cases x with
  | tmp t => exact h t d hx
  | const v => obtain rfl := Option.some.inj hx; exact .val v
  | func f => obtain rfl := Option.some.inj hx; exact Rep.fn (vs := []) (us := []) rfl rfl (fun j d v h => by simp at h) (fun j d v h => by simp at h)
  | global g => cases hx

/-- an operand, read where pc holds -/
def Ev (pc : Bool) (F : Fr) (x : Operand) (d : D) : Prop := ∃ d', ev F x = some d' ∧ ∀ s v, pc = true → Rep s d' v → Rep s d v
theorem ev1 {pc : Bool} {F : Fr} {x : Operand} {d : D} (h : ev F x = some d) : Ev pc F x d := ⟨d, h, fun _ _ _ h => h⟩
theorem ev3 {pc g : Bool} {F : Fr} {x : Operand} {d : D} (h : ev F x = some (.opt g d)) (hg : pc = true → g = true) : Ev pc F x d :=
  ⟨_, h, fun _ _ hp hr => by cases hr with | opt h _ => exact h (hg hp)⟩
theorem ev2 {pc : Bool} {F : Fr} {x : Operand} {d : D} (h : ev F x = some (.opt pc d)) : Ev pc F x d := ev3 h id

theorem Rep.val_eq {s : St} {v u : Value} (h : Rep s (.val v) u) : u = v := by cases h; rfl

theorem dwp_cond {c : Operand} {x y : Code} {F : Fr} {M : List Blk} {K : Cont} {b : Bool} (hc : ev F c = some (.val (.bool b))) (ht : b = true → dwp P s0 n x F M K) (hf : b = false → dwp P s0 n y F M K) :
    dwp P s0 n (.cond c x y) F M K := by
  intro a w hi
  have hi' := hi
  obtain ⟨_, s, h1, h2, h3, h4, h5, h6⟩ := hi
  exact wpIn_cond_split (ev_rep h4 hc).val_eq (fun e => ht e a w hi') (fun e => hf e a w hi')

theorem dwp_if_t {c : Operand} {x y : Code} {F : Fr} {M : List Blk} {K : Cont} {b : Bool} (hc : ev F c = some (.val (.bool b))) (hb : b = true) (h : dwp P s0 n x F M K) : dwp P s0 n (.cond c x y) F M K := dwp_cond hc (fun _ => h) (fun e => by rw [hb] at e; cases e)
theorem dwp_if_f {c : Operand} {x y : Code} {F : Fr} {M : List Blk} {K : Cont} {b : Bool} (hc : ev F c = some (.val (.bool b))) (hb : b = false) (h : dwp P s0 n y F M K) : dwp P s0 n (.cond c x y) F M K := dwp_cond hc (fun e => by rw [hb] at e; cases e) (fun _ => h)

/-- fewer slots are known -/
theorem inv_sub {F F' : Fr} {M : List Blk} {a : Act} {w : World} (h : Inv s0 n F M a w) (hs : ∀ t d, lk F' t = some d → lk F t = some d) : Inv s0 n F' M a w := by
  obtain ⟨h0, s, h1, h2, h3, h4, h5, h6⟩ := h
  exact ⟨h0, s, h1, h2, h3, fun t d hd => h4 t d (hs t d hd), h5, h6⟩

/-- A loop, over states x : α. -/
theorem dwp_loop_inv {α : Type} {c : Code} {F : Fr} {M : List Blk} {K : Cont} (J : α → Fr) (JM : α → List Blk) (Pr : α → Prop) (μ : α → Nat) (x0 : α) (h0 : Pr x0)
    (hin : ∀ a w, Inv s0 n F M a w → Inv s0 n (J x0) (JM x0) a w)
    (round : ∀ x, Pr x → dwp P s0 n c (J x) (JM x) (Kseq (fun F' M' => ∃ y, Pr y ∧ μ y < μ x ∧ ∀ a w, Inv s0 n F' M' a w → Inv s0 n (J y) (JM y) a w) K)) : dwp P s0 n (.loop c) F M K := by
  intro a0 w0 hi0
  intro b k cs hro hb hr
  have key : ∀ m x a w, μ x = m → Pr x → Inv s0 n (J x) (JM x) a w → ∃ e a' w', PostK s0 n K e a' w' ∧ ArrivesIn (Machine.fenced P (wd (n.ρ s0))) P (lone (b.atR a (.code c :: .inLoop c :: k)) cs w) b k cs e a' w' := by
    intro m
    induction m using Nat.strongRecOn with
    | _ m ih =>
      intro x a w hm hp hi
      obtain ⟨e, a₁, w₁, hq, harr⟩ := round x hp a w hi b (.inLoop c :: k) cs hro hb hr
      cases e with
      | normal =>
        obtain ⟨F', M', hi', y, hy, hlt, hback⟩ := hq
        obtain ⟨e₂, a₂, w₂, hq₂, harr₂⟩ := ih (μ y) (hm ▸ hlt) y a₁ w₁ rfl hy (hback _ _ hi')
        exact ⟨e₂, a₂, w₂, hq₂, .of_steps (StepsIn.trans harr (.one (fenced_calm hb hr rfl) stepR_inLoop)) harr₂⟩
      | exit id => exact ⟨.exit id, a₁, w₁, hq, .pass (x := .inLoop c) rfl (fun _ _ => .inl (by simp)) harr⟩
      | goto l => exact ⟨.goto l, a₁, w₁, hq, .pass (x := .inLoop c) rfl (fun _ _ => .inl (by simp)) harr⟩
      | ret => exact ⟨.ret, a₁, w₁, hq, .pass (x := .inLoop c) rfl (fun _ _ => .inl (by simp)) harr⟩
      | panic ch => exact ⟨.panic ch, a₁, w₁, hq, .pass (x := .inLoop c) rfl (fun _ _ => .inl (by simp)) harr⟩
      | outgrown => exact ⟨.outgrown, a₁, w₁, hq, .pass (x := .inLoop c) rfl (fun _ _ => .inl (by simp)) harr⟩
  obtain ⟨e, a', w', hq, harr⟩ := key _ x0 a0 w0 rfl h0 (hin _ _ hi0)
  exact ⟨e, a', w', hq, .of_steps (.one (fenced_calm hb hr rfl) stepR_loop) harr⟩
end
end Go.Proofs.Ytgomklemldldiaa
