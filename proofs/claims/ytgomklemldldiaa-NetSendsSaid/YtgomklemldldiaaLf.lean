/- Operations, one behind the other; a call by its contract. No condition. -/
import Derived.Test.YtgomklemldldiaaLe
namespace Go.Proofs.Ytgomklemldldiaa
set_option linter.unusedVariables false
set_option linter.unusedSimpArgs false
open Go.RowKit

def upd : List Blk → List (Nat × Blk) → List Blk
  | M, [] => M
  | M, (i, k) :: r => upd (M.set i k) r
theorem upd_len : ∀ (wr : List (Nat × Blk)) (M : List Blk), (upd M wr).length = M.length
  | [], _ => rfl
  | (i, k) :: r, M => by rw [upd, upd_len r]; simp
theorem upd_out : ∀ (wr : List (Nat × Blk)) (M : List Blk) (i : Nat), i ∉ wr.map (·.1) → (upd M wr)[i]? = M[i]?
  | [], _, _, _ => rfl
  | (j, k) :: r, M, i, h => by
    simp only [List.map_cons, List.mem_cons, not_or] at h
    rw [upd, upd_out r _ i h.2, List.getElem?_set_ne (Ne.symm h.1)]

/-- what an operation's run gives -/
def DGives (P : Program) (s : St) (post : St → Value → Prop) : Result Next → Prop
  | .ok (.value v) w' => ∃ s', s'.w = w' ∧ Tr s s' ∧ post s' v
  | .ok .skip w' => ∃ s', s'.w = w' ∧ Tr s s' ∧ post s' undef
  | .ok (.enter f args) w' => w' = s.w ∧ Calls P f args s.w (fun e w'' => ∃ s' v, e = .returned v ∧ s'.w = w'' ∧ Tr s s' ∧ post s' v)
  | .ok (.round l f tmps asg body) w' => w' = s.w ∧ RoundIn Fence.wide 0 P l f tmps asg body s.w (fun e w'' => ∃ s' v, e = .returned v ∧ s'.w = w'' ∧ Tr s s' ∧ post s' v)
  | _ => False

/-- an operation: it touches the blocks fp, reads d, leaves the blocks wr -/
def DOp (P : Program) (pc : Bool) (o : Oper) (F : Fr) (M : List Blk) (fp : List Nat) (d : D) (wr : List (Nat × Blk)) : Prop :=
  pc = true → ∀ (a : Act) (s : St), Ok s → (∀ x ∈ o.op.operands, ∀ d, ev F x = some d → Rep s d (a.eval x)) → (∀ i ∈ fp, s.M[i]? = M[i]?) →
    DGives P s (fun s' v => s'.M = upd s.M wr ∧ Rep s' d v) ((execOp a.eval o).run P s.w)

def putF (dst : Option Tmp) (d : D) (F : Fr) : Fr :=
  match dst with
  | some t => (t, d) :: F
  | none => F
def dstB (n : Nat) : Option Tmp → Bool
  | some t => Nat.blt t n
  | none => true

theorem FOk.putF {s : St} {F : Fr} {a : Act} (h : FOk s F a) {dst : Option Tmp} {n : Nat} (hn : a.tmps.size = n) (hd : dstB n dst = true) {d : D} {v : Value} (hr : Rep s d v) : FOk s (putF dst d F) (a.put dst v) := by
  cases dst with
  | none => exact h
  | some t =>
    refine h.put ?_ hr
    rw [hn]
    exact Nat.blt_eq.mp hd

/-- what an operation that panics gives -/
def DGivesP (P : Program) (s : St) (post : St → Value → Prop) : Result Next → Prop
  | .halt (.panic v) w' => ∃ s', s'.w = w' ∧ Tr s s' ∧ post s' v
  | .ok (.enter f args) w' => w' = s.w ∧ Calls P f args s.w (fun e w'' => ∃ s' v, e = .panicked [{ v := v, recovered := false }] ∧ s'.w = w'' ∧ Tr s s' ∧ post s' v)
  | _ => False
/-- an operation that panics with d -/
def DOpP (P : Program) (pc : Bool) (o : Oper) (F : Fr) (M : List Blk) (fp : List Nat) (d : D) (wr : List (Nat × Blk)) : Prop :=
  pc = true → ∀ (a : Act) (s : St), Ok s → (∀ x ∈ o.op.operands, ∀ d, ev F x = some d → Rep s d (a.eval x)) → (∀ i ∈ fp, s.M[i]? = M[i]?) →
    DGivesP P s (fun s' v => s'.M = upd s.M wr ∧ Rep s' d v) ((execOp a.eval o).run P s.w)

def noDef : Op → Bool
  | .defer _ => false
  | _ => true
theorem semAt_noDef {o : Oper} (h : noDef o.op = true) (ρ : Option Nat) (e : Operand → Value) : o.semAt ρ e = execOp e o :=
  Oper.semAt_eq ρ e o fun c hc => by rw [hc] at h; cases h

theorem callsIn_wd {P : Program} {ρ : Option Nat} {k : Nat} {f : FuncId} {args : Array Value} {w : World} {R : Ending → World → Prop} (h : Calls P f args w R) : CallsIn (wd ρ) k P f args w R := by
  refine ⟨trivial, fun cs _ => ?_⟩
  obtain ⟨e, w', fr, h1, h2, h3, h4⟩ := h cs
  refine ⟨e, w', fr, h1, ?_, h3, h4⟩
  cases e with
  | returned v => exact (steps_iff.1 h2).mono fun _ _ => wd_fenced
  | panicked ch => exact (steps_iff.1 h2).mono fun _ _ => wd_fenced
  | outgrown => exact h2

section
variable {P : Program} {s0 : St} {n : Cx} {ops : Array Oper}

def Walk (P : Program) (s0 : St) (n : Cx) (ops : Array Oper) (l : List Oper) (F : Fr) (M : List Blk) (K : Cont) : Prop := ∀ a w, Inv s0 n F M a w → wpListIn (wd (n.ρ s0)) 0 P ops (PostK s0 n K) l a w

theorem walk_nil {F : Fr} {M : List Blk} {K : Cont} (h : K .normal F M) : Walk P s0 n ops [] F M K := fun _ _ hi => ⟨F, M, hi, h⟩

theorem dgives_in {o : Oper} {ρ : Option Nat} {a : Act} {s : St} {post : St → Value → Prop} {K : Act → World → Prop} {Q : Exit → Act → World → Prop} (hnd : noDef o.op = true) (h : DGives P s post ((execOp a.eval o).run P s.w))
    (hk : ∀ s' v, Tr s s' → post s' v → K (a.put o.dst v) s'.w) : o.wpIn (wd ρ) 0 P a s.w K Q := by
  refine ⟨fun _ _ => trivial, ?_⟩
  rw [semAt_noDef hnd]
  generalize (execOp a.eval o).run P s.w = r at h
  cases r with
  | halt x w' => exact h.elim
  | ok x w' =>
    cases x with
    | value v => obtain ⟨s', h1, h2, h3⟩ := h; subst h1; exact hk s' v h2 h3
    | skip => obtain ⟨s', h1, h2, h3⟩ := h; subst h1; exact hk s' undef h2 h3
    | enter f args =>
      obtain ⟨h1, h2⟩ := h
      subst h1
      refine ⟨(fun h => by cases h), callsIn_wd (h2.mono ?_)⟩
      rintro e w'' ⟨s', v, rfl, h1, h2, h3⟩
      subst h1
      exact hk s' v h2 h3
    | round l f tmps asg body =>
      obtain ⟨h1, h2⟩ := h
      subst h1
      refine ⟨(fun h => by cases h), RoundIn.mono h2 ?_⟩
      rintro e w'' ⟨s', v, rfl, h1, h2, h3⟩
      subst h1
      exact hk s' v h2 h3
    | _ => exact h.elim

theorem dgives_inP {o : Oper} {ρ : Option Nat} {a : Act} {s : St} {post : St → Value → Prop} {K : Act → World → Prop} {Q : Exit → Act → World → Prop} (hnd : noDef o.op = true) (h : DGivesP P s post ((execOp a.eval o).run P s.w))
    (hk : ∀ s' v, Tr s s' → post s' v → Q (.panic [{ v := v, recovered := false }]) a s'.w) : o.wpIn (wd ρ) 0 P a s.w K Q := by
  refine ⟨fun _ _ => trivial, ?_⟩
  rw [semAt_noDef hnd]
  generalize (execOp a.eval o).run P s.w = r at h
  cases r with
  | halt x w' =>
    cases x with
    | panic v => obtain ⟨s', h1, h2, h3⟩ := h; subst h1; exact hk s' v h2 h3
    | _ => exact h.elim
  | ok x w' =>
    cases x with
    | enter f args =>
      obtain ⟨h1, h2⟩ := h
      subst h1
      refine ⟨(fun h => by cases h), callsIn_wd (h2.mono ?_)⟩
      rintro e w'' ⟨s', v, rfl, h1, h2, h3⟩
      subst h1
      exact hk s' v h2 h3
    | _ => exact h.elim

theorem walk_op {o : Oper} {rest : List Oper} {F : Fr} {M : List Blk} {K : Cont} {fp : List Nat} {d : D} {wr : List (Nat × Blk)} (hg : o.guard = none) (hd : dstB n.n o.dst = true) (h : DOp P true o F M fp d wr)
    (hk : Walk P s0 n ops rest (putF o.dst d F) (upd M wr) K) (hnd : noDef o.op = true := by rfl) : Walk P s0 n ops (o :: rest) F M K := by
  intro a w hi
  obtain ⟨h0, s, h1, h2, h3, h4, h5, h6⟩ := hi
  subst h1 h2
  show if Region.wanted o (yielded ops a.tmps) then _ else _
  have hw : Region.wanted o (yielded ops a.tmps) = true := by unfold Region.wanted; rw [hg]
  rw [if_pos hw]
  refine dgives_in hnd (h rfl a s h3.ok (fun x _ d hd => ev_rep h4 hd) (fun _ _ => rfl)) fun s' v ht ⟨e1, e2⟩ => ?_
  exact hk _ _ ⟨h0, s', e1, rfl, h3.trans ht, (h4.mono h3.ok ht).putF h5 hd e2, by rw [put_size]; exact h5, by rw [put_def]; exact h6.mono h3.ok ht⟩

/-- .. it reads -/
theorem walk_r {o : Oper} {rest : List Oper} {F : Fr} {M : List Blk} {K : Cont} {fp : List Nat} {d : D} {t : Nat} (hg : o.guard = none) (hd : o.dst = some t) (ht : Nat.blt t n.n = true) (h : DOp P true o F M fp d []) (hk : Walk P s0 n ops rest ((t, d) :: F) M K) (hnd : noDef o.op = true := by rfl) : Walk P s0 n ops (o :: rest) F M K :=
  walk_op hg (by rw [hd]; exact ht) h (by rw [hd]; exact hk) hnd
/-- .. it makes memory, or writes it -/
theorem walk_w {o : Oper} {rest : List Oper} {F : Fr} {M M' : List Blk} {K : Cont} {fp : List Nat} {d : D} {t : Nat} {wr : List (Nat × Blk)} (hg : o.guard = none) (hd : o.dst = some t) (ht : Nat.blt t n.n = true) (h : DOp P true o F M fp d wr) (hM : upd M wr = M') (hk : Walk P s0 n ops rest ((t, d) :: F) M' K) (hnd : noDef o.op = true := by rfl) : Walk P s0 n ops (o :: rest) F M K :=
  walk_op hg (by rw [hd]; exact ht) h (by rw [hd, hM]; exact hk) hnd
theorem walk_s {o : Oper} {rest : List Oper} {F : Fr} {M M' : List Blk} {K : Cont} {fp : List Nat} {d : D} {wr : List (Nat × Blk)} (hg : o.guard = none) (hd : o.dst = none) (h : DOp P true o F M fp d wr) (hM : upd M wr = M') (hk : Walk P s0 n ops rest F M' K) (hnd : noDef o.op = true := by rfl) : Walk P s0 n ops (o :: rest) F M K :=
  walk_op hg (by rw [hd]; rfl) h (by rw [hd, hM]; exact hk) hnd

/-- .. it panics -/
theorem walk_p {o : Oper} {rest : List Oper} {F : Fr} {M M' : List Blk} {K : Cont} {fp : List Nat} {d : D} {wr : List (Nat × Blk)} (hg : o.guard = none) (h : DOpP P true o F M fp d wr) (hM : upd M wr = M') (hk : K (.panic d) F M') (hnd : noDef o.op = true := by rfl) : Walk P s0 n ops (o :: rest) F M K := by
  intro a w hi
  obtain ⟨h0, s, h1, h2, h3, h4, h5, h6⟩ := hi
  subst h1 h2
  show if Region.wanted o (yielded ops a.tmps) then _ else _
  have hw : Region.wanted o (yielded ops a.tmps) = true := by unfold Region.wanted; rw [hg]
  rw [if_pos hw]
  refine dgives_inP hnd (h rfl a s h3.ok (fun x _ d hd => ev_rep h4 hd) (fun _ _ => rfl)) fun s' v ht ⟨e1, e2⟩ => ?_
  exact ⟨F, M', d, ⟨h0, s', v, e1.trans hM, rfl, h3.trans ht, h4.mono h3.ok ht, h5, h6.mono h3.ok ht, rfl, e2⟩, hk⟩

theorem walk_case {l : List Oper} {F : Fr} {M : List Blk} {K : Cont} {t : Nat} {b : Bool} (_ : lk F t = some (.val (.bool b))) (ht : b = true → Walk P s0 n ops l F M K) (hf : b = false → Walk P s0 n ops l F M K) : Walk P s0 n ops l F M K := by
  cases b with
  | true => exact ht rfl
  | false => exact hf rfl

/-- where it stands: behind a guard, or not -/
def Gd (ops : Array Oper) (o : Oper) (F : Fr) (pc : Bool) : Prop :=
  match o.guard with
  | none => pc = true
  | some (j, want) => ∃ t g b, (ops[j]?).bind (·.dst) = some t ∧ (lk F t = some (.opt g (.val (.bool b))) ∨ (g = true ∧ lk F t = some (.val (.bool b)))) ∧ pc = (g && (b == want))
def gdd (o : Oper) (pc : Bool) (d : D) : D :=
  match o.guard with
  | none => d
  | some _ => .opt pc d
theorem gd_n {o : Oper} {F : Fr} (h : o.guard = none) : Gd ops o F true := by unfold Gd; rw [h]
theorem gd_t {o : Oper} {F : Fr} {j t : Nat} {b : Bool} (h : o.guard = some (j, true)) (ht : (ops[j]?).bind (·.dst) = some t) (hl : lk F t = some (.val (.bool b))) : Gd ops o F b := by
  unfold Gd; rw [h]; exact ⟨t, true, b, ht, .inr ⟨rfl, hl⟩, by simp⟩
theorem gd_f {o : Oper} {F : Fr} {j t : Nat} {b : Bool} (h : o.guard = some (j, false)) (ht : (ops[j]?).bind (·.dst) = some t) (hl : lk F t = some (.val (.bool b))) : Gd ops o F (!b) := by
  unfold Gd; rw [h]; exact ⟨t, true, b, ht, .inr ⟨rfl, hl⟩, by simp⟩
theorem gd_tt {o : Oper} {F : Fr} {j t : Nat} {g b : Bool} (h : o.guard = some (j, true)) (ht : (ops[j]?).bind (·.dst) = some t) (hl : lk F t = some (.opt g (.val (.bool b)))) : Gd ops o F (g && b) := by
  unfold Gd; rw [h]; exact ⟨t, g, b, ht, .inl hl, by simp⟩
theorem gd_ff {o : Oper} {F : Fr} {j t : Nat} {g b : Bool} (h : o.guard = some (j, false)) (ht : (ops[j]?).bind (·.dst) = some t) (hl : lk F t = some (.opt g (.val (.bool b)))) : Gd ops o F (g && !b) := by
  unfold Gd; rw [h]; exact ⟨t, g, b, ht, .inl hl, by simp⟩

theorem yielded_slot {j : Nat} {t : Tmp} {a : Act} (h : (ops[j]?).bind (·.dst) = some t) : yielded ops a.tmps j = (match slot a t with | .bool b => some b | _ => none) := by
  unfold yielded slot
  rw [h]
  simp only [Option.bind_some, Array.getD_eq_getD_getElem?]
  cases a.tmps[t]? with
  | none => rfl
  | some x => cases x <;> rfl
theorem gd_wanted {o : Oper} {F : Fr} {pc : Bool} {a : Act} {s : St} (h : Gd ops o F pc) (hF : ∀ t d, t ∈ o.looksAt ops → lk F t = some d → Rep s d (slot a t)) : Region.wanted o (yielded ops a.tmps) = pc := by
  unfold Gd at h
  unfold Region.wanted
  have hl : ∀ j want t, o.guard = some (j, want) → (ops[j]?).bind (·.dst) = some t → t ∈ o.looksAt ops := by
    intro j want t hg ht
    unfold Oper.looksAt
    rw [hg]
    exact List.mem_append_right _ (by simp [ht])
  split at h
  · rename_i hg; rw [hg, h]
  · rename_i j want hg
    obtain ⟨t, g, b, ht, hlk, rfl⟩ := h
    rw [hg]
    simp only [yielded_slot ht]
    have hmem := hl j want t hg ht
    rcases hlk with h | ⟨rfl, h⟩
    · have hr := hF t _ hmem h
      cases hr with
      | opt h1 h2 =>
        cases g with
        | true => rw [(h1 rfl).val_eq]; simp
        | false => rw [h2 rfl]; simp [undef]
    · rw [(hF t _ hmem h).val_eq]; simp

theorem walk_g {o : Oper} {rest : List Oper} {F : Fr} {M : List Blk} {K : Cont} {fp : List Nat} {d : D} {pc : Bool} (hg : Gd ops o F pc) (hng : o.guard.isSome = true) (hd : dstB n.n o.dst = true) (h : DOp P pc o F M fp d [])
    (hk : Walk P s0 n ops rest (putF o.dst (.opt pc d) F) M K) (hnd : noDef o.op = true := by rfl) : Walk P s0 n ops (o :: rest) F M K := by
  intro a w hi
  obtain ⟨h0, s, h1, h2, h3, h4, h5, h6⟩ := hi
  subst h1 h2
  show if Region.wanted o (yielded ops a.tmps) then _ else _
  rw [gd_wanted hg (fun t d _ hd => h4 t d hd)]
  cases pc with
  | true =>
    rw [if_pos rfl]
    refine dgives_in hnd (h rfl a s h3.ok (fun x _ d hd => ev_rep h4 hd) (fun _ _ => rfl)) fun s' v ht ⟨e1, e2⟩ => ?_
    exact hk _ _ ⟨h0, s', e1, rfl, h3.trans ht, (h4.mono h3.ok ht).putF h5 hd (.opt (fun _ => e2) (fun h => by cases h)), by rw [put_size]; exact h5, by rw [put_def]; exact h6.mono h3.ok ht⟩
  | false =>
    rw [if_neg (by simp)]
    refine ⟨fun _ _ => trivial, ?_⟩
    exact hk _ _ ⟨h0, s, rfl, rfl, h3, h4.putF h5 hd (.opt (fun h => by cases h) (fun _ => rfl)), by rw [put_size]; exact h5, by rw [put_def]; exact h6⟩

theorem walk_gr {o : Oper} {rest : List Oper} {F : Fr} {M : List Blk} {K : Cont} {fp : List Nat} {d : D} {pc : Bool} {t : Nat} (hg : Gd ops o F pc) (hng : o.guard.isSome = true) (hd : o.dst = some t) (ht : Nat.blt t n.n = true) (h : DOp P pc o F M fp d [])
    (hk : Walk P s0 n ops rest ((t, .opt pc d) :: F) M K) (hnd : noDef o.op = true := by rfl) : Walk P s0 n ops (o :: rest) F M K := walk_g hg hng (by rw [hd]; exact ht) h (by rw [hd]; exact hk) hnd

theorem dwp_region {id : Nat} {l : List Oper} {F : Fr} {M : List Blk} {K : Cont} (h : Walk P s0 n l.toArray l F M K) : dwp P s0 n (.region id l.toArray false) F M K := fun a w hi => wpIn_region_lit (h a w hi)

/-- place for a block that is to come -/
theorem inv_hole {F : Fr} {M : List Blk} {a : Act} {w : World} (h : Inv s0 n F M a w) : Inv s0 n F (M ++ [.hole]) a w := by
  obtain ⟨h0, s, h1, h2, h3, h4, h5, h6⟩ := h
  subst h1 h2
  have t := step_hole h3.ok
  exact ⟨h0, ⟨s.β ++ [.nilFunc], s.I, s.M ++ [.hole], s.w⟩, rfl, rfl, h3.trans t, h4.mono h3.ok t, h5, h6.mono h3.ok t⟩
theorem walk_hole {l : List Oper} {F : Fr} {M : List Blk} {K : Cont} (h : Walk P s0 n ops l F (M ++ [.hole]) K) : Walk P s0 n ops l F M K := fun a w hi => h a w (inv_hole hi)
def holes (M : List Blk) : Nat → List Blk
  | 0 => M
  | k + 1 => holes (M ++ [.hole]) k
theorem dwp_holes {c : Code} {F : Fr} {M M' : List Blk} {K : Cont} (k : Nat) (hM : holes M k = M') (h : dwp P s0 n c F M' K) : dwp P s0 n c F M K := by
  subst hM
  induction k generalizing M with
  | zero => exact h
  | succ k ih => exact fun a w hi => ih h a w (inv_hole hi)
theorem dwp_hole {c : Code} {F : Fr} {M : List Blk} {K : Cont} (h : dwp P s0 n c F (M ++ [.hole]) K) : dwp P s0 n c F M K := fun a w hi => h a w (inv_hole hi)
end

/-! ### names turned back -/
mutual
def sb (τ : List Nat) : D → Option D
  | .val v => some (.val v)
  | .loc j o => (τ[j]?).map fun i => .loc i o
  | .arr j => (τ[j]?).map .arr
  | .aloc j o => (τ[j]?).map fun i => .aloc i o
  | .own j sz o n => (τ[j]?).map fun i => .own i sz o n
  | .dpf L => some (.dpf L)
  | .slf sz n L => some (.slf sz n L)
  | .slc sz n L => some (.slc sz n L)
  | .tup l => (sbL τ l).map .tup
  | .agg l => (sbL τ l).map .agg
  | .dpm l => some (.dpm l)
  | .slm sz n l => some (.slm sz n l)
  | .fn f a b => match sbL τ a, sbL τ b with
    | some a', some b' => some (.fn f a' b')
    | _, _ => none
  | .ifc t d => (sb τ d).map (.ifc t)
  | .opt b d => (sb τ d).map (.opt b)
  | .hnd j => (τ[j]?).map .hnd
  | .yld j => (τ[j]?).map .yld
  | .floc j k o => (τ[j]?).map fun i => .floc i k o
  | .farr j k => (τ[j]?).map fun i => .farr i k
  | .faloc j k o => (τ[j]?).map fun i => .faloc i k o
  | .junk => some .junk
def sbL (τ : List Nat) : List D → Option (List D)
  | [] => some []
  | d :: l => match sb τ d, sbL τ l with
    | some d', some l' => some (d' :: l')
    | _, _ => none
end
mutual
/-- it holds no memory that stays -/
def D.fl : D → Bool
  | .val _ => true
  | .loc _ _ => true
  | .arr _ => true
  | .aloc _ _ => true
  | .own _ _ _ _ => true
  | .dpf _ => false
  | .slf _ _ L => L.isEmpty
  | .slc _ _ L => L.isEmpty
  | .tup l => D.flL l
  | .agg l => D.flL l
  | .dpm _ => false
  | .slm _ _ l => l.isEmpty
  | .fn _ a b => D.flL a && D.flL b
  | .ifc _ d => d.fl
  | .opt _ d => d.fl
  | .hnd _ => true
  | .yld _ => true
  | .floc _ _ _ => true
  | .farr _ _ => true
  | .faloc _ _ _ => true
  | .junk => true
def D.flL : List D → Bool
  | [] => true
  | d :: l => d.fl && D.flL l
end
def sbF (τ : List Nat) : List (Nat × D) → Option (List (Nat × D))
  | [] => some []
  | (t, d) :: l => match sb τ d, sbF τ l with
    | some d', some l' => some ((t, d') :: l')
    | _, _ => none
def flF : List (Nat × D) → Bool
  | [] => true
  | (_, d) :: l => d.fl && flF l
def sbB (τ : List Nat) : Blk → Option Blk
  | .mix T l => (sbL τ l).map (.mix T)
  | .arx T sz n l => (sbL τ l).map (.arx T sz n)
  | .lp n F ps asg body st pe => (sbF τ F).map fun F' => .lp n F' ps asg body st pe
  | k => some k
def Blk.fl : Blk → Bool
  | .mix _ l => D.flL l
  | .arx _ _ _ l => D.flL l
  | .lp _ F _ _ _ _ _ => flF F
  | _ => true
def wrOf (τ0 : List Nat) : List Nat → List Blk → Option (List (Nat × Blk))
  | [], [] => some []
  | i :: r, k :: ks => match sbB τ0 k, wrOf τ0 r ks with
    | some k', some r' => some ((i, k') :: r')
    | _, _ => none
  | _, _ => none

theorem sbL_spec {τ : List Nat} : ∀ (l l' : List D), sbL τ l = some l' → l'.length = l.length ∧ ∀ (j : Nat) d', l'[j]? = some d' → ∃ d, l[j]? = some d ∧ sb τ d = some d'
  | [], l', h => by unfold sbL at h; cases h; exact ⟨rfl, fun j d h => by simp at h⟩
  | d :: l, l', h => by
    unfold sbL at h
    cases e1 : sb τ d with
    | none => rw [e1] at h; simp at h
    | some d1 =>
      cases e2 : sbL τ l with
      | none => rw [e1, e2] at h; simp at h
      | some l1 =>
        rw [e1, e2] at h
        obtain rfl := Option.some.inj h
        obtain ⟨h1, h2⟩ := sbL_spec l l1 e2
        refine ⟨by simp [h1], fun j d' hj => ?_⟩
        cases j with
        | zero => simp at hj; subst hj; exact ⟨d, rfl, e1⟩
        | succ j => simp at hj; obtain ⟨x, hx, hx2⟩ := h2 j d' hj; exact ⟨x, by simpa using hx, hx2⟩
theorem sbF_spec {τ : List Nat} : ∀ (l l' : List (Nat × D)), sbF τ l = some l' → ∀ t d', lk l' t = some d' → ∃ d, lk l t = some d ∧ sb τ d = some d' ∧ (flF l = true → d.fl = true)
  | [], l', h => by unfold sbF at h; cases h; intro t d h; cases h
  | (k, d) :: l, l', h => by
    unfold sbF at h
    cases e1 : sb τ d with
    | none => rw [e1] at h; simp at h
    | some d1 =>
      cases e2 : sbF τ l with
      | none => rw [e1, e2] at h; simp at h
      | some l1 =>
        rw [e1, e2] at h
        obtain rfl := Option.some.inj h
        intro t d' hd
        rw [lk_cons] at hd ⊢
        by_cases e : k = t
        · rw [if_pos e] at hd ⊢; cases hd; exact ⟨d, rfl, e1, fun h => by unfold flF at h; simp at h; exact h.1⟩
        · rw [if_neg e] at hd ⊢
          obtain ⟨x, hx, hx2, hx3⟩ := sbF_spec l l1 e2 t d' hd
          exact ⟨x, hx, hx2, fun h => hx3 (by unfold flF at h; simp at h; exact h.2)⟩
theorem flL_mem : ∀ {l : List D} {j : Nat} {d : D}, D.flL l = true → l[j]? = some d → d.fl = true
  | d :: l, 0, e, h, hj => by simp at hj; subst hj; unfold D.flL at h; simp at h; exact h.1
  | d :: l, j + 1, e, h, hj => by unfold D.flL at h; simp at h hj; exact flL_mem h.2 hj

/-- names turned back; V: is memory left out? -/
theorem sb_rep {s s' : St} {τ : List Nat} (V : Prop) (hnd : ∀ (j i : Nat) h, τ[j]? = some i → s.β[j]? = some h → h ≠ .nilFunc → s'.β[i]? = some h) (up : ¬ V → ∀ b, s.I b → s'.I b) (imm : ¬ V → ∀ b, s.I b → s'.w.heap[b]? = s.w.heap[b]?)
    {d : D} {v : Value} (h : Rep s d v) : (V → d.fl = true) → ∀ d', sb τ d = some d' → Rep s' d' v := by
  have no : ∀ {b : Bool}, (V → b = true) → b = false → ¬ V := fun h e hv => by rw [h hv] at e; cases e
  have lists : ∀ {l l' : List D} {vs : List Value}, sbL τ l = some l' → (V → D.flL l = true) → vs.length = l.length → (∀ (j : Nat) d v, l[j]? = some d → vs[j]? = some v → (V → d.fl = true) → ∀ d', sb τ d = some d' → Rep s' d' v) →
      vs.length = l'.length ∧ ∀ (j : Nat) d v, l'[j]? = some d → vs[j]? = some v → Rep s' d v := by
    intro l l' vs e hf hl ih
    obtain ⟨h1, h2⟩ := sbL_spec l l' e
    refine ⟨by omega, fun j d v hj hv => ?_⟩
    obtain ⟨x, hx, hx2⟩ := h2 j d hj
    exact ih j x v hx hv (fun hV => flL_mem (hf hV) hx) d hx2
  induction h with
  | val v => intro _ d' e; unfold sb at e; cases e; exact .val v
  | @loc i o b h =>
    intro _ d' e
    unfold sb at e
    simp only [Option.map_eq_some_iff] at e
    obtain ⟨k, hk, rfl⟩ := e
    exact .loc (hnd i k _ hk h (by simp))
  | @arr i a n c h =>
    intro _ d' e
    unfold sb at e
    simp only [Option.map_eq_some_iff] at e
    obtain ⟨k, hk, rfl⟩ := e
    exact .arr (hnd i k _ hk h (by simp))
  | @aloc i o n c b h =>
    intro _ d' e
    unfold sb at e
    simp only [Option.map_eq_some_iff] at e
    obtain ⟨k, hk, rfl⟩ := e
    exact .aloc (hnd i k _ hk h (by simp))
  | own h ha hN hz hn hc =>
    intro _ d' e
    unfold sb at e
    simp only [Option.map_eq_some_iff] at e
    obtain ⟨k, hk, rfl⟩ := e
    exact .own (hnd _ k _ hk h (by simp)) ha hN hz hn hc
  | ownnil h =>
    intro _ d' e
    unfold sb at e
    simp only [Option.map_eq_some_iff] at e
    obtain ⟨k, hk, rfl⟩ := e
    exact .ownnil (hnd _ k _ hk h (by simp))
  | dpf hI h => intro hf d' e; unfold sb at e; cases e; have hV := no hf rfl; exact .dpf (up hV _ hI) (cellsAt_of (imm hV _ hI) h)
  | @slf sz n cap a L hl hn hc ha h =>
    intro hf d' e
    unfold sb at e
    cases e
    refine .slf hl hn hc ha ?_
    rcases h with h | ⟨b, o, e, hI, h⟩
    · exact .inl h
    · cases L with
      | nil => exact .inl rfl
      | cons x L => have hV := no hf rfl; exact .inr ⟨b, o, e, up hV _ hI, cellsAt_of (imm hV _ hI) h⟩
  | @slc sz n a L hl hc ha h =>
    intro hf d' e
    unfold sb at e
    cases e
    refine .slc hl hc ha ?_
    rcases h with h | ⟨b, o, e, hI, h⟩
    · exact .inl h
    · cases L with
      | nil => exact .inl rfl
      | cons x L => have hV := no hf rfl; exact .inr ⟨b, o, e, up hV _ hI, cellsAt_of (imm hV _ hI) h⟩
  | tup hl _ ih =>
    intro hf d' e
    unfold sb at e
    simp only [Option.map_eq_some_iff] at e
    obtain ⟨l', e, rfl⟩ := e
    obtain ⟨h1, h2⟩ := lists e (fun hV => by have := hf hV; simpa [D.fl] using this) hl ih
    exact .tup h1 h2
  | agg hl _ ih =>
    intro hf d' e
    unfold sb at e
    simp only [Option.map_eq_some_iff] at e
    obtain ⟨l', e, rfl⟩ := e
    obtain ⟨h1, h2⟩ := lists e (fun hV => by have := hf hV; simpa [D.fl] using this) hl ih
    exact .agg h1 h2
  | dpm hnl hI hc hl h _ => intro hf d' e; unfold sb at e; cases e; have hV := no hf rfl; exact .dpm hnl (up hV _ hI) (cellsAt_of (imm hV _ hI) hc) hl fun j d v hj hv => (h j d v hj hv).nl (up hV) (imm hV) (nlL_mem hnl hj)
  | @slm sz n cap a l vs hnl hl hn hc ha hv h hm _ =>
    intro hf d' e
    unfold sb at e
    cases e
    cases l with
    | nil => exact .slm hnl hl hn hc ha hv (fun j d v hj => by simp at hj) (.inl rfl)
    | cons x l =>
      have hV := no hf rfl
      exact .slm hnl hl hn hc ha hv (fun j d v hj hv => (h j d v hj hv).nl (up hV) (imm hV) (nlL_mem hnl hj)) (hm.imp id fun ⟨b, o, e, hI, h⟩ => ⟨b, o, e, up hV _ hI, cellsAt_of (imm hV _ hI) h⟩)
  | @fn f l k vs us hl hk _ _ ih ih' =>
    intro hf d' e
    unfold sb at e
    cases e1 : sbL τ l with
    | none => rw [e1] at e; simp at e
    | some a' =>
      cases e2 : sbL τ k with
      | none => rw [e1, e2] at e; simp at e
      | some b' =>
        rw [e1, e2] at e
        cases e
        obtain ⟨h1, h2⟩ := lists e1 (fun hV => by have := hf hV; simp [D.fl] at this; exact this.1) hl ih
        obtain ⟨g1, g2⟩ := lists e2 (fun hV => by have := hf hV; simp [D.fl] at this; exact this.2) hk ih'
        exact .fn h1 g1 h2 g2
  | ifc _ ih =>
    intro hf d' e
    unfold sb at e
    simp only [Option.map_eq_some_iff] at e
    obtain ⟨x, e, rfl⟩ := e
    exact .ifc (ih (fun hV => by have := hf hV; simpa [D.fl] using this) x e)
  | opt _ hu ih =>
    intro hf d' e
    unfold sb at e
    simp only [Option.map_eq_some_iff] at e
    obtain ⟨x, e, rfl⟩ := e
    exact .opt (fun hb => ih hb (fun hV => by have := hf hV; simpa [D.fl] using this) x e) hu
  | @hnd i v h hn ht =>
    intro _ d' e
    unfold sb at e
    simp only [Option.map_eq_some_iff] at e
    obtain ⟨k, hk, rfl⟩ := e
    exact .hnd (hnd i k _ hk h hn) hn ht
  | @yld i l h =>
    intro _ d' e
    unfold sb at e
    simp only [Option.map_eq_some_iff] at e
    obtain ⟨k, hk, rfl⟩ := e
    exact .yld (hnd i k _ hk h (by simp))
  | @floc i k o b hs h hk =>
    intro _ d' e
    unfold sb at e
    simp only [Option.map_eq_some_iff] at e
    obtain ⟨m, hm, rfl⟩ := e
    exact .floc (hnd i m _ hm h (by simp)) hk
  | @farr i k a n c hs h hk =>
    intro _ d' e
    unfold sb at e
    simp only [Option.map_eq_some_iff] at e
    obtain ⟨m, hm, rfl⟩ := e
    exact .farr (hnd i m _ hm h (by simp)) hk
  | @faloc i k o n c b hs h hk =>
    intro _ d' e
    unfold sb at e
    simp only [Option.map_eq_some_iff] at e
    obtain ⟨m, hm, rfl⟩ := e
    exact .faloc (hnd i m _ hm h (by simp)) hk
  | junk v => intro _ d' e; unfold sb at e; cases e; exact .junk v
end Go.Proofs.Ytgomklemldldiaa
