/- A region that draws its order: walked once, in the text's order. Conditions: the kernel's look at its edges. -/
import Derived.Test.YtgomklemldldiaaLg
import Derived.OrdersIn
namespace Go.Proofs.Ytgomklemldldiaa
set_option linter.unusedVariables false
set_option linter.unusedSimpArgs false
open Go.RowKit

/-- the walk in the text's order; each operation with the blocks that it touches, and those that it leaves otherwise -/
def Lex (P : Program) (ops : Array Oper) : List Oper → List (List Nat × List Nat) → Fr → List Blk → (Fr → List Blk → Prop) → Prop
  | [], _, F, M, Q => Q F M
  | _ :: _, [], _, _, _ => False
  | o :: rest, (fp, wi) :: fps, F, M, Q => ∃ pc d wr, Gd ops o F pc ∧ DOp P pc o F M fp d wr ∧ wr.map (·.1) = wi ∧ (pc = false → wr = []) ∧ Lex P ops rest fps (putF o.dst (gdd o pc d) F) (upd M wr) Q

theorem lex_op {P : Program} {ops : Array Oper} {o : Oper} {rest : List Oper} {fp wi : List Nat} {fps : List (List Nat × List Nat)} {F : Fr} {M : List Blk} {Q : Fr → List Blk → Prop} {d : D} {wr : List (Nat × Blk)} (hg : o.guard = none) (h : DOp P true o F M fp d wr) (hw : wr.map (·.1) = wi)
    (hk : Lex P ops rest fps (putF o.dst d F) (upd M wr) Q) : Lex P ops (o :: rest) ((fp, wi) :: fps) F M Q :=
by
  unfold Lex
  refine ⟨true, d, wr, gd_n hg, h, hw, (fun h => by cases h), ?_⟩
  unfold gdd; rw [hg]; exact hk
/-- behind a guard that is known to hold -/
theorem lex_k {P : Program} {ops : Array Oper} {o : Oper} {rest : List Oper} {fp wi : List Nat} {fps : List (List Nat × List Nat)} {F : Fr} {M M' : List Blk} {Q : Fr → List Blk → Prop} {d : D} {t : Nat} {wr : List (Nat × Blk)} (hg : Gd ops o F true) (hn : o.guard.isSome = true) (hd : o.dst = some t) (h : DOp P true o F M fp d wr) (hw : wr.map (·.1) = wi) (hM : upd M wr = M')
    (hk : Lex P ops rest fps ((t, .opt true d) :: F) M' Q) : Lex P ops (o :: rest) ((fp, wi) :: fps) F M Q :=
by
  unfold Lex
  refine ⟨true, d, wr, hg, h, hw, (fun h => by cases h), ?_⟩
  unfold gdd
  cases e : o.guard with
  | none => rw [e] at hn; cases hn
  | some x => rw [hd, hM]; exact hk
theorem lex_g {P : Program} {ops : Array Oper} {o : Oper} {rest : List Oper} {fp : List Nat} {fps : List (List Nat × List Nat)} {F : Fr} {M : List Blk} {Q : Fr → List Blk → Prop} {pc : Bool} {d : D} (hg : Gd ops o F pc) (hn : o.guard.isSome = true) (h : DOp P pc o F M fp d [])
    (hk : Lex P ops rest fps (putF o.dst (.opt pc d) F) M Q) : Lex P ops (o :: rest) ((fp, []) :: fps) F M Q :=
by
  unfold Lex
  refine ⟨pc, d, [], hg, h, rfl, fun _ => rfl, ?_⟩
  unfold gdd
  cases e : o.guard with
  | none => rw [e] at hn; cases hn
  | some x => exact hk

theorem lex_r {P : Program} {ops : Array Oper} {o : Oper} {rest : List Oper} {fp : List Nat} {fps : List (List Nat × List Nat)} {F : Fr} {M : List Blk} {Q : Fr → List Blk → Prop} {d : D} {t : Nat} (hg : o.guard = none) (hd : o.dst = some t) (h : DOp P true o F M fp d [])
    (hk : Lex P ops rest fps ((t, d) :: F) M Q) : Lex P ops (o :: rest) ((fp, []) :: fps) F M Q := lex_op hg h rfl (by rw [hd]; exact hk)
theorem lex_w {P : Program} {ops : Array Oper} {o : Oper} {rest : List Oper} {fp wi : List Nat} {fps : List (List Nat × List Nat)} {F : Fr} {M M' : List Blk} {Q : Fr → List Blk → Prop} {d : D} {t : Nat} {wr : List (Nat × Blk)} (hg : o.guard = none) (hd : o.dst = some t) (h : DOp P true o F M fp d wr) (hw : wr.map (·.1) = wi) (hM : upd M wr = M')
    (hk : Lex P ops rest fps ((t, d) :: F) M' Q) : Lex P ops (o :: rest) ((fp, wi) :: fps) F M Q := lex_op hg h hw (by rw [hd, hM]; exact hk)
theorem lex_s {P : Program} {ops : Array Oper} {o : Oper} {rest : List Oper} {fp wi : List Nat} {fps : List (List Nat × List Nat)} {F : Fr} {M M' : List Blk} {Q : Fr → List Blk → Prop} {d : D} {wr : List (Nat × Blk)} (hg : o.guard = none) (hd : o.dst = none) (h : DOp P true o F M fp d wr) (hw : wr.map (·.1) = wi) (hM : upd M wr = M')
    (hk : Lex P ops rest fps F M' Q) : Lex P ops (o :: rest) ((fp, wi) :: fps) F M Q := lex_op hg h hw (by rw [hd, hM]; exact hk)
theorem lex_gr {P : Program} {ops : Array Oper} {o : Oper} {rest : List Oper} {fp : List Nat} {fps : List (List Nat × List Nat)} {F : Fr} {M : List Blk} {Q : Fr → List Blk → Prop} {pc : Bool} {d : D} {t : Nat} (hg : Gd ops o F pc) (hn : o.guard.isSome = true) (hd : o.dst = some t) (h : DOp P pc o F M fp d [])
    (hk : Lex P ops rest fps ((t, .opt pc d) :: F) M Q) : Lex P ops (o :: rest) ((fp, []) :: fps) F M Q := lex_g hg hn h (by rw [hd]; exact hk)
theorem lex_nil {P : Program} {ops : Array Oper} {F : Fr} {M : List Blk} {Q : Fr → List Blk → Prop} (h : Q F M) : Lex P ops [] [] F M Q := h

/-! ### what stands ahead of what -/
def maskE (acc : List Nat) : List Edge → Nat → Nat
  | [], s => s
  | e :: r, s => maskE acc r (if Region.binds .any e then s ||| 2 ^ e.on ||| acc.getD e.on 0 else s)
def befL : List Oper → List Nat → List Nat
  | [], acc => acc
  | o :: r, acc => befL r (acc ++ [maskE acc o.after.toList 0])

theorem maskE_bit (acc : List Nat) (i : Nat) : ∀ (l : List Edge) (s : Nat), (maskE acc l s).testBit i = true → s.testBit i = true ∨ ∃ e ∈ l, Region.binds .any e = true ∧ (i = e.on ∨ (acc.getD e.on 0).testBit i = true)
  | [], s, h => .inl h
  | e :: r, s, h => by
    unfold maskE at h
    rcases maskE_bit acc i r _ h with h1 | ⟨e', h1, h2, h3⟩
    · cases hb : Region.binds .any e with
      | false => rw [hb] at h1; exact .inl (by simpa using h1)
      | true =>
        rw [hb] at h1
        simp only [if_true, Nat.testBit_or, Bool.or_eq_true] at h1
        rcases h1 with (h1 | h1) | h1
        · exact .inl h1
        · rw [Nat.testBit_two_pow] at h1
          exact .inr ⟨e, List.mem_cons_self .., hb, .inl (by simpa using (of_decide_eq_true h1).symm)⟩
        · exact .inr ⟨e, List.mem_cons_self .., hb, .inr h1⟩
    · exact .inr ⟨e', List.mem_cons_of_mem _ h1, h2, h3⟩

theorem befL_old : ∀ (l : List Oper) (acc : List Nat) (j : Nat), j < acc.length → (befL l acc)[j]? = acc[j]?
  | [], _, _, _ => rfl
  | o :: r, acc, j, h => by
    unfold befL
    rw [befL_old r _ j (by simp; omega), List.getElem?_append_left h]
theorem befL_spec (l : List Oper) : ∀ (acc : List Nat) (k : Nat) (o : Oper), l[k]? = some o →
    ∃ acc' : List Nat, (befL l acc)[acc.length + k]? = some (maskE acc' o.after.toList 0) ∧ acc'.length = acc.length + k ∧ ∀ j, j < acc'.length → (befL l acc)[j]? = acc'[j]? := by
  induction l with
  | nil => intro acc k o h; simp at h
  | cons o r ih =>
    intro acc k p h
    cases k with
    | zero =>
      simp at h
      subst h
      refine ⟨acc, ?_, by simp, fun j hj => befL_old _ _ j hj⟩
      rw [befL, befL_old r _ _ (by simp)]
      simp
    | succ k =>
      simp only [List.getElem?_cons_succ] at h
      obtain ⟨acc', h1, h2, h3⟩ := ih (acc ++ [maskE acc o.after.toList 0]) k p h
      simp only [List.length_append, List.length_cons, List.length_nil] at h1 h2
      rw [befL]
      exact ⟨acc', by rw [show acc.length + (k + 1) = acc.length + (0 + 1) + k by omega]; exact h1, by omega, h3⟩

/-- i stands ahead of j -/
def ahead (l : List Oper) (i j : Nat) : Bool := ((befL l []).getD j 0).testBit i
theorem ahead_step {l : List Oper} {i j : Nat} {o : Oper} (ho : l[j]? = some o) (h : ahead l i j = true) : ∃ e ∈ o.after.toList, Region.binds .any e = true ∧ (i = e.on ∨ (e.on < j ∧ ahead l i e.on = true)) := by
  unfold ahead at h
  obtain ⟨acc', h1, h2, h3⟩ := befL_spec l [] j o ho
  simp only [List.length_nil, Nat.zero_add] at h1 h2
  rw [List.getD_eq_getElem?_getD, h1] at h
  rcases maskE_bit acc' i _ _ (by simpa using h) with h4 | ⟨e, h4, h5, h6⟩
  · simp at h4
  · refine ⟨e, h4, h5, h6.imp id fun h6 => ?_⟩
    by_cases hlt : e.on < acc'.length
    · refine ⟨by omega, ?_⟩
      unfold ahead
      rw [List.getD_eq_getElem?_getD, h3 e.on hlt, ← List.getD_eq_getElem?_getD]
      exact h6
    · rw [List.getD_eq_getElem?_getD, List.getElem?_eq_none (by omega)] at h6
      simp at h6

def namesOf (ops : Array Oper) (o : Oper) : List Nat := o.looksAt ops ++ o.dst.toList
def meet (a b : List Nat) : Bool := a.any fun x => b.contains x
def pairOk (ops : Array Oper) (bj : Nat) (i : Nat) (oi oj : Oper) (fi fj : List Nat × List Nat) : Bool :=
  bj.testBit i || !(meet oi.dst.toList (namesOf ops oj) || meet (namesOf ops oi) oj.dst.toList || meet fi.2 fj.1 || meet fi.1 fj.2)
/-- what stands ahead against what is looked at -/
def drawOk (n : Nat) (l : List Oper) (fps : List (List Nat × List Nat)) : Bool :=
  let bs := befL l []
  fps.length == l.length && (List.range l.length).all fun j =>
    match l[j]?, fps[j]? with
    | some oj, some fj => oj.after.all (fun e => !Region.binds .any e || Nat.blt e.on j) && dstB n oj.dst && noDef oj.op && fj.2.all (fun x => fj.1.contains x) && (List.range j).all fun i =>
      match l[i]?, fps[i]? with
      | some oi, some fi => pairOk l.toArray (bs.getD j 0) i oi oj fi fj
      | _, _ => false
    | _, _ => false

structure Rc where
  d : D
  wr : List (Nat × Blk)

def wrAt : List (Nat × Blk) → Nat → Option Blk
  | [], _ => none
  | (j, k) :: r, i => (wrAt r i).or (if j = i then some k else none)
theorem upd_get : ∀ (wr : List (Nat × Blk)) (M : List Blk) (i : Nat), i < M.length → (upd M wr)[i]? = (wrAt wr i).or M[i]?
  | [], _, _, _ => by simp [upd, wrAt]
  | (j, k) :: r, M, i, h => by
    rw [upd, upd_get r _ i (by simpa using h), wrAt, Option.or_assoc]
    congr 1
    by_cases e : j = i
    · subst e; simp [h]
    · simp [e]
theorem wrAt_none : ∀ (wr : List (Nat × Blk)) (i : Nat), i ∉ wr.map (·.1) → wrAt wr i = none
  | [], _, _ => rfl
  | (j, k) :: r, i, h => by
    simp only [List.map_cons, List.mem_cons, not_or] at h
    rw [wrAt, wrAt_none r i h.2, if_neg (Ne.symm h.1)]; rfl
theorem wrAt_some : ∀ (wr : List (Nat × Blk)) (i : Nat), i ∈ wr.map (·.1) → (wrAt wr i).isSome = true
  | [], _, h => by cases h
  | (j, k) :: r, i, h => by
    rw [wrAt]
    by_cases hr : i ∈ r.map (·.1)
    · obtain ⟨x, hx⟩ := Option.isSome_iff_exists.1 (wrAt_some r i hr)
      simp [hx]
    · simp only [List.map_cons, List.mem_cons] at h
      have := h.resolve_right hr
      subst this
      rw [wrAt_none r i hr]; simp

/-- a slot when the operations p below k have been done -/
def lkS (l : List Oper) (E : List Rc) (F : Fr) (p : Nat → Bool) (t : Nat) : Nat → Option D
  | 0 => lk F t
  | k + 1 => match l[k]?, E[k]? with
    | some o, some r => if p k = true ∧ o.dst = some t then some r.d else lkS l E F p t k
    | _, _ => lkS l E F p t k
def memS (E : List Rc) (M : List Blk) (p : Nat → Bool) (i : Nat) : Nat → Option Blk
  | 0 => M[i]?
  | k + 1 => match E[k]? with
    | some r => if p k = true then (wrAt r.wr i).or (memS E M p i k) else memS E M p i k
    | none => memS E M p i k

section
variable {l : List Oper} {E : List Rc} {F : Fr} {M : List Blk}
theorem lkS_congr {p q : Nat → Bool} {t : Nat} : ∀ k, (∀ j o, j < k → l[j]? = some o → o.dst = some t → p j = q j) → lkS l E F p t k = lkS l E F q t k
  | 0, _ => rfl
  | k + 1, h => by
    have ih := lkS_congr k fun j o hj => h j o (by omega)
    unfold lkS
    cases hl : l[k]? with
    | none => exact ih
    | some o =>
      cases E[k]? with
      | none => exact ih
      | some r =>
        simp only
        by_cases hd : o.dst = some t
        · rw [h k o (by omega) hl hd, ih]
        · simp [hd, ih]
theorem lkS_cut {p : Nat → Bool} {t : Nat} (i : Nat) : ∀ k, i ≤ k → (∀ j o, i ≤ j → j < k → l[j]? = some o → o.dst = some t → p j = false) → lkS l E F p t k = lkS l E F p t i
  | 0, hk, _ => by obtain rfl : i = 0 := by omega
                   rfl
  | k + 1, hk, h => by
    by_cases e : i = k + 1
    · subst e; rfl
    · rw [← lkS_cut i k (by omega) fun j o h1 h2 => h j o h1 (by omega)]
      conv => lhs; unfold lkS
      cases hl : l[k]? with
      | none => rfl
      | some o =>
        cases E[k]? with
        | none => rfl
        | some r =>
          simp only
          rw [if_neg]
          rintro ⟨h1, h2⟩
          rw [h k o (by omega) (by omega) hl h2] at h1
          cases h1
theorem memS_congr {p q : Nat → Bool} {i : Nat} : ∀ k, (∀ (j : Nat) r, j < k → E[j]? = some r → (wrAt r.wr i).isSome = true → p j = q j) → memS E M p i k = memS E M q i k
  | 0, _ => rfl
  | k + 1, h => by
    have ih := memS_congr k fun j r hj => h j r (by omega)
    unfold memS
    cases he : E[k]? with
    | none => exact ih
    | some r =>
      simp only
      cases hw : wrAt r.wr i with
      | none => simp [ih]
      | some x => rw [h k r (by omega) he (by simp [hw]), ih]
theorem memS_cut {p : Nat → Bool} {i : Nat} (m : Nat) : ∀ k, m ≤ k → (∀ (j : Nat) r, m ≤ j → j < k → E[j]? = some r → (wrAt r.wr i).isSome = true → p j = false) → memS E M p i k = memS E M p i m
  | 0, hk, _ => by obtain rfl : m = 0 := by omega
                   rfl
  | k + 1, hk, h => by
    by_cases e : m = k + 1
    · subst e; rfl
    · rw [← memS_cut m k (by omega) fun j r h1 h2 => h j r h1 (by omega)]
      conv => lhs; unfold memS
      cases he : E[k]? with
      | none => rfl
      | some r =>
        simp only
        cases hw : wrAt r.wr i with
        | none => simp
        | some x => rw [h k r (by omega) (by omega) he (by simp [hw])]; simp

def Fup (l : List Oper) (E : List Rc) (F : Fr) : Nat → Fr
  | 0 => F
  | k + 1 => match l[k]?, E[k]? with
    | some o, some r => putF o.dst r.d (Fup l E F k)
    | _, _ => Fup l E F k
def Mup (E : List Rc) (M : List Blk) : Nat → List Blk
  | 0 => M
  | k + 1 => match E[k]? with
    | some r => upd (Mup E M k) r.wr
    | none => Mup E M k
theorem Mup_len : ∀ k, (Mup E M k).length = M.length
  | 0 => rfl
  | k + 1 => by
    unfold Mup
    cases E[k]? with
    | none => exact Mup_len k
    | some r => simp only; rw [upd_len, Mup_len k]
theorem lk_putF (dst : Option Tmp) (d : D) (F : Fr) (t : Nat) : lk (putF dst d F) t = if dst = some t then some d else lk F t := by
  cases dst with
  | none => simp [putF]
  | some x => show lk ((x, d) :: F) t = _; rw [lk_cons]; simp
theorem fup_lk (t : Nat) : ∀ k, lk (Fup l E F k) t = lkS l E F (fun _ => true) t k
  | 0 => rfl
  | k + 1 => by
    have ih := fup_lk t k
    unfold Fup lkS
    cases l[k]? with
    | none => exact ih
    | some o =>
      cases E[k]? with
      | none => exact ih
      | some r => simp only; rw [lk_putF, ih]; simp
theorem mup_at (i : Nat) (hi : i < M.length) : ∀ k, (Mup E M k)[i]? = memS E M (fun _ => true) i k
  | 0 => rfl
  | k + 1 => by
    have ih := mup_at i hi k
    unfold Mup memS
    cases E[k]? with
    | none => exact ih
    | some r => simp only; rw [upd_get _ _ _ (by rw [Mup_len]; exact hi), ih]; simp
end

/-- records out of the walk -/
theorem lex_recs {P : Program} {ops : Array Oper} {Q : Fr → List Blk → Prop} : ∀ (l : List Oper) (fps : List (List Nat × List Nat)) (F : Fr) (M : List Blk), fps.length = l.length → Lex P ops l fps F M Q →
    ∃ E : List Rc, E.length = l.length ∧ Q (Fup l E F l.length) (Mup E M l.length) ∧ ∀ (k : Nat) o f, l[k]? = some o → fps[k]? = some f → ∃ pc d r, E[k]? = some r ∧ r.d = gdd o pc d ∧ Gd ops o (Fup l E F k) pc ∧ DOp P pc o (Fup l E F k) (Mup E M k) f.1 d r.wr ∧ r.wr.map (·.1) = f.2 ∧ (pc = false → r.wr = [])
  | [], [], F, M, _, h => ⟨[], rfl, h, fun k o f hk => by simp at hk⟩
  | o :: l, (fp, wi) :: fps, F, M, hl, h => by
    obtain ⟨pc, d, wr, h1, h2, h3, h4, h5⟩ := h
    obtain ⟨E, e1, e2, e3⟩ := lex_recs l fps _ _ (by simpa using hl) h5
    have fup : ∀ k, Fup (o :: l) (⟨gdd o pc d, wr⟩ :: E) F (k + 1) = Fup l E (putF o.dst (gdd o pc d) F) k := by
      intro k
      induction k with
      | zero => rfl
      | succ k ih =>
        rw [Fup]
        simp only [List.getElem?_cons_succ]
        rw [ih]
        conv => rhs; rw [Fup]
    have mup : ∀ k, Mup (⟨gdd o pc d, wr⟩ :: E) M (k + 1) = Mup E (upd M wr) k := by
      intro k
      induction k with
      | zero => rfl
      | succ k ih =>
        rw [Mup]
        simp only [List.getElem?_cons_succ]
        rw [ih]
        conv => rhs; rw [Mup]
    refine ⟨⟨gdd o pc d, wr⟩ :: E, by simp [e1], by rw [List.length_cons, fup, mup]; exact e2, fun k p f hk hf => ?_⟩
    cases k with
    | zero =>
      simp at hk hf
      subst hk; subst hf
      exact ⟨pc, d, _, rfl, rfl, h1, h2, h3, h4⟩
    | succ k =>
      rw [fup, mup]
      simpa using e3 k p f (by simpa using hk) (by simpa using hf)
  | [], _ :: _, _, _, hl, _ => by simp at hl
  | _ :: _, [], _, _, hl, _ => by simp at hl

theorem getD_tf {listed : Array Bool} {m i : Nat} (hs : listed.size = m) (hi : i < m) : listed.getD i true = listed.getD i false := by
  subst hs; simp [hi]
def unl (listed : Array Bool) : Nat → Nat
  | 0 => 0
  | k + 1 => (if listed.getD k false = true then 0 else 1) + unl listed k
theorem unl_zero {listed : Array Bool} : ∀ k, unl listed k = 0 → ∀ i, i < k → listed.getD i false = true
  | k + 1, h, i, hi => by
    unfold unl at h
    by_cases e : i = k
    · subst e; split at h
      · assumption
      · omega
    · exact unl_zero k (by omega) i (by omega)
theorem unl_some {listed : Array Bool} : ∀ k, unl listed k ≠ 0 → ∃ i, i < k ∧ listed.getD i false = false ∧ ∀ j, j < i → listed.getD j false = true
  | 0, h => absurd rfl h
  | k + 1, h => by
    by_cases e : unl listed k = 0
    · have h0 := unl_zero k e
      unfold unl at h
      refine ⟨k, by omega, ?_, h0⟩
      split at h
      · omega
      · rename_i hn; simpa using hn
    · obtain ⟨i, h1, h2, h3⟩ := unl_some k e
      exact ⟨i, by omega, h2, h3⟩
theorem getD_set (listed : Array Bool) (i j : Nat) (hi : i < listed.size) : (listed.setIfInBounds i true).getD j false = if i = j then true else listed.getD j false := by
  by_cases e : i = j
  · subst e; simp [hi]
  · rw [if_neg e, getD_set_ne false e]
theorem unl_set {listed : Array Bool} {i : Nat} (hi : i < listed.size) (hun : listed.getD i false = false) : ∀ k, unl (listed.setIfInBounds i true) k + (if i < k then 1 else 0) = unl listed k
  | 0 => by simp [unl]
  | k + 1 => by
    have ih := unl_set hi hun k
    unfold unl
    rw [getD_set _ _ _ hi]
    by_cases e : i = k
    · subst e
      have e1 : (if i < i then 1 else 0) = 0 := if_neg (by omega)
      have e2 : (if i < i + 1 then 1 else 0) = 1 := if_pos (by omega)
      rw [e1] at ih
      rw [e2]
      simp only [if_true, hun, Bool.false_eq_true, if_false]
      omega
    · rw [if_neg e]
      by_cases h1 : i < k
      · have e1 : (if i < k then 1 else 0) = 1 := if_pos h1
        have e2 : (if i < k + 1 then 1 else 0) = 1 := if_pos (by omega)
        rw [e1] at ih
        rw [e2]
        omega
      · have e1 : (if i < k then 1 else 0) = 0 := if_neg h1
        have e2 : (if i < k + 1 then 1 else 0) = 0 := if_neg (by omega)
        rw [e1] at ih
        rw [e2]
        omega
theorem unl_start (m : Nat) : ∀ k, k ≤ m → unl (Array.replicate m false) k = k
  | 0, _ => rfl
  | k + 1, h => by
    unfold unl
    rw [unl_start m k (by omega)]
    simp [show k < m by omega]
    omega

/-- **A region that draws its order.** -/
theorem dwp_draw {P : Program} {s0 : St} {n : Cx} {id : Nat} {l : List Oper} {F : Fr} {M : List Blk} {K : Cont} (fps : List (List Nat × List Nat)) (hm : P.follows .mixedOrders = true) (hB : drawOk n.n l fps = true) (h : Lex P l.toArray l fps F M (fun F M => K .normal F M)) :
    dwp P s0 n (.region id l.toArray true) F M K := by
  intro a w hi
  refine wpIn_region_any hm ?_
  simp only [drawOk, Bool.and_eq_true, beq_iff_eq, List.all_eq_true, List.mem_range] at hB
  obtain ⟨hlen, hB⟩ := hB
  obtain ⟨E, e1, e2, e3⟩ := lex_recs l fps F M hlen h
  have at_ : ∀ k, k < l.length → ∃ o f, l[k]? = some o ∧ fps[k]? = some f := fun k hk => ⟨l[k], fps[k], List.getElem?_eq_getElem hk, List.getElem?_eq_getElem (by omega)⟩
  have hone : ∀ (j : Nat) o f, l[j]? = some o → fps[j]? = some f → (∀ e ∈ o.after.toList, Region.binds .any e = true → e.on < j) ∧ dstB n.n o.dst = true ∧ noDef o.op = true ∧ (∀ x ∈ f.2, x ∈ f.1) ∧ ∀ (i : Nat) oi fi, i < j → l[i]? = some oi → fps[i]? = some fi → ahead l i j = true ∨ (meet oi.dst.toList (namesOf l.toArray o) = false ∧ meet (namesOf l.toArray oi) o.dst.toList = false ∧ meet fi.2 f.1 = false ∧ meet fi.1 f.2 = false) := by
    intro j o f ho hf
    have hj : j < l.length := (List.getElem?_eq_some_iff.1 ho).1
    have h1 := hB j hj
    rw [ho, hf] at h1
    simp only [Bool.and_eq_true, List.all_eq_true, List.mem_range] at h1
    obtain ⟨⟨⟨⟨h1, h2⟩, hnd⟩, h3⟩, h4⟩ := h1
    refine ⟨fun e he hb => ?_, h2, hnd, fun x hx => by simpa using h3 x hx, fun i oi fi hij hoi hfi => ?_⟩
    · have := Array.all_eq_true_iff_forall_mem.1 h1 e (by simpa using he)
      rw [hb] at this
      exact Nat.blt_eq.mp (by simpa using this)
    · have h5 := h4 i hij
      rw [hoi, hfi] at h5
      simp only [pairOk, Bool.or_eq_true, Bool.not_eq_true', Bool.or_eq_false_iff] at h5
      rcases h5 with h5 | h5
      · exact .inl h5
      · exact .inr ⟨h5.1.1.1, h5.1.1.2, h5.1.2, h5.2⟩
  have meet_no : ∀ {x : List Nat} {y : List Nat} {t : Nat}, meet x y = false → t ∈ x → t ∈ y → False := by
    intro x y t hm hx hy
    simp only [meet, List.any_eq_false] at hm
    exact hm t hx (by simpa using hy)
  have hM0 : ∃ s : St, s.M = M := by obtain ⟨_, s, h1, _⟩ := hi; exact ⟨s, h1⟩
  -- the state when some have been done
  have main : ∀ (f : Nat) (listed : Array Bool) (b : Act) (s : St), Ok s0 → listed.size = l.length → unl listed l.length = f → Tr s0 s →
      (∀ t d, lkS l E F (fun k => listed.getD k false) t l.length = some d → Rep s d (slot b t)) → s.M.length = M.length → (∀ i, i < M.length → s.M[i]? = memS E M (fun k => listed.getD k false) i l.length) →
      b.tmps.size = n.n → DfOk s0 s n.mks n.U b.defers → (∀ j i, listed.getD j false = true → j < l.length → ahead l i j = true → listed.getD i false = true) →
      wpAnyIn (wd (n.ρ s0)) 0 P .any l.toArray (PostK s0 n K) f listed b s.w := by
    intro f
    induction f with
    | zero =>
      intro listed b s h0 hs hu ht hF hMl hM hn hd _
      have hall := unl_zero _ hu
      refine ⟨?_, ?_⟩
      · cases hr : Region.ready .any l.toArray listed with
        | nil => rfl
        | cons i r =>
          have hi : i ∈ Region.ready .any l.toArray listed := by rw [hr]; exact List.mem_cons_self ..
          obtain ⟨h1, o, h2, _⟩ := mem_ready.1 hi
          have hil : i < l.length := by simpa using (Array.getElem?_eq_some_iff.1 h2).1
          rw [getD_tf hs hil, hall i hil] at h1
          cases h1
      · refine ⟨_, _, ⟨h0, s, ?_, rfl, ht, ?_, hn, hd⟩, e2⟩
        · refine List.ext_getElem? fun i => ?_
          by_cases hi : i < M.length
          · rw [hM i hi, mup_at i hi]
            exact memS_congr _ fun j r hj _ _ => hall j hj
          · rw [List.getElem?_eq_none (by omega), List.getElem?_eq_none (by rw [Mup_len]; omega)]
        · intro t d hd'
          rw [fup_lk] at hd'
          refine hF t d ?_
          rw [← hd']
          exact lkS_congr _ fun j o hj _ _ => hall j hj
    | succ f ih =>
      intro listed b s h0 hs hu ht hF hMl hM hn hd hcl
      refine ⟨fun hnone => ?_, fun i hi => ?_⟩
      · exfalso
        obtain ⟨i, h1, h2, h3⟩ := unl_some l.length (listed := listed) (by omega)
        obtain ⟨o, fi, ho, hfi⟩ := at_ i h1
        obtain ⟨g1, _⟩ := hone i o fi ho hfi
        have : i ∈ Region.ready .any l.toArray listed := mem_ready.2 ⟨by rw [getD_tf hs h1]; exact h2, o, by simpa using ho, fun e he hb => h3 _ (g1 e (by simpa using he) hb)⟩
        rw [hnone] at this
        cases this
      · obtain ⟨hun, o, ho, hall⟩ := mem_ready.1 hi
        have ho' : l[i]? = some o := by simpa using ho
        have hil : i < l.length := (List.getElem?_eq_some_iff.1 ho').1
        rw [getD_tf hs hil] at hun
        obtain ⟨fi, hfi⟩ : ∃ fi, fps[i]? = some fi := ⟨fps[i], List.getElem?_eq_getElem (by omega)⟩
        obtain ⟨pc, d, r, hr, hrd, hg, hop, hwi, hgw⟩ := e3 i o fi ho' hfi
        obtain ⟨g1, g2, hnd, g3, g4⟩ := hone i o fi ho' hfi
        -- what stands ahead of i has been done
        have done : ∀ j, ahead l j i = true → listed.getD j false = true := by
          intro j hj
          obtain ⟨e, he, hb, hcase⟩ := ahead_step ho' hj
          have h1 := hall e (by simpa using he) hb
          rcases hcase with rfl | ⟨h2, h3⟩
          · exact h1
          · exact hcl e.on j h1 (by omega) h3
        have undone : ∀ j, j < l.length → ahead l i j = true → listed.getD j false = false := by
          intro j hj h1
          cases e : listed.getD j false with
          | false => rfl
          | true => rw [hcl j i e hj h1] at hun; cases hun
        have tset : ∀ t, t ∈ namesOf l.toArray o → lkS l E F (fun k => listed.getD k false) t l.length = lkS l E F (fun _ => true) t i := by
          intro t ht
          rw [lkS_cut i l.length (by omega) fun j oj h1 h2 hj hjd => ?_]
          · refine lkS_congr i fun j oj hj hoj hjd => ?_
            obtain ⟨fj, hfj⟩ : ∃ fj, fps[j]? = some fj := ⟨fps[j], List.getElem?_eq_getElem (by omega)⟩
            rcases g4 j oj fj hj hoj hfj with h1 | h1
            · exact done j h1
            · exact (meet_no h1.1 (by simp [hjd]) ht).elim
          · by_cases e : j = i
            · subst e; exact hun
            · obtain ⟨fj, hfj⟩ : ∃ fj, fps[j]? = some fj := ⟨fps[j], List.getElem?_eq_getElem (by omega)⟩
              rcases (hone j oj fj hj hfj).2.2.2.2 i o fi (by omega) ho' hfi with h3 | h3
              · exact undone j h2 h3
              · exact (meet_no h3.2.1 ht (by simp [hjd])).elim
        have mset : ∀ x, x ∈ fi.1 → memS E M (fun k => listed.getD k false) x l.length = memS E M (fun _ => true) x i := by
          intro x hx
          have wmem : ∀ (j : Nat) rj fj, E[j]? = some rj → fps[j]? = some fj → j < l.length → (wrAt rj.wr x).isSome = true → x ∈ fj.2 := by
            intro j rj fj hrj hfj hj hw
            obtain ⟨oj, _, hoj, _⟩ := at_ j hj
            obtain ⟨_, _, r', hr', _, _, _, hw', _⟩ := e3 j oj fj hoj hfj
            rw [hrj] at hr'
            obtain rfl := Option.some.inj hr'
            rw [← hw']
            refine Classical.byContradiction fun hno => ?_
            rw [wrAt_none _ _ hno] at hw
            cases hw
          rw [memS_cut i l.length (by omega) fun j rj h1 h2 hrj hw => ?_]
          · refine memS_congr i fun j rj hj hrj hw => ?_
            obtain ⟨oj, fj, hoj, hfj⟩ := at_ j (by omega)
            rcases g4 j oj fj hj hoj hfj with h1 | h1
            · exact done j h1
            · exact (meet_no h1.2.2.1 (wmem j rj fj hrj hfj (by omega) hw) hx).elim
          · by_cases e : j = i
            · subst e; exact hun
            · obtain ⟨oj, fj, hoj, hfj⟩ := at_ j (by omega)
              rcases (hone j oj fj hoj hfj).2.2.2.2 i o fi (by omega) ho' hfi with h3 | h3
              · exact undone j h2 h3
              · exact (meet_no h3.2.2.2 hx (wmem j rj fj hrj hfj h2 hw)).elim
        have hslot : ∀ t d, t ∈ o.looksAt l.toArray → lk (Fup l E F i) t = some d → Rep s d (slot b t) := by
          intro t d' ht hd'
          refine hF t d' ?_
          rw [tset t (List.mem_append_left _ ht), ← fup_lk]
          exact hd'
        have next : ∀ (s' : St) (v : Value), Tr s s' → s'.M = upd s.M r.wr → Rep s' r.d v → wpAnyIn (wd (n.ρ s0)) 0 P .any l.toArray (PostK s0 n K) f (listed.setIfInBounds i true) (b.put o.dst v) s'.w := by
          intro s' v ht' hM' hrep
          have hset : ∀ k, (listed.setIfInBounds i true).getD k false = if i = k then true else listed.getD k false := fun k => getD_set _ _ _ (by rw [hs]; exact hil)
          refine ih _ _ s' h0 (by simp [hs]) ?_ (ht.trans ht') ?_ (by rw [hM', upd_len, hMl]) ?_ (by rw [put_size]; exact hn) (by rw [put_def]; exact hd.mono ht.ok ht') ?_
          · have := unl_set (by rw [hs]; exact hil) hun l.length
            rw [if_pos hil] at this
            omega
          · intro t d' hd'
            by_cases htd : o.dst = some t
            · have e : lkS l E F (fun k => (listed.setIfInBounds i true).getD k false) t l.length = some r.d := by
                rw [lkS_cut (i + 1) l.length (by omega) fun j oj h1 h2 hj hjd => ?_]
                · unfold lkS
                  rw [ho', hr]
                  simp only
                  rw [if_pos ⟨by rw [hset, if_pos rfl], htd⟩]
                · rw [hset, if_neg (by omega)]
                  obtain ⟨fj, hfj⟩ : ∃ fj, fps[j]? = some fj := ⟨fps[j], List.getElem?_eq_getElem (by omega)⟩
                  rcases (hone j oj fj hj hfj).2.2.2.2 i o fi (by omega) ho' hfi with h3 | h3
                  · exact undone j h2 h3
                  · exact (meet_no (t := t) h3.2.1 (List.mem_append_right _ (by simp [htd])) (by simp [hjd])).elim
              rw [e] at hd'
              obtain rfl := Option.some.inj hd'
              have hsz : t < b.tmps.size := by
                rw [htd] at g2
                rw [hn]
                exact Nat.blt_eq.mp g2
              rw [htd, slot_put, if_pos ⟨rfl, hsz⟩]
              exact hrep
            · have e : slot (b.put o.dst v) t = slot b t := by
                cases hod : o.dst with
                | none => rfl
                | some x => rw [slot_put, if_neg (fun q => htd (by rw [hod, q.1]))]
              rw [e]
              refine (hF t d' ?_).mono ht.ok ht'
              rw [← hd']
              refine lkS_congr _ fun j oj hj hoj hjd => ?_
              rw [hset]
              by_cases ej : i = j
              · subst ej
                rw [ho'] at hoj
                obtain rfl := Option.some.inj hoj
                exact absurd hjd htd
              · rw [if_neg ej]
          · intro x hx
            rw [hM', upd_get _ _ _ (by omega), hM x hx]
            cases hw : wrAt r.wr x with
            | none =>
              rw [Option.none_or]
              refine memS_congr _ fun j rj hj hrj hwj => ?_
              rw [hset]
              by_cases ej : i = j
              · subst ej
                rw [hr] at hrj
                obtain rfl := Option.some.inj hrj
                rw [hw] at hwj; cases hwj
              · rw [if_neg ej]
            | some k =>
              rw [Option.some_or]
              have hxw : x ∈ fi.2 := by
                rw [← hwi]
                refine Classical.byContradiction fun hno => ?_
                rw [wrAt_none _ _ hno] at hw
                cases hw
              rw [memS_cut (i + 1) l.length (by omega) fun j rj h1 h2 hrj hwj => ?_]
              · unfold memS
                rw [hr]
                simp only
                rw [if_pos (by rw [hset, if_pos rfl]), hw, Option.some_or]
              · rw [hset, if_neg (by omega)]
                obtain ⟨oj, fj, hoj, hfj⟩ := at_ j (by omega)
                rcases (hone j oj fj hoj hfj).2.2.2.2 i o fi (by omega) ho' hfi with h3 | h3
                · exact undone j h2 h3
                · refine (meet_no h3.2.2.2 (g3 x hxw) ?_).elim
                  obtain ⟨_, _, r', hr', _, _, _, hw', _⟩ := e3 j oj fj hoj hfj
                  rw [hrj] at hr'
                  obtain rfl := Option.some.inj hr'
                  rw [← hw']
                  refine Classical.byContradiction fun hno => ?_
                  rw [wrAt_none _ _ hno] at hwj
                  cases hwj
          · intro j k hj hjl hk
            rw [hset] at hj ⊢
            by_cases e : i = k
            · rw [if_pos e]
            · rw [if_neg e]
              by_cases ej : i = j
              · subst ej; exact done k hk
              · rw [if_neg ej] at hj
                exact hcl j k hj hjl hk
        unfold wpOpIn
        rw [ho]
        simp only
        rw [gd_wanted hg hslot]
        cases pc with
        | true =>
          rw [if_pos rfl]
          refine dgives_in hnd (hop rfl b s ht.ok (fun x hx d' hd' => ?_) (fun x hx => ?_)) fun s' v ht' ⟨q1, q2⟩ => next s' v ht' q1 ?_
          · cases x with
            | tmp t => exact hslot t d' (List.mem_append_left _ (List.mem_filterMap.2 ⟨.tmp t, by simpa using hx, rfl⟩)) hd'
            | const v => obtain rfl := Option.some.inj hd'; exact .val v
            | func g => obtain rfl := Option.some.inj hd'; exact Rep.fn (vs := []) (us := []) rfl rfl (fun j d v h => by simp at h) (fun j d v h => by simp at h)
            | global g => cases hd'
          · by_cases hxl : x < M.length
            · rw [hM x hxl, mup_at x hxl, mset x hx]
            · rw [List.getElem?_eq_none (by omega), List.getElem?_eq_none (by rw [Mup_len]; omega)]
          · rw [hrd]
            unfold gdd
            split
            · exact q2
            · exact .opt (fun _ => q2) (fun h => by cases h)
        | false =>
          rw [if_neg (by simp)]
          have hgs : o.guard.isSome = true := by
            unfold Gd at hg
            cases e : o.guard with
            | none => rw [e] at hg; cases hg
            | some x => rfl
          refine ⟨fun _ _ => trivial, next s undef (Tr.refl ht.ok) (by rw [hgw rfl]; rfl) ?_⟩
          rw [hrd]
          unfold gdd
          split
          · rename_i e; rw [e] at hgs; cases hgs
          · exact .opt (fun h => by cases h) (fun _ => rfl)
  obtain ⟨h0, s, h1, h2, h3, h4, h5, h6⟩ := hi
  subst h1 h2
  have hst := step_same h3.ok { s.w with drawn := s.w.drawn + 1 } rfl rfl rfl rfl
  have hno : ∀ k, (Array.replicate l.toArray.size false).getD k false = false := fun k => by
    simp only [Array.getD_eq_getD_getElem?, Array.getElem?_replicate]
    split <;> rfl
  have := main l.length (Array.replicate l.toArray.size false) a ⟨s.β, s.I, s.M, { s.w with drawn := s.w.drawn + 1 }⟩ h0 (by simp) (by
      have := unl_start l.toArray.size l.length (by simp)
      exact this) (h3.trans hst) (fun t d hd => ?_) rfl (fun i hi => ?_) h5 (h6.mono h3.ok hst) (fun j i hj => by rw [hno] at hj; cases hj)
  · simpa using this
  · rw [lkS_cut 0 l.length (by omega) fun j o _ _ _ _ => hno j] at hd
    exact (h4 t d hd).mono h3.ok hst
  · rw [memS_cut 0 l.length (by omega) fun j r _ _ _ _ => hno j]
    rfl
end Go.Proofs.Ytgomklemldldiaa
