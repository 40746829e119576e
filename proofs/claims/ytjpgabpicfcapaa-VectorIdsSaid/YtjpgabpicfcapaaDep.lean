/- A region that draws its order, walked once, each operation from what it looks at alone: its head in whatever order its edges allow, its tail as it is forced.
   A slot may be hidden: of what it holds a fact is known that stays while nothing that is there is changed (a row just made, say). Conditions: the kernel's look at the region's edges. -/
import Derived.Test.YtjpgabpicfcapaaNear
namespace Go.Proofs.Ytjpgabpicfcapaa
open Go.RowKit

/-- A slot of whose value a fact is known. -/
structure Hid where
  t : Tmp
  φ : Value → World → Prop

/-- It stays, while nothing that is there is changed. -/
def Stays (φ : World → Prop) : Prop := ∀ w w' : World, Below w.heap.size w w' → φ w → φ w'

/-- The frame with values in the hidden slots. -/
def fillV : List Hid → (Tmp → Value) → Act → Act
  | [], _, a => a
  | h :: l, f, a => fillV l f (a.put (some h.t) (f h.t))

/-- What is asked of a callee. -/
def CallsTo (P : Program) (f : FuncId) (args : Array Value) (w : World) (post : Value → World → Prop) : Prop :=
  Calls P f args w (fun e w'' => ∃ u, e = .returned u ∧ Below w.heap.size w w'' ∧ post u w'')

/-- What is asked of an operation's run in the world w. -/
def gives (P : Program) (w : World) (post : Value → World → Prop) : Result Next → Prop
  | .ok (.value u) w' => Below w.heap.size w w' ∧ post u w'
  | .ok .skip w' => Below w.heap.size w w' ∧ post undef w'
  | .ok (.enter f args) w' => w' = w ∧ CallsTo P f args w post
  | _ => False

@[go_sem] theorem gives_value (P : Program) (w w' : World) (post : Value → World → Prop) (u : Value) : gives P w post (.ok (.value u) w') = (Below w.heap.size w w' ∧ post u w') := rfl
@[go_sem] theorem gives_skip (P : Program) (w w' : World) (post : Value → World → Prop) : gives P w post (.ok .skip w') = (Below w.heap.size w w' ∧ post undef w') := rfl
@[go_sem] theorem gives_enter (P : Program) (w w' : World) (post : Value → World → Prop) (f : FuncId) (args : Array Value) : gives P w post (.ok (.enter f args) w') = (w' = w ∧ CallsTo P f args w post) := rfl
@[go_sem] theorem below_self (B : Nat) (w : World) : Below B w w = True := eq_true (Below.refl B w)

theorem callsTo_of {P : Program} {f : FuncId} {args : Array Value} {w : World} {v : Value} (h : Calls P f args w fun e w' => e = .returned v ∧ Below w.heap.size w w') : CallsTo P f args w (fun u _ => u = v) :=
  h.mono fun _ _ ⟨he, hb⟩ => ⟨v, he, hb, rfl⟩
theorem callsTo_same {P : Program} {f : FuncId} {args : Array Value} {w : World} {v : Value} (h : Calls P f args w fun e w' => e = .returned v ∧ w = w') : CallsTo P f args w (fun u _ => u = v) :=
  h.mono fun _ _ ⟨he, hb⟩ => ⟨v, he, by subst hb; exact Below.refl _ _, rfl⟩

/-- The slot of an operation's guard. -/
def guardAt (ops : Array Oper) (o : Oper) : Option Tmp := o.guard.bind fun g => (ops[g.1]?).bind (·.dst)

/-- The walk in the text's order. -/
def wpDep (P : Program) (ops : Array Oper) (B : Nat) (w0 : World) (Q : List Hid → Act → Prop) : List Oper → List Hid → Act → Prop
  | [], hid, a => Q hid a
  | o :: rest, hid, a =>
    (∀ h ∈ hid, guardAt ops o ≠ some h.t) ∧
    if Region.wanted o (yielded ops a.tmps) then
      (∃ v, (∀ (f : Tmp → Value) (n : Near B w0), (∀ h ∈ hid, h.t ∈ o.looksAt ops → h.φ (f h.t) n.u) → gives P n.u (fun u _ => u = v) ((execOp (fillV hid f a).eval o).run P n.u)) ∧
        wpDep P ops B w0 Q rest hid (a.put o.dst v)) ∨
      (∃ d φ, o.dst = some d ∧ (∀ v, Stays (φ v)) ∧ (∀ (f : Tmp → Value) (n : Near B w0), (∀ h ∈ hid, h.t ∈ o.looksAt ops → h.φ (f h.t) n.u) → gives P n.u φ ((execOp (fillV hid f a).eval o).run P n.u)) ∧
        wpDep P ops B w0 Q rest (⟨d, φ⟩ :: hid) (a.put (some d) undef))
    else wpDep P ops B w0 Q rest hid (a.put o.dst undef)

/-! ### frames, slot by slot -/

def Act.at' (a : Act) (t : Tmp) : Value := a.tmps.getD t undef

theorem Act.put_at (a : Act) (d t : Tmp) (v : Value) : Act.at' (a.put (some d) v) t = if t = d ∧ d < a.tmps.size then v else Act.at' a t := by
  unfold Act.at' Act.put
  simp only [Array.getD_eq_getD_getElem?, Array.getElem?_setIfInBounds]
  by_cases h : d = t
  · subst h
    by_cases h2 : d < a.tmps.size
    · simp [h2]
    · simp [h2]
  · simp [h, Ne.symm h]

theorem Act.put_size (a : Act) (d : Option Tmp) (v : Value) : (a.put d v).tmps.size = a.tmps.size := by
  cases d <;> simp [Act.put]
theorem Act.put_def (a : Act) (d : Option Tmp) (v : Value) : (a.put d v).defers = a.defers := by
  cases d <;> rfl

theorem fillV_size (l : List Hid) (f : Tmp → Value) : ∀ a : Act, (fillV l f a).tmps.size = a.tmps.size := by
  induction l with
  | nil => intro a; rfl
  | cons h l ih => intro a; rw [fillV, ih, Act.put_size]
theorem fillV_def (l : List Hid) (f : Tmp → Value) : ∀ a : Act, (fillV l f a).defers = a.defers := by
  induction l with
  | nil => intro a; rfl
  | cons h l ih => intro a; rw [fillV, ih, Act.put_def]
theorem fillV_out (l : List Hid) (f : Tmp → Value) (t : Tmp) (ht : ∀ h ∈ l, h.t ≠ t) : ∀ a : Act, Act.at' (fillV l f a) t = Act.at' a t := by
  induction l with
  | nil => intro a; rfl
  | cons h l ih =>
    intro a
    rw [fillV, ih (fun x hx => ht x (List.mem_cons_of_mem _ hx)), Act.put_at, if_neg (fun e => ht h (List.mem_cons_self ..) e.1.symm)]
theorem fillV_in (l : List Hid) (f : Tmp → Value) (t : Tmp) : ∀ a : Act, (∃ h ∈ l, h.t = t) → t < a.tmps.size → Act.at' (fillV l f a) t = f t := by
  induction l with
  | nil => intro a h; obtain ⟨h, hm, _⟩ := h; cases hm
  | cons h l ih =>
    intro a hx ht
    rw [fillV]
    by_cases hl : ∃ x ∈ l, x.t = t
    · exact ih _ hl (by rw [Act.put_size]; exact ht)
    · rw [fillV_out l f t (fun x hm e => hl ⟨x, hm, e⟩), Act.put_at]
      obtain ⟨x, hm, e⟩ := hx
      rcases List.mem_cons.1 hm with rfl | hm
      · subst e; rw [if_pos ⟨rfl, ht⟩]
      · exact absurd ⟨x, hm, e⟩ hl

theorem Act.ext_at {a b : Act} (hs : a.tmps.size = b.tmps.size) (hd : a.defers = b.defers) (h : ∀ t, Act.at' a t = Act.at' b t) : a = b := by
  obtain ⟨x, d⟩ := a
  obtain ⟨y, e⟩ := b
  have hs' : x.size = y.size := hs
  have : x = y := Array.ext hs' fun i h1 h2 => by
    have := h i
    simpa [Act.at', h1, h2] using this
  subst this
  have hd' : d = e := hd
  subst hd'
  rfl

/-! ### the steps of a walk -/

def notSelect (o : Oper) : Bool := match o.op with | .select .. => false | _ => true
theorem notSelect_spec {o : Oper} (h : notSelect o = true) : ∀ cs x, o.op ≠ .select cs x := by
  intro cs x e; simp [notSelect, e] at h
/-- The operation looks at no hidden slot. -/
def looksPast (ops : Array Oper) (hid : List Hid) (o : Oper) : Bool := notSelect o && hid.all fun h => !(o.looksAt ops).contains h.t
/-- .. at none but t. -/
def looksAlone (ops : Array Oper) (hid : List Hid) (o : Oper) (t : Tmp) : Bool := notSelect o && hid.all (fun h => h.t == t || !(o.looksAt ops).contains h.t) && guardAt ops o != some t && (o.looksAt ops).contains t


structure Rec where
  dst : Option Tmp
  φ : Value → World → Prop

/-- The slot t of the frame a holds what the records say. -/
def Fits (E : List Rec) (a0 a : Act) (w : World) (t : Tmp) : Prop :=
  (∀ r ∈ E, r.dst = some t → r.φ (Act.at' a t) w) ∧ ((∀ r ∈ E, r.dst ≠ some t) → Act.at' a t = Act.at' a0 t)

/-- The text's frame and hidden slots against the records. -/
structure Lex (E : List Rec) (a0 aL : Act) (hid : List Hid) : Prop where
  size : aL.tmps.size = a0.tmps.size
  defs : aL.defers = a0.defers
  old : ∀ h ∈ hid, ∃ r ∈ E, r.dst = some h.t
  seen : ∀ (a : Act) (w : World) (t : Tmp), Fits E a0 a w t → ∀ h ∈ hid, h.t = t → h.φ (Act.at' a t) w
  plain : ∀ (a : Act) (w : World) (t : Tmp), Fits E a0 a w t → (∀ h ∈ hid, h.t ≠ t) → Act.at' aL t = Act.at' a t

theorem Fits.front {E : List Rec} {r : Rec} {a0 a : Act} {w : World} {t : Tmp} (h : Fits (E ++ [r]) a0 a w t) (hr : r.dst ≠ some t) : Fits E a0 a w t :=
  ⟨fun x hx => h.1 x (List.mem_append_left _ hx), fun hn => h.2 fun x hx => by
    rcases List.mem_append.1 hx with hx | hx
    · exact hn x hx
    · rw [List.mem_singleton.1 hx]; exact hr⟩

theorem Lex.start (a0 : Act) : Lex [] a0 a0 [] :=
  ⟨rfl, rfl, fun h hm => (by cases hm), fun _ _ _ _ h hm => (by cases hm), fun _ _ _ hf _ => (hf.2 (fun r hr => (by cases hr))).symm⟩

theorem Lex.put {E : List Rec} {a0 aL : Act} {hid : List Hid} (L : Lex E a0 aL hid) {dst : Option Tmp} (v : Value)
    (hnew : ∀ d, dst = some d → (∀ r ∈ E, r.dst ≠ some d) ∧ d < a0.tmps.size) : Lex (E ++ [⟨dst, fun u _ => u = v⟩]) a0 (aL.put dst v) hid := by
  refine ⟨by rw [Act.put_size]; exact L.size, by rw [Act.put_def]; exact L.defs, fun h hm => ?_, fun a w t hf h hm ht => ?_, fun a w t hf hn => ?_⟩
  · obtain ⟨r, hr, e⟩ := L.old h hm; exact ⟨r, List.mem_append_left _ hr, e⟩
  · refine L.seen a w t (hf.front fun e => ?_) h hm ht
    obtain ⟨r, hr, e2⟩ := L.old h hm
    exact (hnew t e).1 r hr (by rw [e2, ht])
  · by_cases e : dst = some t
    · subst e
      have h1 : Act.at' a t = v := hf.1 ⟨some t, fun u _ => u = v⟩ (by simp) rfl
      rw [Act.put_at, if_pos ⟨rfl, by rw [L.size]; exact (hnew t rfl).2⟩, h1]
    · have h1 := L.plain a w t (hf.front e) hn
      cases dst with
      | none => exact h1
      | some d => rw [Act.put_at, if_neg (fun x => e (by rw [x.1]))]; exact h1

theorem Lex.hide {E : List Rec} {a0 aL : Act} {hid : List Hid} (L : Lex E a0 aL hid) {d : Tmp} (φ : Value → World → Prop)
    (hnew : ∀ r ∈ E, r.dst ≠ some d) : Lex (E ++ [⟨some d, φ⟩]) a0 (aL.put (some d) undef) (⟨d, φ⟩ :: hid) := by
  refine ⟨by rw [Act.put_size]; exact L.size, by rw [Act.put_def]; exact L.defs, fun h hm => ?_, fun a w t hf h hm ht => ?_, fun a w t hf hn => ?_⟩
  · rcases List.mem_cons.1 hm with rfl | hm
    · exact ⟨⟨some d, φ⟩, by simp, rfl⟩
    · obtain ⟨r, hr, e⟩ := L.old h hm; exact ⟨r, List.mem_append_left _ hr, e⟩
  · rcases List.mem_cons.1 hm with rfl | hm
    · exact hf.1 ⟨some d, φ⟩ (by simp) (by simpa using ht)
    · refine L.seen a w t (hf.front fun e => ?_) h hm ht
      obtain ⟨r, hr, e2⟩ := L.old h hm
      exact hnew r hr (by rw [e2, ht]; exact e.symm)
  · have hne : d ≠ t := hn ⟨d, φ⟩ (List.mem_cons_self ..)
    rw [Act.put_at, if_neg (fun x => hne x.1.symm)]
    exact L.plain a w t (hf.front (fun e => hne (by simpa using e))) (fun h hm => hn h (List.mem_cons_of_mem _ hm))

/-- What is known of an operation, its records ahead of it. -/
def OpOk (P : Program) (ops : Array Oper) (B : Nat) (w0 : World) (a0 : Act) (E : List Rec) (o : Oper) (r : Rec) : Prop :=
  r.dst = o.dst ∧ (∀ v, Stays (r.φ v)) ∧ ∀ (a : Act) (n : Near B w0), a.tmps.size = a0.tmps.size → (∀ t ∈ o.looksAt ops, Fits E a0 a n.u t) →
    (Region.wanted o (yielded ops a.tmps) = true ∧ gives P n.u r.φ ((execOp a.eval o).run P n.u)) ∨ (Region.wanted o (yielded ops a.tmps) = false ∧ r.φ undef n.u)

theorem eval_of {ops : Array Oper} {o : Oper} {a b : Act} (hsel : ∀ cs x, o.op ≠ .select cs x) (h : ∀ t ∈ o.looksAt ops, Act.at' a t = Act.at' b t) : execOp a.eval o = execOp b.eval o :=
  execOp_congr o hsel fun x hx => by
    cases x with
    | tmp t => exact h t (List.mem_append_left _ (List.mem_filterMap.2 ⟨.tmp t, by simpa using hx, rfl⟩))
    | _ => rfl

theorem wanted_of {ops : Array Oper} {o : Oper} {a b : Act} (hs : a.tmps.size = b.tmps.size) (h : ∀ t, guardAt ops o = some t → Act.at' a t = Act.at' b t) :
    Region.wanted o (yielded ops a.tmps) = Region.wanted o (yielded ops b.tmps) := by
  unfold Region.wanted
  cases hg : o.guard with
  | none => rfl
  | some gw =>
    obtain ⟨g, want⟩ := gw
    have hy : yielded ops a.tmps g = yielded ops b.tmps g := by
      unfold yielded
      cases ht : (ops[g]?).bind (·.dst) with
      | none => rfl
      | some t =>
        have h1 := h t (by simp [guardAt, hg, ht])
        have : a.tmps[t]? = b.tmps[t]? := by
          by_cases hlt : t < a.tmps.size
          · have hlt' : t < b.tmps.size := hs ▸ hlt
            simpa [Act.at', hlt, hlt'] using h1
          · rw [Array.getElem?_eq_none (Nat.le_of_not_lt hlt), Array.getElem?_eq_none (Nat.le_of_not_lt (hs ▸ hlt))]
        simp [this]
    simp only [hy]

theorem guard_looks {ops : Array Oper} {o : Oper} {t : Tmp} (h : guardAt ops o = some t) : t ∈ o.looksAt ops := by
  unfold guardAt at h
  unfold Oper.looksAt
  refine List.mem_append_right _ ?_
  cases hg : o.guard with
  | none => rw [hg] at h; cases h
  | some gw => rw [hg] at h; simp at h; simp [h]

theorem stays_eq (v : Value) : ∀ u, Stays ((fun (u : Value) (_ : World) => u = v) u) := fun _ _ _ _ h => h

/-- **The lexical walk gives a record for each operation.** -/
theorem lex_walk {P : Program} {ops : Array Oper} {B : Nat} {w0 : World} {a0 : Act} {Q : List Hid → Act → Prop} (hsel : ∀ o ∈ ops, ∀ cs x, o.op ≠ .select cs x) (l : List Oper) :
    ∀ (E : List Rec) (hid : List Hid) (aL : Act), Lex E a0 aL hid → (∀ o ∈ l, o ∈ ops) →
    (∀ (k : Nat) (o : Oper), l[k]? = some o → ∀ d, o.dst = some d → d < a0.tmps.size ∧ (∀ r ∈ E, r.dst ≠ some d) ∧ ∀ (j : Nat) (p : Oper), j < k → l[j]? = some p → p.dst ≠ some d) →
    wpDep P ops B w0 Q l hid aL →
    ∃ (E' : List Rec) (hid' : List Hid) (aE : Act), E'.length = l.length ∧ (∀ (k : Nat) (o : Oper), l[k]? = some o → ∃ r, E'[k]? = some r ∧ OpOk P ops B w0 a0 (E ++ E'.take k) o r) ∧ Lex (E ++ E') a0 aE hid' ∧ Q hid' aE := by
  induction l with
  | nil => intro E hid aL L _ _ h; exact ⟨[], hid, aL, rfl, fun k o e => by simp at e, by simpa using L, h⟩
  | cons o l ih =>
    intro E hid aL L hm hd h
    obtain ⟨hguard, h⟩ := h
    have hd0 := hd 0 o rfl
    have hrest : ∀ (r : Rec), r.dst = o.dst → ∀ (k : Nat) (p : Oper), l[k]? = some p → ∀ d, p.dst = some d → d < a0.tmps.size ∧ (∀ x ∈ E ++ [r], x.dst ≠ some d) ∧ ∀ (j : Nat) (q : Oper), j < k → l[j]? = some q → q.dst ≠ some d := by
      intro r hr k p hk d hp
      obtain ⟨h1, h2, h3⟩ := hd (k + 1) p (by simpa using hk) d hp
      refine ⟨h1, fun x hx => ?_, fun j q hj hq => h3 (j + 1) q (by omega) (by simpa using hq)⟩
      rcases List.mem_append.1 hx with hx | hx
      · exact h2 x hx
      · rw [List.mem_singleton.1 hx, hr]; exact h3 0 o (by omega) rfl
    have hso := hsel o (hm o (List.mem_cons_self ..))
    have hex : ∀ (a : Act) (n : Near B w0), a.tmps.size = a0.tmps.size → (∀ t ∈ o.looksAt ops, Fits E a0 a n.u t) →
        (∀ h ∈ hid, h.t ∈ o.looksAt ops → h.φ (Act.at' a h.t) n.u) ∧ execOp (fillV hid (Act.at' a) aL).eval o = execOp a.eval o ∧ Region.wanted o (yielded ops aL.tmps) = Region.wanted o (yielded ops a.tmps) := by
      intro a n hs hf
      refine ⟨fun h hm ht => L.seen a n.u h.t (hf _ ht) h hm rfl, eval_of (ops := ops) hso fun t ht => ?_, wanted_of (by rw [hs]; exact L.size) fun t ht => L.plain a n.u t (hf t (guard_looks ht)) (fun h hm e => hguard h hm (by rw [ht, e]))⟩
      by_cases hx : ∃ h ∈ hid, h.t = t
      · by_cases hlt : t < aL.tmps.size
        · exact fillV_in _ _ _ _ hx hlt
        · have h1 : ∀ (b : Act), b.tmps.size = aL.tmps.size → Act.at' b t = undef := fun b hb => by
            unfold Act.at'; rw [Array.getD_eq_getD_getElem?, Array.getElem?_eq_none (Nat.le_of_not_lt (hb ▸ hlt))]; rfl
          rw [h1 _ (fillV_size _ _ _), h1 a (by rw [hs, L.size])]
      · rw [fillV_out _ _ _ (fun h hm e => hx ⟨h, hm, e⟩)]
        exact L.plain a n.u t (hf t ht) (fun h hm e => hx ⟨h, hm, e⟩)
    have fin : ∀ (r : Rec) (hid1 : List Hid) (a1 : Act), r.dst = o.dst → OpOk P ops B w0 a0 E o r → Lex (E ++ [r]) a0 a1 hid1 → wpDep P ops B w0 Q l hid1 a1 →
        ∃ (E' : List Rec) (hid' : List Hid) (aE : Act), E'.length = (o :: l).length ∧ (∀ (k : Nat) (p : Oper), (o :: l)[k]? = some p → ∃ r, E'[k]? = some r ∧ OpOk P ops B w0 a0 (E ++ E'.take k) p r) ∧ Lex (E ++ E') a0 aE hid' ∧ Q hid' aE := by
      intro r hid1 a1 hr hok L1 hw
      obtain ⟨E', hid', aE, e1, e2, e3, e4⟩ := ih (E ++ [r]) hid1 a1 L1 (fun p hp => hm p (List.mem_cons_of_mem _ hp)) (hrest r hr) hw
      refine ⟨r :: E', hid', aE, by simp [e1], fun k p hk => ?_, by simpa using e3, e4⟩
      cases k with
      | zero => simp at hk; subst hk; exact ⟨r, rfl, by simpa using hok⟩
      | succ k => obtain ⟨x, hx, hy⟩ := e2 k p (by simpa using hk); exact ⟨x, by simpa using hx, by simpa using hy⟩
    by_cases hwant : Region.wanted o (yielded ops aL.tmps) = true
    · rw [if_pos hwant] at h
      rcases h with ⟨v, hv, hrestw⟩ | ⟨d, φ, hdst, hst, hv, hrestw⟩
      · refine fin ⟨o.dst, fun u _ => u = v⟩ hid _ rfl ⟨rfl, stays_eq v, fun a n hs hf => ?_⟩ (L.put v fun d e => ⟨(hd0 d e).2.1, (hd0 d e).1⟩) hrestw
        obtain ⟨g1, g2, g3⟩ := hex a n hs hf
        exact .inl ⟨by rw [← g3]; exact hwant, by rw [← g2]; exact hv _ n g1⟩
      · refine fin ⟨some d, φ⟩ _ _ hdst.symm ⟨hdst.symm, hst, fun a n hs hf => ?_⟩ (L.hide φ (hd0 d hdst).2.1) hrestw
        obtain ⟨g1, g2, g3⟩ := hex a n hs hf
        exact .inl ⟨by rw [← g3]; exact hwant, by rw [← g2]; exact hv _ n g1⟩
    · rw [if_neg hwant] at h
      refine fin ⟨o.dst, fun u _ => u = undef⟩ hid _ rfl ⟨rfl, stays_eq _, fun a n hs hf => ?_⟩ (L.put undef fun d e => ⟨(hd0 d e).2.1, (hd0 d e).1⟩) h
      obtain ⟨_, _, g3⟩ := hex a n hs hf
      exact .inr ⟨by rw [← g3]; simpa using hwant, rfl⟩

section
variable {P : Program} {ops : Array Oper} {B : Nat} {w0 : World} {Q : List Hid → Act → Prop} {o : Oper} {rest : List Oper} {hid : List Hid} {a : Act}

theorem looksPast_spec (h : looksPast ops hid o = true) : (∀ cs x, o.op ≠ .select cs x) ∧ ∀ h ∈ hid, h.t ∉ o.looksAt ops := by
  simp only [looksPast, Bool.and_eq_true] at h
  refine ⟨notSelect_spec h.1, fun x hx hm => ?_⟩
  have := List.all_eq_true.1 h.2 x hx
  simp [hm] at this

theorem past_eval (h : looksPast ops hid o = true) (f : Tmp → Value) : execOp (fillV hid f a).eval o = execOp a.eval o :=
  eval_of (ops := ops) (looksPast_spec h).1 fun _ ht => fillV_out _ _ _ (fun x hx e => (looksPast_spec h).2 x hx (e ▸ ht)) a

/-- An operation with one value. -/
theorem wpDep_plain (hl : looksPast ops hid o = true)
    (h : ∀ K : Act → Prop, (∀ a', wpDep P ops B w0 Q rest hid a' → K a') → if Region.wanted o (yielded ops a.tmps) then ∃ v, (∀ n : Near B w0, gives P n.u (fun u _ => u = v) ((execOp a.eval o).run P n.u)) ∧ K (a.put o.dst v) else K (a.put o.dst undef)) :
    wpDep P ops B w0 Q (o :: rest) hid a := by
  have h' := h _ (fun _ x => x)
  refine ⟨fun x hx e => (looksPast_spec hl).2 x hx (guard_looks e), ?_⟩
  split
  · rename_i hw
    rw [if_pos hw] at h'
    obtain ⟨v, hv, hr⟩ := h'
    exact .inl ⟨v, fun f n _ => by rw [past_eval hl]; exact hv n, hr⟩
  · rename_i hw
    rwa [if_neg hw] at h'

/-- An operation that makes what is then known by a fact alone. -/
theorem wpDep_make {d : Tmp} (φ : Value → World → Prop) (hl : looksPast ops hid o = true) (hd : o.dst = some d) (hs : ∀ v, Stays (φ v)) (hw : Region.wanted o (yielded ops a.tmps) = true)
    (h : ∀ n : Near B w0, gives P n.u φ ((execOp a.eval o).run P n.u)) (hr : wpDep P ops B w0 Q rest (⟨d, φ⟩ :: hid) (a.put (some d) undef)) : wpDep P ops B w0 Q (o :: rest) hid a := by
  refine ⟨fun x hx e => (looksPast_spec hl).2 x hx (guard_looks e), ?_⟩
  rw [if_pos hw]
  exact .inr ⟨d, φ, hd, hs, fun f n _ => by rw [past_eval hl]; exact h n, hr⟩

/-- An operation that looks at one hidden slot, with one value all the same. -/
theorem wpDep_use {t : Tmp} {φ : Value → World → Prop} (hm : ⟨t, φ⟩ ∈ hid) (hl : looksAlone ops hid o t = true) (hsz : t < a.tmps.size) (hw : Region.wanted o (yielded ops a.tmps) = true) (v : Value)
    (h : ∀ (x : Value) (n : Near B w0), φ x n.u → gives P n.u (fun u _ => u = v) ((execOp (a.put (some t) x).eval o).run P n.u)) (hr : wpDep P ops B w0 Q rest hid (a.put o.dst v)) : wpDep P ops B w0 Q (o :: rest) hid a := by
  simp only [looksAlone, Bool.and_eq_true] at hl
  obtain ⟨⟨⟨h1, h2⟩, h3⟩, h4⟩ := hl
  have hne : ∀ x ∈ hid, x.t ≠ t → x.t ∉ o.looksAt ops := fun x hx hxt hm => by
    have := List.all_eq_true.1 h2 x hx
    simp [hxt, hm] at this
  refine ⟨fun x hx e => ?_, ?_⟩
  · by_cases hxt : x.t = t
    · rw [hxt] at e; rw [e] at h3; simp at h3
    · exact hne x hx hxt (guard_looks e)
  · rw [if_pos hw]
    refine .inl ⟨v, fun f n hf => ?_, hr⟩
    have he : execOp (fillV hid f a).eval o = execOp (a.put (some t) (f t)).eval o := eval_of (ops := ops) (notSelect_spec h1) fun s hs => by
      by_cases hst : s = t
      · subst hst
        rw [fillV_in _ _ _ _ ⟨_, hm, rfl⟩ hsz, Act.put_at, if_pos ⟨rfl, hsz⟩]
      · rw [Act.put_at, if_neg (fun q => hst q.1)]
        exact fillV_out _ _ _ (fun x hx e => hne x hx (fun q => hst (by rw [← e, q])) (e ▸ hs)) a
    rw [he]
    exact h _ n (hf _ hm (by simpa using h4))

theorem wpDep_nil (h : Q hid a) : wpDep P ops B w0 Q [] hid a := h
end

/-! ### whatever order comes -/

/-- How many of the first n have not come. -/
def cnt (listed : Array Bool) (n : Nat) : Nat := (List.range n).countP fun i => !listed.getD i true

theorem cnt_succ (listed : Array Bool) (n : Nat) : cnt listed (n + 1) = cnt listed n + if listed.getD n true then 0 else 1 := by
  unfold cnt
  rw [List.range_succ, List.countP_append]
  cases hx : listed.getD n true <;> simp only [List.countP_cons, List.countP_nil, hx] <;> rfl

theorem cnt_set_out (listed : Array Bool) (i n : Nat) (h : n ≤ i) : cnt (listed.setIfInBounds i true) n = cnt listed n := by
  induction n with
  | zero => rfl
  | succ n ih => rw [cnt_succ, cnt_succ, ih (by omega), getD_set_ne true (by omega)]

theorem cnt_set (listed : Array Bool) (i n : Nat) (h : i < n) (hu : listed.getD i true = false) : cnt (listed.setIfInBounds i true) n + 1 = cnt listed n := by
  induction n with
  | zero => omega
  | succ n ih =>
    rw [cnt_succ, cnt_succ]
    by_cases e : i = n
    · subst e
      have hlt : i < listed.size := by
        rcases Nat.lt_or_ge i listed.size with h' | h'
        · exact h'
        · simp [Array.getElem?_eq_none h'] at hu
      rw [cnt_set_out _ _ _ (Nat.le_refl _), hu]
      simp [hlt]
    · have := ih (by omega)
      rw [getD_set_ne true e]
      omega

theorem cnt_none (listed : Array Bool) (n : Nat) (h : cnt listed n = 0) : ∀ i, i < n → listed.getD i true = true := by
  induction n with
  | zero => intro i hi; omega
  | succ n ih =>
    rw [cnt_succ] at h
    intro i hi
    by_cases e : i = n
    · subst e
      by_cases hx : listed.getD i true = true
      · exact hx
      · rw [if_neg hx] at h; omega
    · exact ih (by omega) i (by omega)

theorem cnt_some (listed : Array Bool) (n : Nat) (h : cnt listed n ≠ 0) : ∃ i, i < n ∧ listed.getD i true = false ∧ ∀ j, j < i → listed.getD j true = true := by
  induction n with
  | zero => exact absurd rfl h
  | succ n ih =>
    by_cases h0 : cnt listed n = 0
    · refine ⟨n, by omega, ?_, fun j hj => cnt_none listed n h0 j hj⟩
      rw [cnt_succ, h0] at h
      cases hx : listed.getD n true with
      | true => rw [hx] at h; simp at h
      | false => rfl
    · obtain ⟨i, h1, h2, h3⟩ := ih h0
      exact ⟨i, by omega, h2, h3⟩

theorem cnt_start (m n : Nat) (h : n ≤ m) : cnt (Array.replicate m false) n = n := by
  induction n with
  | zero => rfl
  | succ n ih =>
    rw [cnt_succ, ih (by omega)]
    have : (Array.replicate m false).getD n true = false := by rw [Array.getD_eq_getD_getElem?]; simp [show n < m by omega]
    rw [this]; rfl

/-- The first n of m have come. -/
def come (n m : Nat) : Array Bool := (List.replicate n true ++ List.replicate (m - n) false).toArray

/-- The kernel's look: n operations of the head, the rest forced. -/
def depB (ops : Array Oper) (n : Nat) : Bool :=
  Region.noSelect ops && decide (n ≤ ops.size) &&
  ((List.range n).all fun i => match ops[i]? with
    | none => false
    | some o => (o.after.all fun e => !Region.binds .any e || decide (e.on < i)) &&
        (o.looksAt ops).all fun t => (List.range ops.size).all fun j => ((ops[j]?).bind (·.dst)) != some t || (decide (j < i) && o.after.any fun e => Region.binds .any e && e.on == j)) &&
  ((List.range n).all fun i => (List.range i).all fun j => ((ops[i]?).bind (·.dst)).isNone || ((ops[i]?).bind (·.dst)) != ((ops[j]?).bind (·.dst))) &&
  (decide (n = ops.size) || (Region.sinkB .any ops n && Region.chainB .any ops n)) &&
  Region.seqB .any ops (ops.size - n) n (come n ops.size)

/-- The head's slots lie in the frame. -/
def slotsB (ops : Array Oper) (n size : Nat) : Bool := (List.range n).all fun i => match (ops[i]?).bind (·.dst) with | none => true | some d => decide (d < size)

structure Inv (ops : Array Oper) (n B : Nat) (w0 : World) (a0 : Act) (E : List Rec) (listed : Array Bool) (a : Act) (w : World) : Prop where
  head : HeadInv .any ops n listed
  size : a.tmps.size = a0.tmps.size
  defs : a.defers = a0.defers
  below : Below B w0 w
  some' : ∀ i r, i < n → E[i]? = some r → listed.getD i true = true → ∀ d, r.dst = some d → r.φ (Act.at' a d) w
  none' : ∀ t, (∀ i r, i < n → E[i]? = some r → listed.getD i true = true → r.dst ≠ some t) → Act.at' a t = Act.at' a0 t

theorem listed_of {listed : Array Bool} {i m : Nat} (hs : listed.size = m) (hi : i < m) (h : listed.getD i false = true) : listed.getD i true = true := by
  subst hs; simpa [hi] using h
theorem listed_to {listed : Array Bool} {i m : Nat} (hs : listed.size = m) (hi : i < m) (h : listed.getD i true = true) : listed.getD i false = true := by
  subst hs; simpa [hi] using h

/-- The lexical walk from what each operation looks at serves every order; W: what is asked, step by step. -/
theorem region_core (B n : Nat) {P : Program} {a : Act} {w : World} {l : List Oper} (W : Nat → Array Bool → Act → World → Prop) (R : Act → World → Prop) (hB : depB l.toArray n = true)
    (hsz : slotsB l.toArray n a.tmps.size = true) (hBw : B ≤ w.heap.size)
    (hW : ∀ (k : Nat) (listed : Array Bool) (b : Act) (v : World), Region.ready .any l.toArray listed ≠ [] →
      (∀ i ∈ Region.ready .any l.toArray listed, ∃ o, l.toArray[i]? = some o ∧
        ((Region.wanted o (yielded l.toArray b.tmps) = true ∧ ∃ φ : Value → World → Prop, gives P v φ ((execOp b.eval o).run P v) ∧ ∀ u v', Below v.heap.size v v' → φ u v' → W k (listed.setIfInBounds i true) (b.put o.dst u) v') ∨
         (Region.wanted o (yielded l.toArray b.tmps) = false ∧ W k (listed.setIfInBounds i true) (b.put o.dst undef) v))) → W (k + 1) listed b v)
    (hEnd : ∀ (b : Act) (v : World), R b v → W (l.toArray.size - n) (come n l.toArray.size) b v)
    (h : wpDep P l.toArray B w (fun hid aE => ∀ (f : Tmp → Value) (m : Near B w), (∀ h ∈ hid, h.φ (f h.t) m.u) → R (fillV hid f aE) m.u) (l.take n) [] a) :
    W l.toArray.size (Array.replicate l.toArray.size false) a { w with drawn := w.drawn + 1 } := by
  simp only [depB, Bool.and_eq_true, decide_eq_true_eq] at hB
  obtain ⟨⟨⟨⟨⟨hsel, hn⟩, hhead⟩, huniq⟩, hwait⟩, _⟩ := hB
  have hn' : n ≤ l.length := by simpa using hn
  have htk : ∀ k o, (l.take n)[k]? = some o → k < n ∧ l.toArray[k]? = some o := by
    intro k o hk
    have hlt : k < n := by
      have := (List.getElem?_eq_some_iff.1 hk).1
      simp at this; omega
    exact ⟨hlt, by simpa [List.getElem?_take, hlt] using hk⟩
  have hselp := Region.noSelect_spec hsel
  obtain ⟨E, hid, aE, e1, e2, e3, e4⟩ := lex_walk (a0 := a) (ops := l.toArray) (fun o ho cs x => by
      obtain ⟨j, hj, rfl⟩ := Array.mem_iff_getElem.1 ho
      exact hselp j _ cs x (by simp)) (l.take n) [] [] a (Lex.start a) (fun o ho => by simpa using List.mem_of_mem_take ho) (fun k o hk d hd => by
      obtain ⟨hkn, hk'⟩ := htk k o hk
      refine ⟨?_, fun r hr => (by cases hr), fun j p hj hp => ?_⟩
      · have := List.all_eq_true.1 hsz k (List.mem_range.2 hkn)
        simpa [hk', hd] using this
      · obtain ⟨_, hp'⟩ := htk j p hp
        have := List.all_eq_true.1 (List.all_eq_true.1 huniq k (List.mem_range.2 hkn)) j (List.mem_range.2 hj)
        simp [hk', hp', hd] at this
        exact fun e => this e.symm) h
  have elen : E.length = n := by rw [e1]; simp; omega
  simp only [List.nil_append] at e2 e3
  -- operation by operation
  have hop : ∀ i o, i < n → l.toArray[i]? = some o → ∃ r, E[i]? = some r ∧ OpOk P l.toArray B w a (E.take i) o r := by
    intro i o hi ho
    exact e2 i o (by simpa [List.getElem?_take, hi] using ho)
  have main : ∀ (f : Nat) (listed : Array Bool) (b : Act) (v : World), Inv l.toArray n B w a E listed b v → cnt listed n = f → W (f + (l.toArray.size - n)) listed b v := by
    intro f
    induction f with
    | zero =>
      intro listed b v inv hc
      have hall := cnt_none listed n hc
      have hl : listed = come n l.toArray.size := by
        refine Array.ext (by simp [come, inv.head.size]; omega) fun i h1 h2 => ?_
        have hi : i < l.toArray.size := by rw [← inv.head.size]; exact h1
        by_cases hin : i < n
        · have := hall i hin
          simp only [Array.getD_eq_getD_getElem?, Array.getElem?_eq_getElem h1, Option.getD_some] at this
          rw [this]; simp [come, hin]
        · have := inv.head.tail i (by omega) hi
          simp only [Array.getD_eq_getD_getElem?, Array.getElem?_eq_getElem h1, Option.getD_some] at this
          rw [this]; simp [come, List.getElem_append, hin]
      have hfit : ∀ t, Fits E a b v t := fun t => ⟨fun r hr hd => by
          obtain ⟨i, hi, rfl⟩ := List.getElem_of_mem hr
          exact inv.some' i _ (by omega) (List.getElem?_eq_getElem hi) (hall i (by omega)) t hd, fun hnone => inv.none' t fun i r _ hr _ hd => hnone r (List.mem_of_getElem? hr) hd⟩
      have hfill : fillV hid (Act.at' b) aE = b := by
        refine Act.ext_at (by rw [fillV_size, e3.size, inv.size]) (by rw [fillV_def, e3.defs, inv.defs]) fun t => ?_
        by_cases hx : ∃ h ∈ hid, h.t = t
        · by_cases hlt : t < aE.tmps.size
          · exact fillV_in _ _ _ _ hx hlt
          · have h1 : ∀ (c : Act), c.tmps.size = aE.tmps.size → Act.at' c t = undef := fun c hb => by
              unfold Act.at'; rw [Array.getD_eq_getD_getElem?, Array.getElem?_eq_none (Nat.le_of_not_lt (hb ▸ hlt))]; rfl
            rw [h1 _ (fillV_size _ _ _), h1 b (by rw [inv.size, e3.size])]
        · rw [fillV_out _ _ _ (fun h hm e => hx ⟨h, hm, e⟩)]
          exact e3.plain b v t (hfit t) (fun h hm e => hx ⟨h, hm, e⟩)
      have hgo := e4 (Act.at' b) ⟨v, inv.below⟩ (fun h hm => e3.seen b v h.t (hfit _) h hm rfl)
      rw [hfill] at hgo
      rw [Nat.zero_add, hl]
      exact hEnd b v hgo
    | succ f ih =>
      intro listed b v inv hc
      rw [show f + 1 + (l.toArray.size - n) = (f + (l.toArray.size - n)) + 1 by omega]
      refine hW _ _ _ _ (fun hnone => ?_) (fun i hi => ?_)
      · exfalso
        obtain ⟨i, h1, h2, h3⟩ := cnt_some listed n (by omega)
        have h4 := List.all_eq_true.1 hhead i (List.mem_range.2 h1)
        have hlt : i < l.toArray.size := by omega
        simp only [Array.getElem?_eq_getElem hlt, Bool.and_eq_true] at h4
        have : i ∈ Region.ready .any l.toArray listed := mem_ready.2 ⟨h2, _, Array.getElem?_eq_getElem hlt, fun e he hb => by
          have h5 := Array.all_eq_true_iff_forall_mem.1 h4.1 e he
          simp [hb] at h5
          exact listed_to inv.head.size (by omega) (h3 _ h5)⟩
        rw [hnone] at this
        cases this
      · obtain ⟨hun, o, ho, hall⟩ := mem_ready.1 hi
        have hlt : i < l.toArray.size := (Array.getElem?_eq_some_iff.1 ho).1
        have hin : i < n := by
          rcases Nat.lt_or_ge i n with h | h
          · exact h
          · exfalso
            obtain ⟨k, k1, k2, _⟩ := cnt_some listed n (by omega)
            simp only [Bool.or_eq_true, decide_eq_true_eq, Bool.and_eq_true] at hwait
            rcases hwait with hw | hw
            · omega
            · exact tail_waits hw.1 hw.2 (by omega) inv.head _ k rfl k1 k2 i h hi
        obtain ⟨r, hr, hrd, hst, hok⟩ := hop i o hin ho
        have hfit : ∀ t ∈ o.looksAt l.toArray, Fits (E.take i) a b v t := by
          intro t ht
          have h4 := List.all_eq_true.1 hhead i (List.mem_range.2 hin)
          simp only [ho, Bool.and_eq_true] at h4
          have h5 := List.all_eq_true.1 h4.2 t ht
          have dep : ∀ j x, j < n → E[j]? = some x → x.dst = some t → j < i ∧ listed.getD j true = true := by
            intro j x hj hx hd
            have hjs : j < l.toArray.size := by omega
            obtain ⟨x', hx', hxd, _⟩ := hop j _ hj (Array.getElem?_eq_getElem hjs)
            have : x' = x := Option.some.inj (hx'.symm.trans hx)
            subst this
            have h6 := List.all_eq_true.1 h5 j (List.mem_range.2 hjs)
            rw [hxd] at hd
            simp only [Array.getElem?_eq_getElem hjs, Option.bind_some, hd, bne_self_eq_false, Bool.false_or, Bool.and_eq_true, decide_eq_true_eq] at h6
            obtain ⟨e, he, hb⟩ := Array.any_eq_true'.1 h6.2
            simp only [Bool.and_eq_true, beq_iff_eq] at hb
            have h7 := hall e he hb.1
            rw [hb.2] at h7
            exact ⟨h6.1, listed_of inv.head.size hjs h7⟩
          refine ⟨fun x hx hd => ?_, fun hnone => inv.none' t fun j x hj hx hl hd => ?_⟩
          · obtain ⟨j, hj, rfl⟩ := List.getElem_of_mem hx
            have hj' : j < E.length := by simp at hj; omega
            have hjn : j < n := by omega
            have hx2 : E[j]? = some (E.take i)[j] := by rw [List.getElem_take]; exact List.getElem?_eq_getElem hj'
            exact inv.some' j _ hjn hx2 (dep j _ hjn hx2 hd).2 t hd
          · have hji := (dep j x hj hx hd).1
            exact hnone x (List.mem_of_getElem? (i := j) (by rw [List.getElem?_take, if_pos hji]; exact hx)) hd
        have step : ∀ u v', Below v.heap.size v v' → r.φ u v' → Inv l.toArray n B w a E (listed.setIfInBounds i true) (b.put o.dst u) v' := by
          intro u v' hb hphi
          have hdd : ∀ j x d, j < n → j ≠ i → E[j]? = some x → x.dst = some d → o.dst ≠ some d := by
            intro j x d hj hji hx hd he
            have hjs : j < l.toArray.size := by omega
            obtain ⟨x', hx', hxd, _⟩ := hop j _ hj (Array.getElem?_eq_getElem hjs)
            have : x' = x := Option.some.inj (hx'.symm.trans hx)
            subst this
            rw [hxd] at hd
            rcases Nat.lt_or_gt_of_ne hji with h | h
            · have := List.all_eq_true.1 (List.all_eq_true.1 huniq i (List.mem_range.2 hin)) j (List.mem_range.2 h)
              simp only [ho, Array.getElem?_eq_getElem hjs, Option.bind_some, hd, he] at this
              simp at this
            · have := List.all_eq_true.1 (List.all_eq_true.1 huniq j (List.mem_range.2 hj)) i (List.mem_range.2 h)
              simp only [ho, Array.getElem?_eq_getElem hjs, Option.bind_some, hd, he] at this
              simp at this
          refine ⟨inv.head.set hi hin, by rw [Act.put_size]; exact inv.size, by rw [Act.put_def]; exact inv.defs, inv.below.trans (hb.mono (Nat.le_trans hBw inv.below.size)), fun j x hj hx hl d hd => ?_, fun t ht => ?_⟩
          · by_cases hji : j = i
            · subst hji
              have : x = r := Option.some.inj (hx.symm.trans hr)
              subst this
              rw [hrd] at hd
              have hd2 : d < b.tmps.size := by
                have := List.all_eq_true.1 hsz j (List.mem_range.2 hj)
                simp only [ho, Option.bind_some, hd, decide_eq_true_eq] at this
                rw [inv.size]; exact this
              rw [hd, Act.put_at, if_pos ⟨rfl, hd2⟩]
              exact hphi
            · rw [getD_set_ne true (Ne.symm hji)] at hl
              have hne := hdd j x d hj hji hx hd
              have hold := inv.some' j x hj hx hl d hd
              have : Act.at' (b.put o.dst u) d = Act.at' b d := by
                cases hod : o.dst with
                | none => rfl
                | some e => rw [Act.put_at, if_neg (fun q => hne (by rw [hod, q.1]))]
              rw [this]
              obtain ⟨x', hx', _, hxs, _⟩ := hop j _ hj (Array.getElem?_eq_getElem (by omega : j < l.toArray.size))
              have : x' = x := Option.some.inj (hx'.symm.trans hx)
              subst this
              exact hxs _ _ _ hb hold
          · have h1 : o.dst ≠ some t := fun e => ht i r hin hr (by
              have hls : i < listed.size := by rw [inv.head.size]; exact hlt
              simp [hls]) (by rw [hrd, e])
            have h2 : Act.at' b t = Act.at' a t := inv.none' t fun j x hj hx hl => ht j x hj hx (by
              by_cases hji : j = i
              · subst hji; rw [hun] at hl; cases hl
              · rw [getD_set_ne true (Ne.symm hji)]; exact hl)
            cases hod : o.dst with
            | none => exact h2
            | some e => rw [Act.put_at, if_neg (fun q => h1 (by rw [hod, q.1]))]; exact h2
        have next : ∀ u v', Below v.heap.size v v' → r.φ u v' → W (f + (l.toArray.size - n)) (listed.setIfInBounds i true) (b.put o.dst u) v' :=
          fun u v' hb hphi => ih _ _ _ (step u v' hb hphi) (by have := cnt_set listed i n hin hun; omega)
        refine ⟨o, ho, ?_⟩
        rcases hok b ⟨v, inv.below⟩ inv.size hfit with ⟨hw, hg⟩ | ⟨hw, hg⟩
        · exact .inl ⟨hw, r.φ, hg, next⟩
        · exact .inr ⟨hw, next undef v (Below.refl _ _) hg⟩
  have inv0 : Inv l.toArray n B w a E (Array.replicate l.toArray.size false) a { w with drawn := w.drawn + 1 } :=
    ⟨⟨by simp, fun j oj _ hl => (by rw [getD_replicate_false] at hl; cases hl), fun t _ ht => getD_in (by simpa using ht) (getD_replicate_false _ _)⟩, rfl, rfl, ⟨rfl, rfl, rfl, Nat.le_refl _, fun _ _ => rfl⟩,
      fun i r hi _ hl => (by
        have h0 := getD_in (listed := Array.replicate l.toArray.size false) (i := i) (by simp; omega) (getD_replicate_false _ _)
        rw [h0] at hl; cases hl), fun t _ => rfl⟩
  have := main n _ a _ inv0 (cnt_start _ _ hn)
  rwa [show n + (l.toArray.size - n) = l.toArray.size by omega] at this

theorem depB_seq {ops : Array Oper} {n : Nat} (h : depB ops n = true) : Region.seqB .any ops (ops.size - n) n (come n ops.size) = true := by
  simp only [depB, Bool.and_eq_true] at h; exact h.2

/-- **A region that draws its order: the lexical walk from what each operation looks at serves every order.** -/
theorem wp_region_dep (B n : Nat) {P : Program} {id : Nat} {Q : Exit → Act → World → Prop} {a : Act} {w : World} {l : List Oper} (hm : P.follows .mixedOrders = true) (hB : depB l.toArray n = true)
    (hsz : slotsB l.toArray n a.tmps.size = true) (hBw : B ≤ w.heap.size)
    (h : wpDep P l.toArray B w (fun hid aE => ∀ (f : Tmp → Value) (m : Near B w), (∀ h ∈ hid, h.φ (f h.t) m.u) → wpList P l.toArray Q (l.drop n) (fillV hid f aE) m.u) (l.take n) [] a) :
    (Code.region id l.toArray true).wp P Q a w := by
  have hdl : (l.drop n).length = l.toArray.size - n := by simp
  refine wp_region_any hm (region_core B n (wpAny P .any l.toArray Q) (fun b v => wpList P l.toArray Q (l.drop n) b v) hB hsz hBw (fun k listed b v hne hall => ?_) (fun b v hgo => ?_) h)
  · refine ⟨fun e => absurd e hne, fun i hi => ?_⟩
    obtain ⟨o, ho, hcase⟩ := hall i hi
    unfold wpOp
    simp only [ho]
    rcases hcase with ⟨hw, φ, hg, next⟩ | ⟨hw, next⟩
    · rw [if_pos hw]
      left
      unfold Oper.wp
      generalize (execOp b.eval o).run P v = res at hg
      cases res with
      | ok nx v' =>
        cases nx <;> simp only [gives] at hg <;> simp only [Oper.upon]
        case value u => exact next u v' hg.1 hg.2
        case skip => exact next undef v' hg.1 hg.2
        case enter g args =>
          obtain ⟨rfl, hcall⟩ := hg
          exact hcall.mono fun e v'' ⟨u, he, hb, hphi⟩ => by subst he; exact next u v'' hb hphi
      | halt x v' => simp only [gives] at hg
    · rw [hw]
      simp only [Bool.false_eq_true, if_false]
      exact next
  · rw [← hdl]
    exact wpAny_of_seq (md := .any) (Q' := Q) (l.drop n) n _ b v (fun j => by simp [List.getElem?_drop]) (by rw [hdl]; exact depB_seq hB) hgo
end Go.Proofs.Ytjpgabpicfcapaa
