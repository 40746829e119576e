/- A region that draws its order, where one operation looks at what a later one may turn before it (m[k] += x: the entry may be made first). Conditions: the kernel's look at its edges. -/
import Derived.Test.YtgomklemldldiaaLv
namespace Go.Proofs.Ytgomklemldldiaa
set_option linter.unusedVariables false
set_option linter.unusedSimpArgs false
open Go.RowKit

def pairOkS (ops : Array Oper) (bj : Nat) (si sj i j : Nat) (oi oj : Oper) (fi fj : List Nat × List Nat) : Bool :=
  bj.testBit i || !(meet oi.dst.toList (namesOf ops oj) || meet (namesOf ops oi) oj.dst.toList || meet fi.2 fj.1 || (meet fi.1 fj.2 && !(i == si && j == sj)))
def drawOkS (si sj n : Nat) (l : List Oper) (fps : List (List Nat × List Nat)) : Bool :=
  let bs := befL l []
  (fps.length == l.length && (List.range l.length).all fun j =>
    match l[j]?, fps[j]? with
    | some oj, some fj => oj.after.all (fun e => !Region.binds .any e || Nat.blt e.on j) && dstB n oj.dst && noDef oj.op && fj.2.all (fun x => fj.1.contains x) && (List.range j).all fun i =>
      match l[i]?, fps[i]? with
      | some oi, some fi => pairOkS l.toArray (bs.getD j 0) si sj i j oi oj fi fj
      | _, _ => false
    | _, _ => false) && ((List.range l.length).all fun j => match fps[si]?, fps[j]? with
      | some fi, some fj => !(Nat.blt si j && Nat.blt j sj) || !(meet fi.1 fj.2)
      | _, _ => false) && Nat.blt si sj && Nat.blt sj l.length
/-- the walk in the text's order; operation si reads the same when sj has been done -/
def LexS (P : Program) (ops : Array Oper) (si sj : Nat) (fpi : List Nat) (M' : List Blk) : Nat → List Oper → List (List Nat × List Nat) → Fr → List Blk → (Fr → List Blk → Prop) → Prop
  | _, [], _, F, M, Q => Q F M
  | _, _ :: _, [], _, _, _ => False
  | k, o :: rest, (fp, wi) :: fps, F, M, Q => ∃ pc d wr, Gd ops o F pc ∧ DOp P pc o F M fp d wr ∧ wr.map (·.1) = wi ∧ (o.guard.isSome = true → wr = []) ∧ ((k = si → fp = fpi ∧ wr = [] ∧ DOp P pc o F M' fp d []) ∧ (k = sj → ∀ x ∈ fpi, (upd M wr)[x]? = M'[x]?)) ∧ LexS P ops si sj fpi M' (k + 1) rest fps (putF o.dst (gdd o pc d) F) (upd M wr) Q

theorem lex_recsS {P : Program} {ops : Array Oper} {si sj : Nat} {fpi : List Nat} {M' : List Blk} {Q : Fr → List Blk → Prop} : ∀ (l : List Oper) (fps : List (List Nat × List Nat)) (F : Fr) (M : List Blk) (b : Nat), fps.length = l.length → LexS P ops si sj fpi M' b l fps F M Q →
    ∃ E : List Rc, E.length = l.length ∧ Q (Fup l E F l.length) (Mup E M l.length) ∧ ∀ (k : Nat) o f, l[k]? = some o → fps[k]? = some f → ∃ pc d r, E[k]? = some r ∧ r.d = gdd o pc d ∧ Gd ops o (Fup l E F k) pc ∧ DOp P pc o (Fup l E F k) (Mup E M k) f.1 d r.wr ∧ r.wr.map (·.1) = f.2 ∧ (o.guard.isSome = true → r.wr = []) ∧
      (b + k = si → f.1 = fpi ∧ r.wr = [] ∧ DOp P pc o (Fup l E F k) M' f.1 d []) ∧ (b + k = sj → ∀ x ∈ fpi, (Mup E M (k + 1))[x]? = M'[x]?)
  | [], [], F, M, b, _, h => ⟨[], rfl, h, fun k o f hk => by simp at hk⟩
  | o :: l, (fp, wi) :: fps, F, M, b, hl, h => by
    obtain ⟨pc, d, wr, h1, h2, h3, h4, ⟨g1, g2⟩, h5⟩ := h
    obtain ⟨E, e1, e2, e3⟩ := lex_recsS l fps _ _ (b + 1) (by simpa using hl) h5
    have fup : ∀ k, Fup (o :: l) (⟨gdd o pc d, wr⟩ :: E) F (k + 1) = Fup l E (putF o.dst (gdd o pc d) F) k := by
      intro k
      induction k with
      | zero => rfl
      | succ k ih =>
        rw [Fup]
        simp only [List.getElem?_cons_succ]
        rw [ih]
        conv => rhs; rw [Fup]
    have mup : ∀ k, Mup (⟨gdd o pc d, wr⟩ :: E) M (k + 1) = Mup E (upd M wr) k := by
      intro k
      induction k with
      | zero => rfl
      | succ k ih =>
        rw [Mup]
        simp only [List.getElem?_cons_succ]
        rw [ih]
        conv => rhs; rw [Mup]
    refine ⟨⟨gdd o pc d, wr⟩ :: E, by simp [e1], by rw [List.length_cons, fup, mup]; exact e2, fun k p f hk hf => ?_⟩
    cases k with
    | zero =>
      simp at hk hf
      subst hk; subst hf
      exact ⟨pc, d, _, rfl, rfl, h1, h2, h3, h4, g1, fun e => by rw [mup]; exact g2 e⟩
    | succ k =>
      rw [fup, mup, mup, show b + (k + 1) = b + 1 + k by omega]
      simpa using e3 k p f (by simpa using hk) (by simpa using hf)
  | [], _ :: _, _, _, _, hl, _ => by simp at hl
  | _ :: _, [], _, _, _, hl, _ => by simp at hl

section
variable {P : Program} {ops : Array Oper} {si sj k : Nat} {fpi : List Nat} {M' : List Blk} {o : Oper} {rest : List Oper} {fp wi : List Nat} {fps : List (List Nat × List Nat)} {F : Fr} {M M1 : List Blk} {Q : Fr → List Blk → Prop} {d : D} {wr : List (Nat × Blk)} {t : Nat}
theorem lexS_op (hk : (k == si || k == sj) = false) (hg : o.guard = none) (h : DOp P true o F M fp d wr) (hw : wr.map (·.1) = wi)
    (hq : LexS P ops si sj fpi M' (k + 1) rest fps (putF o.dst d F) (upd M wr) Q) : LexS P ops si sj fpi M' k (o :: rest) ((fp, wi) :: fps) F M Q := by
  simp only [Bool.or_eq_false_iff, beq_eq_false_iff_ne] at hk
  unfold LexS
  refine ⟨true, d, wr, gd_n hg, h, hw, fun h => ?_, ⟨fun e => absurd e hk.1, fun e => absurd e hk.2⟩, ?_⟩
  · rw [hg] at h; cases h
  · unfold gdd; rw [hg]; exact hq
theorem lexS_r (hk : (k == si || k == sj) = false) (hg : o.guard = none) (hd : o.dst = some t) (h : DOp P true o F M fp d [])
    (hq : LexS P ops si sj fpi M' (k + 1) rest fps ((t, d) :: F) M Q) : LexS P ops si sj fpi M' k (o :: rest) ((fp, []) :: fps) F M Q := lexS_op hk hg h rfl (by rw [hd]; exact hq)
theorem lexS_w (hk : (k == si || k == sj) = false) (hg : o.guard = none) (hd : o.dst = some t) (h : DOp P true o F M fp d wr) (hw : wr.map (·.1) = wi) (hM : upd M wr = M1)
    (hq : LexS P ops si sj fpi M' (k + 1) rest fps ((t, d) :: F) M1 Q) : LexS P ops si sj fpi M' k (o :: rest) ((fp, wi) :: fps) F M Q := lexS_op hk hg h hw (by rw [hd, hM]; exact hq)
theorem lexS_s (hk : (k == si || k == sj) = false) (hg : o.guard = none) (hd : o.dst = none) (h : DOp P true o F M fp d wr) (hw : wr.map (·.1) = wi) (hM : upd M wr = M1)
    (hq : LexS P ops si sj fpi M' (k + 1) rest fps F M1 Q) : LexS P ops si sj fpi M' k (o :: rest) ((fp, wi) :: fps) F M Q := lexS_op hk hg h hw (by rw [hd, hM]; exact hq)
theorem lexS_i (hk : (k == si && !(k == sj)) = true) (hf : fp = fpi) (hg : o.guard = none) (hd : o.dst = some t) (h : DOp P true o F M fp d []) (h' : DOp P true o F M' fp d [])
    (hq : LexS P ops si sj fpi M' (k + 1) rest fps ((t, d) :: F) M Q) : LexS P ops si sj fpi M' k (o :: rest) ((fp, []) :: fps) F M Q := by
  simp only [Bool.and_eq_true, Bool.not_eq_true', beq_iff_eq, beq_eq_false_iff_ne] at hk
  unfold LexS
  refine ⟨true, d, [], gd_n hg, h, rfl, fun _ => rfl, ⟨fun _ => ⟨hf, rfl, h'⟩, fun e => absurd e hk.2⟩, ?_⟩
  unfold gdd; rw [hg, hd]; exact hq
theorem lexS_j (hk : (k == sj && !(k == si)) = true) (hg : o.guard = none) (hd : o.dst = some t) (h : DOp P true o F M fp d wr) (hw : wr.map (·.1) = wi) (hM : upd M wr = M1) (hM' : ∀ x ∈ fpi, M1[x]? = M'[x]?)
    (hq : LexS P ops si sj fpi M' (k + 1) rest fps ((t, d) :: F) M1 Q) : LexS P ops si sj fpi M' k (o :: rest) ((fp, wi) :: fps) F M Q := by
  simp only [Bool.and_eq_true, Bool.not_eq_true', beq_iff_eq, beq_eq_false_iff_ne] at hk
  unfold LexS
  refine ⟨true, d, wr, gd_n hg, h, hw, fun h => ?_, ⟨fun e => absurd e hk.2, fun _ => by rw [hM]; exact hM'⟩, ?_⟩
  · rw [hg] at h; cases h
  · unfold gdd; rw [hg, hd, hM]; exact hq
theorem lexS_nil (h : Q F M) : LexS P ops si sj fpi M' k [] [] F M Q := h
end
theorem op_lkp2 {α : Type} [DecidableEq α] {P : Program} {K E T : TypeId} {en : α → List Value} {pc : Bool} {o : Oper} {F : Fr} {M : List Blk} {x y : Operand} {i : Nat} {k : α} {m : List (α × Int)} (hT : mpT P T = some (K, E)) (hE : zrV P E = some (.int .i64 0)) (hk : KeyT P K en) (ho : o.op = .lookup T x y false) (hx : Ev pc F x (.hnd i)) (hy : Ev pc F y (.val (.agg (en k).toArray))) (hM : M[i]? = some (.obj (mapO en (setM k (getM k m) m)))) : DOp P pc o F M [i] (.val (.int .i64 (getM k m))) [] := by
  have h := op_lkp hT hE hk ho hx hy hM
  rwa [getM_set, if_pos rfl] at h

/-- **A region that draws its order**, in which one operation looks at what a later one may turn before it: it reads the same there. -/
theorem dwp_draw2 {P : Program} {s0 : St} {n : Cx} {id : Nat} {l : List Oper} {F : Fr} {M : List Blk} {K : Cont} (si sj : Nat) (fpi : List Nat) (M' : List Blk) (fps : List (List Nat × List Nat)) (hm : P.follows .mixedOrders = true) (hB : drawOkS si sj n.n l fps = true) (h : LexS P l.toArray si sj fpi M' 0 l fps F M (fun F M => K .normal F M)) :
    dwp P s0 n (.region id l.toArray true) F M K := by
  intro a w hi
  refine wpIn_region_any hm ?_
  simp only [drawOkS, Bool.and_eq_true, beq_iff_eq, List.all_eq_true, List.mem_range] at hB
  obtain ⟨⟨⟨⟨hlen, hB⟩, hmid0⟩, hsij⟩, hsj⟩ := hB
  have hsij := Nat.blt_eq.mp hsij
  have hsj := Nat.blt_eq.mp hsj
  obtain ⟨E, e1, e2, e3'⟩ := lex_recsS l fps F M 0 hlen h
  have e3 : ∀ (k : Nat) o f, l[k]? = some o → fps[k]? = some f → ∃ pc d r, E[k]? = some r ∧ r.d = gdd o pc d ∧ Gd l.toArray o (Fup l E F k) pc ∧ DOp P pc o (Fup l E F k) (Mup E M k) f.1 d r.wr ∧ r.wr.map (·.1) = f.2 ∧ (o.guard.isSome = true → r.wr = []) := fun k o f h1 h2 => by
    obtain ⟨pc, d, r, q1, q2, q3, q4, q5, q6, _⟩ := e3' k o f h1 h2
    exact ⟨pc, d, r, q1, q2, q3, q4, q5, q6⟩
  have at_ : ∀ k, k < l.length → ∃ o f, l[k]? = some o ∧ fps[k]? = some f := fun k hk => ⟨l[k], fps[k], List.getElem?_eq_getElem hk, List.getElem?_eq_getElem (by omega)⟩
  have hone : ∀ (j : Nat) o f, l[j]? = some o → fps[j]? = some f → (∀ e ∈ o.after.toList, Region.binds .any e = true → e.on < j) ∧ dstB n.n o.dst = true ∧ noDef o.op = true ∧ (∀ x ∈ f.2, x ∈ f.1) ∧ ∀ (i : Nat) oi fi, i < j → l[i]? = some oi → fps[i]? = some fi → ahead l i j = true ∨ (meet oi.dst.toList (namesOf l.toArray o) = false ∧ meet (namesOf l.toArray oi) o.dst.toList = false ∧ meet fi.2 f.1 = false ∧ (meet fi.1 f.2 = false ∨ (i = si ∧ j = sj))) := by
    intro j o f ho hf
    have hj : j < l.length := (List.getElem?_eq_some_iff.1 ho).1
    have h1 := hB j hj
    rw [ho, hf] at h1
    simp only [Bool.and_eq_true, List.all_eq_true, List.mem_range] at h1
    obtain ⟨⟨⟨⟨h1, h2⟩, hnd⟩, h3⟩, h4⟩ := h1
    refine ⟨fun e he hb => ?_, h2, hnd, fun x hx => by simpa using h3 x hx, fun i oi fi hij hoi hfi => ?_⟩
    · have := Array.all_eq_true_iff_forall_mem.1 h1 e (by simpa using he)
      rw [hb] at this
      exact Nat.blt_eq.mp (by simpa using this)
    · have h5 := h4 i hij
      rw [hoi, hfi] at h5
      simp only [pairOkS, Bool.or_eq_true, Bool.not_eq_true', Bool.or_eq_false_iff] at h5
      rcases h5 with h5 | h5
      · exact .inl h5
      · refine .inr ⟨h5.1.1.1, h5.1.1.2, h5.1.2, ?_⟩
        have h6 := h5.2
        simp only [Bool.and_eq_false_iff, Bool.not_eq_false', Bool.and_eq_true, beq_iff_eq] at h6
        exact h6
  have meet_no : ∀ {x : List Nat} {y : List Nat} {t : Nat}, meet x y = false → t ∈ x → t ∈ y → False := by
    intro x y t hm hx hy
    simp only [meet, List.any_eq_false] at hm
    exact hm t hx (by simpa using hy)
  have hM0 : ∃ s : St, s.M = M := by obtain ⟨_, s, h1, _⟩ := hi; exact ⟨s, h1⟩
  -- the state when some have been done
  have main : ∀ (f : Nat) (listed : Array Bool) (b : Act) (s : St), Ok s0 → listed.size = l.length → unl listed l.length = f → Tr s0 s →
      (∀ t d, lkS l E F (fun k => listed.getD k false) t l.length = some d → Rep s d (slot b t)) → s.M.length = M.length → (∀ i, i < M.length → s.M[i]? = memS E M (fun k => listed.getD k false) i l.length) →
      b.tmps.size = n.n → DfOk s0 s n.mks n.U b.defers → (∀ j i, listed.getD j false = true → j < l.length → ahead l i j = true → listed.getD i false = true) →
      wpAnyIn (wd (n.ρ s0)) 0 P .any l.toArray (PostK s0 n K) f listed b s.w := by
    intro f
    induction f with
    | zero =>
      intro listed b s h0 hs hu ht hF hMl hM hn hd _
      have hall := unl_zero _ hu
      refine ⟨?_, ?_⟩
      · cases hr : Region.ready .any l.toArray listed with
        | nil => rfl
        | cons i r =>
          have hi : i ∈ Region.ready .any l.toArray listed := by rw [hr]; exact List.mem_cons_self ..
          obtain ⟨h1, o, h2, _⟩ := mem_ready.1 hi
          have hil : i < l.length := by simpa using (Array.getElem?_eq_some_iff.1 h2).1
          rw [getD_tf hs hil, hall i hil] at h1
          cases h1
      · refine ⟨_, _, ⟨h0, s, ?_, rfl, ht, ?_, hn, hd⟩, e2⟩
        · refine List.ext_getElem? fun i => ?_
          by_cases hi : i < M.length
          · rw [hM i hi, mup_at i hi]
            exact memS_congr _ fun j r hj _ _ => hall j hj
          · rw [List.getElem?_eq_none (by omega), List.getElem?_eq_none (by rw [Mup_len]; omega)]
        · intro t d hd'
          rw [fup_lk] at hd'
          refine hF t d ?_
          rw [← hd']
          exact lkS_congr _ fun j o hj _ _ => hall j hj
    | succ f ih =>
      intro listed b s h0 hs hu ht hF hMl hM hn hd hcl
      refine ⟨fun hnone => ?_, fun i hi => ?_⟩
      · exfalso
        obtain ⟨i, h1, h2, h3⟩ := unl_some l.length (listed := listed) (by omega)
        obtain ⟨o, fi, ho, hfi⟩ := at_ i h1
        obtain ⟨g1, _⟩ := hone i o fi ho hfi
        have : i ∈ Region.ready .any l.toArray listed := mem_ready.2 ⟨by rw [getD_tf hs h1]; exact h2, o, by simpa using ho, fun e he hb => h3 _ (g1 e (by simpa using he) hb)⟩
        rw [hnone] at this
        cases this
      · obtain ⟨hun, o, ho, hall⟩ := mem_ready.1 hi
        have ho' : l[i]? = some o := by simpa using ho
        have hil : i < l.length := (List.getElem?_eq_some_iff.1 ho').1
        rw [getD_tf hs hil] at hun
        obtain ⟨fi, hfi⟩ : ∃ fi, fps[i]? = some fi := ⟨fps[i], List.getElem?_eq_getElem (by omega)⟩
        obtain ⟨pc, d, r, hr, hrd, hg, hop, hwi, hgw, hsoft, _⟩ := e3' i o fi ho' hfi
        rw [Nat.zero_add] at hsoft
        obtain ⟨g1, g2, hnd, g3, g4⟩ := hone i o fi ho' hfi
        -- what stands ahead of i has been done
        have done : ∀ j, ahead l j i = true → listed.getD j false = true := by
          intro j hj
          obtain ⟨e, he, hb, hcase⟩ := ahead_step ho' hj
          have h1 := hall e (by simpa using he) hb
          rcases hcase with rfl | ⟨h2, h3⟩
          · exact h1
          · exact hcl e.on j h1 (by omega) h3
        have undone : ∀ j, j < l.length → ahead l i j = true → listed.getD j false = false := by
          intro j hj h1
          cases e : listed.getD j false with
          | false => rfl
          | true => rw [hcl j i e hj h1] at hun; cases hun
        have tset : ∀ t, t ∈ namesOf l.toArray o → lkS l E F (fun k => listed.getD k false) t l.length = lkS l E F (fun _ => true) t i := by
          intro t ht
          rw [lkS_cut i l.length (by omega) fun j oj h1 h2 hj hjd => ?_]
          · refine lkS_congr i fun j oj hj hoj hjd => ?_
            obtain ⟨fj, hfj⟩ : ∃ fj, fps[j]? = some fj := ⟨fps[j], List.getElem?_eq_getElem (by omega)⟩
            rcases g4 j oj fj hj hoj hfj with h1 | h1
            · exact done j h1
            · exact (meet_no h1.1 (by simp [hjd]) ht).elim
          · by_cases e : j = i
            · subst e; exact hun
            · obtain ⟨fj, hfj⟩ : ∃ fj, fps[j]? = some fj := ⟨fps[j], List.getElem?_eq_getElem (by omega)⟩
              rcases (hone j oj fj hj hfj).2.2.2.2 i o fi (by omega) ho' hfi with h3 | h3
              · exact undone j h2 h3
              · exact (meet_no h3.2.1 ht (by simp [hjd])).elim
        have wmem0 : ∀ x, x ∈ fi.1 → ∀ (j : Nat) rj fj, E[j]? = some rj → fps[j]? = some fj → j < l.length → (wrAt rj.wr x).isSome = true → x ∈ fj.2 := by
          intro x _ j rj fj hrj hfj hj hw
          obtain ⟨oj, _, hoj, _⟩ := at_ j hj
          obtain ⟨_, _, r', hr', _, _, _, hw', _⟩ := e3 j oj fj hoj hfj
          rw [hrj] at hr'
          obtain rfl := Option.some.inj hr'
          rw [← hw']
          refine Classical.byContradiction fun hno => ?_
          rw [wrAt_none _ _ hno] at hw
          cases hw
        have msetS : i = si → listed.getD sj false = true → ∀ x, x ∈ fi.1 → memS E M (fun k => listed.getD k false) x l.length = memS E M (fun _ => true) x (sj + 1) := by
          intro hisi hsl x hx
          have hwr0 : fi.2 = [] := by rw [← hwi, (hsoft hisi).2.1]; rfl
          rw [memS_cut (sj + 1) l.length (by omega) fun j rj h1 h2 hrj hw => ?_]
          · refine memS_congr (sj + 1) fun j rj hj hrj hw => ?_
            obtain ⟨oj, fj, hoj, hfj⟩ := at_ j (by omega)
            have hxw := wmem0 x hx j rj fj hrj hfj (by omega) hw
            rcases Nat.lt_trichotomy j i with hji | rfl | hji
            · rcases g4 j oj fj hji hoj hfj with h1 | h1
              · exact done j h1
              · exact (meet_no h1.2.2.1 hxw hx).elim
            · rw [hfi] at hfj
              obtain rfl := Option.some.inj hfj
              rw [hwr0] at hxw
              cases hxw
            · by_cases e : j = sj
              · subst e; exact hsl
              · have h7 := hmid0 j (by omega)
                rw [← hisi, hfi, hfj] at h7
                simp only [Bool.or_eq_true, Bool.not_eq_true', Bool.and_eq_false_iff] at h7
                rcases h7 with (h7 | h7) | h7
                · exact absurd (Nat.blt_eq.mpr hji) (by simp [h7])
                · exact absurd (Nat.blt_eq.mpr (show j < sj by omega)) (by simp [h7])
                · exact (meet_no h7 hx hxw).elim
          · obtain ⟨oj, fj, hoj, hfj⟩ := at_ j (by omega)
            rcases (hone j oj fj hoj hfj).2.2.2.2 i o fi (by omega) ho' hfi with h3 | h3
            · exact undone j h2 h3
            · rcases h3.2.2.2 with h4 | h4
              · exact (meet_no h4 hx (wmem0 x hx j rj fj hrj hfj h2 hw)).elim
              · omega
        have mset : (i = si → listed.getD sj false = false) → ∀ x, x ∈ fi.1 → memS E M (fun k => listed.getD k false) x l.length = memS E M (fun _ => true) x i := by
          intro hsf x hx
          have wmem : ∀ (j : Nat) rj fj, E[j]? = some rj → fps[j]? = some fj → j < l.length → (wrAt rj.wr x).isSome = true → x ∈ fj.2 := by
            intro j rj fj hrj hfj hj hw
            obtain ⟨oj, _, hoj, _⟩ := at_ j hj
            obtain ⟨_, _, r', hr', _, _, _, hw', _⟩ := e3 j oj fj hoj hfj
            rw [hrj] at hr'
            obtain rfl := Option.some.inj hr'
            rw [← hw']
            refine Classical.byContradiction fun hno => ?_
            rw [wrAt_none _ _ hno] at hw
            cases hw
          rw [memS_cut i l.length (by omega) fun j rj h1 h2 hrj hw => ?_]
          · refine memS_congr i fun j rj hj hrj hw => ?_
            obtain ⟨oj, fj, hoj, hfj⟩ := at_ j (by omega)
            rcases g4 j oj fj hj hoj hfj with h1 | h1
            · exact done j h1
            · exact (meet_no h1.2.2.1 (wmem j rj fj hrj hfj (by omega) hw) hx).elim
          · by_cases e : j = i
            · subst e; exact hun
            · obtain ⟨oj, fj, hoj, hfj⟩ := at_ j (by omega)
              rcases (hone j oj fj hoj hfj).2.2.2.2 i o fi (by omega) ho' hfi with h3 | h3
              · exact undone j h2 h3
              · rcases h3.2.2.2 with h4 | h4
                · exact (meet_no h4 hx (wmem j rj fj hrj hfj h2 hw)).elim
                · rw [h4.2]; exact hsf h4.1
        have hslot : ∀ t d, t ∈ o.looksAt l.toArray → lk (Fup l E F i) t = some d → Rep s d (slot b t) := by
          intro t d' ht hd'
          refine hF t d' ?_
          rw [tset t (List.mem_append_left _ ht), ← fup_lk]
          exact hd'
        have next : ∀ (s' : St) (v : Value), Tr s s' → s'.M = upd s.M r.wr → Rep s' r.d v → wpAnyIn (wd (n.ρ s0)) 0 P .any l.toArray (PostK s0 n K) f (listed.setIfInBounds i true) (b.put o.dst v) s'.w := by
          intro s' v ht' hM' hrep
          have hset : ∀ k, (listed.setIfInBounds i true).getD k false = if i = k then true else listed.getD k false := fun k => getD_set _ _ _ (by rw [hs]; exact hil)
          refine ih _ _ s' h0 (by simp [hs]) ?_ (ht.trans ht') ?_ (by rw [hM', upd_len, hMl]) ?_ (by rw [put_size]; exact hn) (by rw [put_def]; exact hd.mono ht.ok ht') ?_
          · have := unl_set (by rw [hs]; exact hil) hun l.length
            rw [if_pos hil] at this
            omega
          · intro t d' hd'
            by_cases htd : o.dst = some t
            · have e : lkS l E F (fun k => (listed.setIfInBounds i true).getD k false) t l.length = some r.d := by
                rw [lkS_cut (i + 1) l.length (by omega) fun j oj h1 h2 hj hjd => ?_]
                · unfold lkS
                  rw [ho', hr]
                  simp only
                  rw [if_pos ⟨by rw [hset, if_pos rfl], htd⟩]
                · rw [hset, if_neg (by omega)]
                  obtain ⟨fj, hfj⟩ : ∃ fj, fps[j]? = some fj := ⟨fps[j], List.getElem?_eq_getElem (by omega)⟩
                  rcases (hone j oj fj hj hfj).2.2.2.2 i o fi (by omega) ho' hfi with h3 | h3
                  · exact undone j h2 h3
                  · exact (meet_no (t := t) h3.2.1 (List.mem_append_right _ (by simp [htd])) (by simp [hjd])).elim
              rw [e] at hd'
              obtain rfl := Option.some.inj hd'
              have hsz : t < b.tmps.size := by
                rw [htd] at g2
                rw [hn]
                exact Nat.blt_eq.mp g2
              rw [htd, slot_put, if_pos ⟨rfl, hsz⟩]
              exact hrep
            · have e : slot (b.put o.dst v) t = slot b t := by
                cases hod : o.dst with
                | none => rfl
                | some x => rw [slot_put, if_neg (fun q => htd (by rw [hod, q.1]))]
              rw [e]
              refine (hF t d' ?_).mono ht.ok ht'
              rw [← hd']
              refine lkS_congr _ fun j oj hj hoj hjd => ?_
              rw [hset]
              by_cases ej : i = j
              · subst ej
                rw [ho'] at hoj
                obtain rfl := Option.some.inj hoj
                exact absurd hjd htd
              · rw [if_neg ej]
          · intro x hx
            rw [hM', upd_get _ _ _ (by omega), hM x hx]
            cases hw : wrAt r.wr x with
            | none =>
              rw [Option.none_or]
              refine memS_congr _ fun j rj hj hrj hwj => ?_
              rw [hset]
              by_cases ej : i = j
              · subst ej
                rw [hr] at hrj
                obtain rfl := Option.some.inj hrj
                rw [hw] at hwj; cases hwj
              · rw [if_neg ej]
            | some k =>
              rw [Option.some_or]
              have hxw : x ∈ fi.2 := by
                rw [← hwi]
                refine Classical.byContradiction fun hno => ?_
                rw [wrAt_none _ _ hno] at hw
                cases hw
              rw [memS_cut (i + 1) l.length (by omega) fun j rj h1 h2 hrj hwj => ?_]
              · unfold memS
                rw [hr]
                simp only
                rw [if_pos (by rw [hset, if_pos rfl]), hw, Option.some_or]
              · rw [hset, if_neg (by omega)]
                obtain ⟨oj, fj, hoj, hfj⟩ := at_ j (by omega)
                rcases (hone j oj fj hoj hfj).2.2.2.2 i o fi (by omega) ho' hfi with h3 | h3
                · exact undone j h2 h3
                · rcases h3.2.2.2 with h4 | h4
                  rotate_left
                  · rw [← hwi, (hsoft h4.1).2.1] at hxw
                    cases hxw
                  refine (meet_no h4 (g3 x hxw) ?_).elim
                  obtain ⟨_, _, r', hr', _, _, _, hw', _⟩ := e3 j oj fj hoj hfj
                  rw [hrj] at hr'
                  obtain rfl := Option.some.inj hr'
                  rw [← hw']
                  refine Classical.byContradiction fun hno => ?_
                  rw [wrAt_none _ _ hno] at hwj
                  cases hwj
          · intro j k hj hjl hk
            rw [hset] at hj ⊢
            by_cases e : i = k
            · rw [if_pos e]
            · rw [if_neg e]
              by_cases ej : i = j
              · subst ej; exact done k hk
              · rw [if_neg ej] at hj
                exact hcl j k hj hjl hk
        unfold wpOpIn
        rw [ho]
        simp only
        rw [gd_wanted hg hslot]
        cases pc with
        | true =>
          rw [if_pos rfl]
          have hlook : ∀ x ∈ o.op.operands, ∀ d', ev (Fup l E F i) x = some d' → Rep s d' (b.eval x) := fun x hx d' hd' => by
            cases x with
            | tmp t => exact hslot t d' (List.mem_append_left _ (List.mem_filterMap.2 ⟨.tmp t, by simpa using hx, rfl⟩)) hd'
            | const v => obtain rfl := Option.some.inj hd'; exact .val v
            | func g => obtain rfl := Option.some.inj hd'; exact Rep.fn (vs := []) (us := []) rfl rfl (fun j d v h => by simp at h) (fun j d v h => by simp at h)
            | global g => cases hd'
          have hgive : DGives P s (fun s' v => s'.M = upd s.M r.wr ∧ Rep s' d v) ((execOp b.eval o).run P s.w) := by
            by_cases hsf : i = si ∧ listed.getD sj false = true
            · obtain ⟨hs1, hs2⟩ := hsf
              obtain ⟨hfp, hwr, hop2⟩ := hsoft hs1
              rw [hwr]
              refine hop2 rfl b s ht.ok hlook fun x hx => ?_
              obtain ⟨oj, fj, hoj, hfj⟩ := at_ sj hsj
              obtain ⟨_, _, _, _, _, _, _, _, _, _, hj⟩ := e3' sj oj fj hoj hfj
              have hj := hj (Nat.zero_add _) x (by rw [← hfp]; exact hx)
              rw [← hj]
              by_cases hxl : x < M.length
              · rw [hM x hxl, msetS hs1 hs2 x hx, ← mup_at x hxl]
              · rw [List.getElem?_eq_none (by omega), List.getElem?_eq_none (by rw [Mup_len]; omega)]
            · refine hop rfl b s ht.ok hlook fun x hx => ?_
              by_cases hxl : x < M.length
              · rw [hM x hxl, mup_at x hxl, mset (fun e => by
                  cases h : listed.getD sj false with
                  | false => rfl
                  | true => exact absurd ⟨e, h⟩ hsf) x hx]
              · rw [List.getElem?_eq_none (by omega), List.getElem?_eq_none (by rw [Mup_len]; omega)]
          refine dgives_in hnd hgive fun s' v ht' ⟨q1, q2⟩ => next s' v ht' q1 ?_
          · rw [hrd]
            unfold gdd
            split
            · exact q2
            · exact .opt (fun _ => q2) (fun h => by cases h)
        | false =>
          rw [if_neg (by simp)]
          have hgs : o.guard.isSome = true := by
            unfold Gd at hg
            cases e : o.guard with
            | none => rw [e] at hg; cases hg
            | some x => rfl
          refine ⟨fun _ _ => trivial, next s undef (Tr.refl ht.ok) (by rw [hgw hgs]; rfl) ?_⟩
          rw [hrd]
          unfold gdd
          split
          · rename_i e; rw [e] at hgs; cases hgs
          · exact .opt (fun h => by cases h) (fun _ => rfl)
  obtain ⟨h0, s, h1, h2, h3, h4, h5, h6⟩ := hi
  subst h1 h2
  have hst := step_same h3.ok { s.w with drawn := s.w.drawn + 1 } rfl rfl rfl rfl
  have hno : ∀ k, (Array.replicate l.toArray.size false).getD k false = false := fun k => by
    simp only [Array.getD_eq_getD_getElem?, Array.getElem?_replicate]
    split <;> rfl
  have := main l.length (Array.replicate l.toArray.size false) a ⟨s.β, s.I, s.M, { s.w with drawn := s.w.drawn + 1 }⟩ h0 (by simp) (by
      have := unl_start l.toArray.size l.length (by simp)
      exact this) (h3.trans hst) (fun t d hd => ?_) rfl (fun i hi => ?_) h5 (h6.mono h3.ok hst) (fun j i hj => by rw [hno] at hj; cases hj)
  · simpa using this
  · rw [lkS_cut 0 l.length (by omega) fun j o _ _ _ _ => hno j] at hd
    exact (h4 t d hd).mono h3.ok hst
  · rw [memS_cut 0 l.length (by omega) fun j r _ _ _ _ => hno j]
    rfl
section
variable {P : Program} {pc : Bool} {o : Oper} {F : Fr} {M : List Blk}
/-- a map's handle, into a variable -/
theorem op_stfh {α : Type} {en : α → List Value} {m : List (α × Int)} {T T' : TypeId} {x y : Operand} {i p q : Nat} {rw' : Bool} {L : List Value} (ho : o.op = .store T x y) (hT : tyB P T = some (rw', 1)) (hx : Ev pc F x (.loc i p)) (hy : Ev pc F y (.hnd q)) (hq : M[q]? = some (.obj (mapO en m))) (hM : M[i]? = some (.flat T' L)) (hfit : p < L.length) : DOp P pc o F M [i, q] .junk [(i, .mix T' ((L.map .val).set p (.hnd q)))] := by
  intro hp a s hok hops hfp
  have hr := ev_at hp hx (by simp [ho, Op.operands]) hops
  have hry := ev_at hp hy (by simp [ho, Op.operands]) hops
  obtain ⟨bq, hvq, _, _⟩ := map_at hok (by rw [hfp q (by simp)]; exact hq) hry
  have hc1 : (a.eval y).cells = #[a.eval y] := by rw [hvq]; rfl
  have hc2 : (a.eval y).oneCell' = true := by rw [hvq]; rfl
  have hM' : s.M[i]? = some (.flat T' L) := by rw [hfp i (by simp)]; exact hM
  generalize hv : a.eval x = vx at hr
  cases hr with
  | @loc _ _ b h =>
    obtain ⟨b', e1, e2⟩ := hok.blk i _ _ hM' h
    cases e1
    obtain ⟨vs, hvs⟩ : ∃ vs, vs = L := ⟨_, rfl⟩
    rw [← hvs] at e2 hfit
    have e3 : vs.length = (L.map D.val).length := by rw [hvs]; simp
    have e4 : ∀ (j : Nat) d v, (L.map D.val)[j]? = some d → vs[j]? = some v → Rep s d v := fun j d v h1 h2 => by
      rw [hvs] at h2
      simp [h2] at h1
      subst h1
      exact .val _
    have hcell := cellsAt_block e2 0
    have hrun := run_store (P := P) (w := s.w) (C := [a.eval y]) ho hT hv rfl (by rw [hc1]) rfl (fun j hj => by
        have hj0 : j = 0 := by simp at hj; exact hj
        subst hj0
        have hp' : p < vs.length := by omega
        have := hcell p vs[p] (by simp [hp'])
        rw [Nat.zero_add] at this
        rw [Nat.add_zero, this]; rfl) (fun j hj => by simp [World.frozen?, e2]) (fun u hu => by rw [List.mem_singleton.1 hu]; exact hc2)
    refine dg_skip (s' := ⟨s.β.set i (.pointer (some ⟨b, 0, none⟩)), s.I, s.M.set i (.mix T' ((L.map .val).set p (.hnd q))), s.w.setCells b p [a.eval y]⟩) hrun (tr_store hok hM' rfl h rfl p _ ?_) rfl
    refine ⟨b, vs.set p (a.eval y), rfl, setCells_block b _ p s.w vs T' e2, by simp [e3], fun j e v hj hv' => ?_⟩
    have hβ : s.β.set i (.pointer (some ⟨b, 0, none⟩)) = s.β := by
      apply List.ext_getElem?
      intro k
      by_cases e : i = k
      · subst e; rw [List.getElem?_set_self (List.getElem?_eq_some_iff.1 h).1, h]
      · rw [List.getElem?_set_ne e]
    have lift : ∀ {e : D} {v : Value}, Rep s e v → Rep ⟨s.β.set i (.pointer (some ⟨b, 0, none⟩)), s.I, s.M.set i (.mix T' ((L.map .val).set p (.hnd q))), s.w.setCells b p [a.eval y]⟩ e v := by
      intro e v hr
      refine Rep.mono' (s := s) (s' := ⟨s.β.set i (.pointer (some ⟨b, 0, none⟩)), s.I, s.M.set i (.mix T' ((L.map .val).set p (.hnd q))), s.w.setCells b p [a.eval y]⟩) (fun k x hk _ => by show (s.β.set i _)[k]? = _; rw [hβ]; exact hk) (fun _ h => h) (fun b' hI => setCells_other b _ p s.w b' fun e => ?_) hr
      subst e
      exact (hok.lt b' (live_of hM' rfl h rfl)).2 hI
    by_cases e' : p = j
    · subst e'
      rw [List.getElem?_set_self (by omega)] at hj
      rw [List.getElem?_set_self (by omega)] at hv'
      cases hj; cases hv'
      exact lift hry
    · rw [List.getElem?_set_ne e'] at hj hv'
      exact lift (e4 j e v hj hv')
end
theorem op_neg' {P : Program} {pc : Bool} {o : Oper} {F : Fr} {M : List Blk} {T : TypeId} {x : Operand} {k : IntKind} {p : Int} (ho : o.op = .unOp .neg T x) (hx : Ev pc F x (.val (.int k p))) (h : pc = true → k.wrap (-p) = -p) : DOp P pc o F M [] (.val (.int k (-p))) [] := fun hp => by
  have := op_neg (P := P) (M := M) ho hx hp
  rwa [Int.zero_sub, h hp] at this

section
variable {P : Program} {pc : Bool} {o : Oper} {F : Fr} {M : List Blk}
/-- the first elements of a row that stays, with no room behind them -/
theorem op_sl3 {α : Type} {en : α → List Value} {r : List α} {T e : TypeId} {sz by' : Nat} {x hi mx : Operand} {k k' : IntKind} {h h' : Int} {j : Nat} (ho : o.op = .slice T x none (some hi) (some mx)) (hT : slE P T = some (e, sz, by')) (hx : Ev pc F x (.slf sz r.length (r.flatMap en))) (hhi : Ev pc F hi (.val (.int k h))) (hmx : Ev pc F mx (.val (.int k' h')))
    (hh : pc = true → h = (j : Int)) (hm : pc = true → h' = (j : Int)) (hj : pc = true → j ≤ r.length) (hen : ∀ a, (en a).length = sz) : DOp P pc o F M [] (.slc sz (r.take j).length ((r.take j).flatMap en)) [] := by
  intro hp a s hok hops _
  have hr := ev_at hp hx (by simp [ho, Op.operands]) hops
  have e1 := (ev_at hp hhi (by simp [ho, Op.operands]) hops).val_eq
  have e2 := (ev_at hp hmx (by simp [ho, Op.operands]) hops).val_eq
  rw [hh hp] at e1
  rw [hm hp] at e2
  have hjl := hj hp
  obtain ⟨q1, ti, q2, q3, q4⟩ := slE_spec hT
  have hlen : (r.take j).length = j := by rw [List.length_take]; omega
  generalize hv : a.eval x = vx at hr
  cases hr with
  | @slf _ _ cap ad _ hl hn hc ha hL =>
    have hjc : j ≤ cap := by omega
    have hrun : (execOp a.eval o).run P s.w = .ok (.value (.slice ad j j)) s.w := by
      unfold execOp
      simp only [ho, hv, Option.map_some, Option.map_none, e1, e2]
      refine run_v ?_
      have hj0 : (0 : Int) ≤ (j : Int) ∧ (j : Int) ≤ (cap : Int) := by omega
      simp [Instr.sliceAt, Instr.slice, run_underlying q1, Sem.run_bind, Instr.sliceBounds, Instr.sliceBound, asIntOf, hjc, sizeOf, typeInfo, q2, Addr.add_zero']
    refine dg_val hok hrun ?_
    rw [hlen]
    refine .slc (by rw [flat_len hen, hlen]) (by omega) (fun e => by have := ha e; omega) ?_
    rcases hL with hL | ⟨b, q, e, hI, hcl⟩
    · left
      have : (r.take j).flatMap en = (r.flatMap en).take (j * sz) := by rw [flat_take hen]
      rw [this, hL]; simp
    · right
      refine ⟨b, q, e, hI, ?_⟩
      have : (r.take j).flatMap en = (r.flatMap en).take (j * sz) := by rw [flat_take hen]
      rw [this]
      have h5 := cellsAt_sub hcl 0 (j * sz)
      simpa using h5
/-- append where there is no room: an array of its own -/
theorem op_apc {T e : TypeId} {sz by' n m : Nat} (j : Nat) {x y : Operand} {d : D} {L L2 Z : List Value} {fp : List Nat} (ho : o.op = .call { callee := .builtin .append, args := #[x, y], argTypes := #[T, T] }) (hT : slE P T = some (e, sz, by')) (hZ : zrC P e = some Z) (hZl : Z.length = sz)
    (hx : Ev pc F x (.slc sz n L)) (hy : Ev pc F y d) (hsrc : SrcD M fp d m sz L2) (hj : M[j]? = some .hole) (hbd : pc = true → 0 < m ∧ (n + m) * by' ≤ 140737488355328 ∧ n + m ≤ 140737488355328) :
    DOp P pc o F M (j :: fp) (.arr j) [(j, .arr e sz (n + m) (L ++ L2))] := by
  intro hp a s hok hops hfp
  obtain ⟨e1, ti, e2, e3, e4⟩ := slE_spec hT
  obtain ⟨ti', z, q1, q2, q3⟩ := zrC_spec hZ
  rw [e2] at q1
  obtain rfl := Option.some.inj q1
  obtain ⟨b0, b1, b2⟩ := hbd hp
  have hj' : s.M[j]? = some .hole := by rw [hfp j (by simp)]; exact hj
  have hjl : j < s.β.length := by rw [hok.len]; exact (List.getElem?_eq_some_iff.1 hj').1
  have hrx := ev_at hp hx (by simp [ho, Op.operands, Call.operands]) hops
  have hry := ev_at hp hy (by simp [ho, Op.operands, Call.operands]) hops
  obtain ⟨hl2, a2, c2, hv2, hso⟩ := hsrc s _ hok (fun k hk => hfp k (by simp [hk])) hry
  generalize hv : a.eval x = vx at hrx
  subst e3 e4
  have hzs : z.cells.size = ti.size := by rw [← hZl, ← q3]; simp
  obtain ⟨ad2, rfl, hcells⟩ : ∃ ad, a2 = some ad ∧ ∀ (j : Nat) u, L2[j]? = some u → s.w.cell? (ad.add j) = some u := by
    rcases hso with ⟨_, h, _⟩ | h
    · omega
    · exact h
  cases hrx with
  | @slc _ _ ad _ hl hc ha hL =>
    have grown : ∀ old, (s.w.drew.alloc (.cells (L.toArray ++ L2.toArray ++ Builtin.zeroCells z.cells (grownCap s.w (n + m) old e - (n + m))) e)).ownsRow 0 e ti.size (.slice (some ⟨s.w.heap.size, 0, none⟩) (n + m) (grownCap s.w (n + m) old e)) (n + m) (L ++ L2) := by
      intro old
      have hge := grownCap_ge s.w (n + m) old e
      have hll : (L ++ L2).length = (n + m) * ti.size := by rw [List.length_append, hl, hl2, Nat.add_mul]
      refine ⟨hll, .inr ⟨s.w.heap.size, _, _, rfl, Nat.zero_le _, heap_alloc_new s.w.drew _, hge, grownCap_le_maxLen s.w _ _ _ (by unfold maxLen; omega), ?_, ?_⟩⟩
      · simp only [Array.size_append, List.size_toArray, size_zeroCells, hzs, hl, hl2, ← Nat.add_mul]
        congr 1
        omega
      · simp only [Array.toList_append, List.append_assoc]
        rw [← List.append_assoc, ← hll]
        exact List.take_left
    have done : ∀ cap (W : World) (row : Array Value), (Builtin.append_ #[T, T] o.type #[.slice ad n n, a.eval y]).run P s.w = .ok (.slice (some ⟨s.w.heap.size, 0, none⟩) (n + m) cap) W → W = s.w.drew.alloc (.cells row e) → W.ownsRow 0 e ti.size (.slice (some ⟨s.w.heap.size, 0, none⟩) (n + m) cap) (n + m) (L ++ L2) →
        DGives P s (fun s' v => s'.M = upd s.M [(j, .arr e ti.size (n + m) (L ++ L2))] ∧ Rep s' (.arr j) v) ((execOp a.eval o).run P s.w) := by
      intro cap W row r1 hW r2
      subst hW
      refine dg_step (s' := ⟨s.β.set j (.slice (some ⟨s.w.heap.size, 0, none⟩) (n + m) cap), s.I, s.M.set j (.arr e ti.size (n + m) (L ++ L2)), s.w.drew.alloc (.cells row e)⟩) (run_builtin ho (fun cs => rfl) (by rw [← hv] at r1; simpa using r1)) (tr_new hok hj' (.slice (some ⟨s.w.heap.size, 0, none⟩) (n + m) cap) _ (s.w.drew.alloc (.cells row e)) (by simp) (fun b hb => by cases hb; rfl) (fun b h => Below.heap_alloc _ _ _ h) (fun b hb => by cases hb; simp) (by simp) rfl rfl rfl r2) rfl (.arr (by simp [hjl]))
    rw [hv2] at done
    cases ad with
    | none =>
      have hn0 := ha rfl
      subst hn0
      have hL0 : L = [] := List.eq_nil_of_length_eq_zero (by simpa using hl)
      subst hL0
      have hr := run_append_nil (P := P) s.w T o.type e ti z e1 e2 q2 ad2 m c2 L2 hl2 hcells (by omega) (by omega) (by rw [Nat.zero_add] at b1; omega)
      have hg := grown 0
      simp only [Nat.zero_add, List.nil_append, Array.empty_append] at hg hr done ⊢
      exact done _ _ _ hr rfl hg
    | some ad =>
      have holds : ∀ (j : Nat) u, L[j]? = some u → s.w.cell? (ad.add j) = some u := by
        intro j u hu
        rcases hL with rfl | ⟨b, q, e, hI, hcl⟩
        · simp at hu
        · cases e
          rw [Addr.add_mid]
          exact hcl j u hu
      have hr := run_append_grow (P := P) s.w T o.type e ti z e1 e2 q2 ad n n L hl holds ad2 m c2 L2 hl2 hcells (by omega) (by omega) (growslice_fits (by omega) b1)
      exact done _ _ _ hr rfl (grown n)
end
/-- a field of an element of an array of one's own -/
theorem op_ldff {P : Program} {pc : Bool} {o : Oper} {F : Fr} {M : List Blk} {T T' : TypeId} {x : Operand} {i j c k sz : Nat} {α : Type} {en : α → List Value} {l : List α} {v : Value} (a0 : α) (ho : o.op = .load T x) (hT : tyB P T = some (false, k)) (hx : Ev pc F x (.loc i (j * sz + c))) (hM : M[i]? = some (.flat T' (l.flatMap en))) (hen : ∀ a, (en a).length = sz) (hj : pc = true → j < l.length) (hc : c < sz) (hv : (en (l.getD j a0))[c]? = some v) : DOp P pc o F M [i] (.val v) [] := fun hp =>
  op_ldo ho hT hx hM (by rw [flat_cell hen (hj hp) hc, ← getD_at (a0 := a0) (hj hp)]; exact hv) hp
end Go.Proofs.Ytgomklemldldiaa
