/- A region that draws its order, where several operations look at what one of them turns, ahead of it or behind it, and read the same. Conditions: the kernel's look at its edges. -/
import Derived.Test.YtgomklemldldiaaLy
namespace Go.Proofs.Ytgomklemldldiaa
set_option linter.unusedVariables false
set_option linter.unusedSimpArgs false
open Go.RowKit

def pairOk3 (ops : Array Oper) (bj : Nat) (S : List Nat) (sj i j : Nat) (oi oj : Oper) (fi fj : List Nat × List Nat) : Bool :=
  bj.testBit i || !(meet oi.dst.toList (namesOf ops oj) || meet (namesOf ops oi) oj.dst.toList || (meet fi.2 fj.1 && !(i == sj && S.contains j)) || (meet fi.1 fj.2 && !(S.contains i && j == sj)))
def drawOk3 (S : List Nat) (sj : Nat) (fpS : List Nat) (n : Nat) (l : List Oper) (fps : List (List Nat × List Nat)) : Bool :=
  let bs := befL l []
  (fps.length == l.length && (List.range l.length).all fun j =>
    match l[j]?, fps[j]? with
    | some oj, some fj => oj.after.all (fun e => !Region.binds .any e || Nat.blt e.on j) && dstB n oj.dst && noDef oj.op && fj.2.all (fun x => fj.1.contains x) && (List.range j).all fun i =>
      match l[i]?, fps[i]? with
      | some oi, some fi => pairOk3 l.toArray (bs.getD j 0) S sj i j oi oj fi fj
      | _, _ => false
    | _, _ => false) && ((List.range l.length).all fun j => match fps[j]? with
      | some fj => j == sj || !(meet fj.2 fpS) || (Nat.blt sj j && ahead l sj j && S.all fun i => ahead l i j)
      | none => false) && Nat.blt sj l.length
/-- the walk in the text's order; the operations S read the same in the memory at first, and when sj has been done -/
def Lex3 (P : Program) (ops : Array Oper) (S : List Nat) (sj : Nat) (fpS : List Nat) (M0 Ma : List Blk) : Nat → List Oper → List (List Nat × List Nat) → Fr → List Blk → (Fr → List Blk → Prop) → Prop
  | _, [], _, F, M, Q => Q F M
  | _, _ :: _, [], _, _, _ => False
  | k, o :: rest, (fp, wi) :: fps, F, M, Q => ∃ pc d wr, Gd ops o F pc ∧ DOp P pc o F M fp d wr ∧ wr.map (·.1) = wi ∧ (o.guard.isSome = true → wr = []) ∧ ((k ∈ S → (∀ x ∈ fp, x ∈ fpS) ∧ wr = [] ∧ DOp P pc o F M0 fp d [] ∧ DOp P pc o F Ma fp d []) ∧ (k = sj → ∀ x ∈ fpS, (upd M0 wr)[x]? = Ma[x]?)) ∧ Lex3 P ops S sj fpS M0 Ma (k + 1) rest fps (putF o.dst (gdd o pc d) F) (upd M wr) Q

theorem lex_recs3 {P : Program} {ops : Array Oper} {S : List Nat} {sj : Nat} {fpS : List Nat} {M0 Ma : List Blk} {Q : Fr → List Blk → Prop} : ∀ (l : List Oper) (fps : List (List Nat × List Nat)) (F : Fr) (M : List Blk) (b : Nat), fps.length = l.length → Lex3 P ops S sj fpS M0 Ma b l fps F M Q →
    ∃ E : List Rc, E.length = l.length ∧ Q (Fup l E F l.length) (Mup E M l.length) ∧ ∀ (k : Nat) o f, l[k]? = some o → fps[k]? = some f → ∃ pc d r, E[k]? = some r ∧ r.d = gdd o pc d ∧ Gd ops o (Fup l E F k) pc ∧ DOp P pc o (Fup l E F k) (Mup E M k) f.1 d r.wr ∧ r.wr.map (·.1) = f.2 ∧ (o.guard.isSome = true → r.wr = []) ∧
      (b + k ∈ S → (∀ x ∈ f.1, x ∈ fpS) ∧ r.wr = [] ∧ DOp P pc o (Fup l E F k) M0 f.1 d [] ∧ DOp P pc o (Fup l E F k) Ma f.1 d []) ∧ (b + k = sj → ∀ x ∈ fpS, (upd M0 r.wr)[x]? = Ma[x]?)
  | [], [], F, M, b, _, h => ⟨[], rfl, h, fun k o f hk => by simp at hk⟩
  | o :: l, (fp, wi) :: fps, F, M, b, hl, h => by
    obtain ⟨pc, d, wr, h1, h2, h3, h4, ⟨g1, g2⟩, h5⟩ := h
    obtain ⟨E, e1, e2, e3⟩ := lex_recs3 l fps _ _ (b + 1) (by simpa using hl) h5
    have fup : ∀ k, Fup (o :: l) (⟨gdd o pc d, wr⟩ :: E) F (k + 1) = Fup l E (putF o.dst (gdd o pc d) F) k := by
      intro k
      induction k with
      | zero => rfl
      | succ k ih =>
        rw [Fup]
        simp only [List.getElem?_cons_succ]
        rw [ih]
        conv => rhs; rw [Fup]
    have mup : ∀ k, Mup (⟨gdd o pc d, wr⟩ :: E) M (k + 1) = Mup E (upd M wr) k := by
      intro k
      induction k with
      | zero => rfl
      | succ k ih =>
        rw [Mup]
        simp only [List.getElem?_cons_succ]
        rw [ih]
        conv => rhs; rw [Mup]
    refine ⟨⟨gdd o pc d, wr⟩ :: E, by simp [e1], by rw [List.length_cons, fup, mup]; exact e2, fun k p f hk hf => ?_⟩
    cases k with
    | zero =>
      simp at hk hf
      subst hk; subst hf
      exact ⟨pc, d, _, rfl, rfl, h1, h2, h3, h4, g1, g2⟩
    | succ k =>
      rw [fup, mup, show b + (k + 1) = b + 1 + k by omega]
      simpa using e3 k p f (by simpa using hk) (by simpa using hf)
  | [], _ :: _, _, _, _, hl, _ => by simp at hl
  | _ :: _, [], _, _, _, hl, _ => by simp at hl

section
variable {P : Program} {ops : Array Oper} {S : List Nat} {sj k : Nat} {fpS : List Nat} {M0 Ma : List Blk} {o : Oper} {rest : List Oper} {fp wi : List Nat} {fps : List (List Nat × List Nat)} {F : Fr} {M M1 : List Blk} {Q : Fr → List Blk → Prop} {d : D} {wr : List (Nat × Blk)} {t : Nat}
theorem lex3_op (hk : (S.contains k || k == sj) = false) (hg : o.guard = none) (h : DOp P true o F M fp d wr) (hw : wr.map (·.1) = wi)
    (hq : Lex3 P ops S sj fpS M0 Ma (k + 1) rest fps (putF o.dst d F) (upd M wr) Q) : Lex3 P ops S sj fpS M0 Ma k (o :: rest) ((fp, wi) :: fps) F M Q := by
  simp only [Bool.or_eq_false_iff, beq_eq_false_iff_ne] at hk
  have hk1 : k ∉ S := fun h => by have := hk.1; simp [h] at this
  unfold Lex3
  refine ⟨true, d, wr, gd_n hg, h, hw, fun h => ?_, ⟨fun e => absurd e hk1, fun e => absurd e hk.2⟩, ?_⟩
  · rw [hg] at h; cases h
  · unfold gdd; rw [hg]; exact hq
theorem lex3_r (hk : (S.contains k || k == sj) = false) (hg : o.guard = none) (hd : o.dst = some t) (h : DOp P true o F M fp d [])
    (hq : Lex3 P ops S sj fpS M0 Ma (k + 1) rest fps ((t, d) :: F) M Q) : Lex3 P ops S sj fpS M0 Ma k (o :: rest) ((fp, []) :: fps) F M Q := lex3_op hk hg h rfl (by rw [hd]; exact hq)
theorem lex3_w (hk : (S.contains k || k == sj) = false) (hg : o.guard = none) (hd : o.dst = some t) (h : DOp P true o F M fp d wr) (hw : wr.map (·.1) = wi) (hM : upd M wr = M1)
    (hq : Lex3 P ops S sj fpS M0 Ma (k + 1) rest fps ((t, d) :: F) M1 Q) : Lex3 P ops S sj fpS M0 Ma k (o :: rest) ((fp, wi) :: fps) F M Q := lex3_op hk hg h hw (by rw [hd, hM]; exact hq)
theorem lex3_s (hk : (S.contains k || k == sj) = false) (hg : o.guard = none) (hd : o.dst = none) (h : DOp P true o F M fp d wr) (hw : wr.map (·.1) = wi) (hM : upd M wr = M1)
    (hq : Lex3 P ops S sj fpS M0 Ma (k + 1) rest fps F M1 Q) : Lex3 P ops S sj fpS M0 Ma k (o :: rest) ((fp, wi) :: fps) F M Q := lex3_op hk hg h hw (by rw [hd, hM]; exact hq)
/-- .. one that reads the same ahead of it and behind it -/
theorem lex3_i (hk : (S.contains k && !(k == sj)) = true) (hf : (fp.all fun x => fpS.contains x) = true) (hg : o.guard = none) (hd : o.dst = some t) (h : DOp P true o F M fp d []) (h0 : DOp P true o F M0 fp d []) (h' : DOp P true o F Ma fp d [])
    (hq : Lex3 P ops S sj fpS M0 Ma (k + 1) rest fps ((t, d) :: F) M Q) : Lex3 P ops S sj fpS M0 Ma k (o :: rest) ((fp, []) :: fps) F M Q := by
  simp only [Bool.and_eq_true, Bool.not_eq_true', beq_eq_false_iff_ne] at hk
  unfold Lex3
  refine ⟨true, d, [], gd_n hg, h, rfl, fun _ => rfl, ⟨fun _ => ⟨fun x hx => by simpa using List.all_eq_true.1 hf x hx, rfl, h0, h'⟩, fun e => absurd e hk.2⟩, ?_⟩
  unfold gdd; rw [hg, hd]; exact hq
/-- .. the one that writes -/
theorem lex3_j (hk : (k == sj && !(S.contains k)) = true) (hg : o.guard = none) (hd : o.dst = some t) (h : DOp P true o F M fp d wr) (hw : wr.map (·.1) = wi) (hM : upd M wr = M1) (hM' : ∀ x ∈ fpS, (upd M0 wr)[x]? = Ma[x]?)
    (hq : Lex3 P ops S sj fpS M0 Ma (k + 1) rest fps ((t, d) :: F) M1 Q) : Lex3 P ops S sj fpS M0 Ma k (o :: rest) ((fp, wi) :: fps) F M Q := by
  simp only [Bool.and_eq_true, Bool.not_eq_true', beq_iff_eq] at hk
  have hk1 : k ∉ S := fun h => by have := hk.2; simp [h] at this
  unfold Lex3
  refine ⟨true, d, wr, gd_n hg, h, hw, fun h => ?_, ⟨fun e => absurd e hk1, fun _ => hM'⟩, ?_⟩
  · rw [hg] at h; cases h
  · unfold gdd; rw [hg, hd, hM]; exact hq
theorem lex3_nil (h : Q F M) : Lex3 P ops S sj fpS M0 Ma k [] [] F M Q := h
end

/-- **A region that draws its order**, in which some operations look at what one of them, in whatever order, turns: they read the same ahead of it and behind it. -/
theorem dwp_draw3 {P : Program} {s0 : St} {n : Cx} {id : Nat} {l : List Oper} {F : Fr} {M : List Blk} {K : Cont} (S : List Nat) (sj : Nat) (fpS : List Nat) (Ma : List Blk) (fps : List (List Nat × List Nat)) (hMaB : Ma.length = M.length) (hm : P.follows .mixedOrders = true) (hB : drawOk3 S sj fpS n.n l fps = true) (h : Lex3 P l.toArray S sj fpS M Ma 0 l fps F M (fun F M => K .normal F M)) :
    dwp P s0 n (.region id l.toArray true) F M K := by
  intro a w hi
  refine wpIn_region_any hm ?_
  simp only [drawOk3, Bool.and_eq_true, beq_iff_eq, List.all_eq_true, List.mem_range] at hB
  obtain ⟨⟨⟨hlen, hB⟩, hmid0⟩, hsj⟩ := hB
  have hsj := Nat.blt_eq.mp hsj
  obtain ⟨E, e1, e2, e3'⟩ := lex_recs3 l fps F M 0 hlen h
  have e3 : ∀ (k : Nat) o f, l[k]? = some o → fps[k]? = some f → ∃ pc d r, E[k]? = some r ∧ r.d = gdd o pc d ∧ Gd l.toArray o (Fup l E F k) pc ∧ DOp P pc o (Fup l E F k) (Mup E M k) f.1 d r.wr ∧ r.wr.map (·.1) = f.2 ∧ (o.guard.isSome = true → r.wr = []) := fun k o f h1 h2 => by
    obtain ⟨pc, d, r, q1, q2, q3, q4, q5, q6, _⟩ := e3' k o f h1 h2
    exact ⟨pc, d, r, q1, q2, q3, q4, q5, q6⟩
  have at_ : ∀ k, k < l.length → ∃ o f, l[k]? = some o ∧ fps[k]? = some f := fun k hk => ⟨l[k], fps[k], List.getElem?_eq_getElem hk, List.getElem?_eq_getElem (by omega)⟩
  have hone : ∀ (j : Nat) o f, l[j]? = some o → fps[j]? = some f → (∀ e ∈ o.after.toList, Region.binds .any e = true → e.on < j) ∧ dstB n.n o.dst = true ∧ noDef o.op = true ∧ (∀ x ∈ f.2, x ∈ f.1) ∧ ∀ (i : Nat) oi fi, i < j → l[i]? = some oi → fps[i]? = some fi → ahead l i j = true ∨ (meet oi.dst.toList (namesOf l.toArray o) = false ∧ meet (namesOf l.toArray oi) o.dst.toList = false ∧ (meet fi.2 f.1 = false ∨ (i = sj ∧ j ∈ S)) ∧ (meet fi.1 f.2 = false ∨ (i ∈ S ∧ j = sj))) := by
    intro j o f ho hf
    have hj : j < l.length := (List.getElem?_eq_some_iff.1 ho).1
    have h1 := hB j hj
    rw [ho, hf] at h1
    simp only [Bool.and_eq_true, List.all_eq_true, List.mem_range] at h1
    obtain ⟨⟨⟨⟨h1, h2⟩, hnd⟩, h3⟩, h4⟩ := h1
    refine ⟨fun e he hb => ?_, h2, hnd, fun x hx => by simpa using h3 x hx, fun i oi fi hij hoi hfi => ?_⟩
    · have := Array.all_eq_true_iff_forall_mem.1 h1 e (by simpa using he)
      rw [hb] at this
      exact Nat.blt_eq.mp (by simpa using this)
    · have h5 := h4 i hij
      rw [hoi, hfi] at h5
      simp only [pairOk3, Bool.or_eq_true, Bool.not_eq_true', Bool.or_eq_false_iff, Bool.and_eq_false_iff, Bool.not_eq_false', Bool.and_eq_true, beq_iff_eq, List.contains_iff_mem] at h5
      rcases h5 with h5 | ⟨⟨⟨q1, q2⟩, q3⟩, q4⟩
      · exact .inl h5
      · exact .inr ⟨q1, q2, q3, q4⟩
  have meet_no : ∀ {x : List Nat} {y : List Nat} {t : Nat}, meet x y = false → t ∈ x → t ∈ y → False := by
    intro x y t hm hx hy
    simp only [meet, List.any_eq_false] at hm
    exact hm t hx (by simpa using hy)
  have hM0 : ∃ s : St, s.M = M := by obtain ⟨_, s, h1, _⟩ := hi; exact ⟨s, h1⟩
  -- the state when some have been done
  have main : ∀ (f : Nat) (listed : Array Bool) (b : Act) (s : St), Ok s0 → listed.size = l.length → unl listed l.length = f → Tr s0 s →
      (∀ t d, lkS l E F (fun k => listed.getD k false) t l.length = some d → Rep s d (slot b t)) → s.M.length = M.length → (∀ i, i < M.length → s.M[i]? = memS E M (fun k => listed.getD k false) i l.length) →
      b.tmps.size = n.n → DfOk s0 s n.mks n.U b.defers → (∀ j i, listed.getD j false = true → j < l.length → ahead l i j = true → listed.getD i false = true) →
      wpAnyIn (wd (n.ρ s0)) 0 P .any l.toArray (PostK s0 n K) f listed b s.w := by
    intro f
    induction f with
    | zero =>
      intro listed b s h0 hs hu ht hF hMl hM hn hd _
      have hall := unl_zero _ hu
      refine ⟨?_, ?_⟩
      · cases hr : Region.ready .any l.toArray listed with
        | nil => rfl
        | cons i r =>
          have hi : i ∈ Region.ready .any l.toArray listed := by rw [hr]; exact List.mem_cons_self ..
          obtain ⟨h1, o, h2, _⟩ := mem_ready.1 hi
          have hil : i < l.length := by simpa using (Array.getElem?_eq_some_iff.1 h2).1
          rw [getD_tf hs hil, hall i hil] at h1
          cases h1
      · refine ⟨_, _, ⟨h0, s, ?_, rfl, ht, ?_, hn, hd⟩, e2⟩
        · refine List.ext_getElem? fun i => ?_
          by_cases hi : i < M.length
          · rw [hM i hi, mup_at i hi]
            exact memS_congr _ fun j r hj _ _ => hall j hj
          · rw [List.getElem?_eq_none (by omega), List.getElem?_eq_none (by rw [Mup_len]; omega)]
        · intro t d hd'
          rw [fup_lk] at hd'
          refine hF t d ?_
          rw [← hd']
          exact lkS_congr _ fun j o hj _ _ => hall j hj
    | succ f ih =>
      intro listed b s h0 hs hu ht hF hMl hM hn hd hcl
      refine ⟨fun hnone => ?_, fun i hi => ?_⟩
      · exfalso
        obtain ⟨i, h1, h2, h3⟩ := unl_some l.length (listed := listed) (by omega)
        obtain ⟨o, fi, ho, hfi⟩ := at_ i h1
        obtain ⟨g1, _⟩ := hone i o fi ho hfi
        have : i ∈ Region.ready .any l.toArray listed := mem_ready.2 ⟨by rw [getD_tf hs h1]; exact h2, o, by simpa using ho, fun e he hb => h3 _ (g1 e (by simpa using he) hb)⟩
        rw [hnone] at this
        cases this
      · obtain ⟨hun, o, ho, hall⟩ := mem_ready.1 hi
        have ho' : l[i]? = some o := by simpa using ho
        have hil : i < l.length := (List.getElem?_eq_some_iff.1 ho').1
        rw [getD_tf hs hil] at hun
        obtain ⟨fi, hfi⟩ : ∃ fi, fps[i]? = some fi := ⟨fps[i], List.getElem?_eq_getElem (by omega)⟩
        obtain ⟨pc, d, r, hr, hrd, hg, hop, hwi, hgw, hsoft, _⟩ := e3' i o fi ho' hfi
        rw [Nat.zero_add] at hsoft
        obtain ⟨g1, g2, hnd, g3, g4⟩ := hone i o fi ho' hfi
        -- what stands ahead of i has been done
        have done : ∀ j, ahead l j i = true → listed.getD j false = true := by
          intro j hj
          obtain ⟨e, he, hb, hcase⟩ := ahead_step ho' hj
          have h1 := hall e (by simpa using he) hb
          rcases hcase with rfl | ⟨h2, h3⟩
          · exact h1
          · exact hcl e.on j h1 (by omega) h3
        have undone : ∀ j, j < l.length → ahead l i j = true → listed.getD j false = false := by
          intro j hj h1
          cases e : listed.getD j false with
          | false => rfl
          | true => rw [hcl j i e hj h1] at hun; cases hun
        have tset : ∀ t, t ∈ namesOf l.toArray o → lkS l E F (fun k => listed.getD k false) t l.length = lkS l E F (fun _ => true) t i := by
          intro t ht
          rw [lkS_cut i l.length (by omega) fun j oj h1 h2 hj hjd => ?_]
          · refine lkS_congr i fun j oj hj hoj hjd => ?_
            obtain ⟨fj, hfj⟩ : ∃ fj, fps[j]? = some fj := ⟨fps[j], List.getElem?_eq_getElem (by omega)⟩
            rcases g4 j oj fj hj hoj hfj with h1 | h1
            · exact done j h1
            · exact (meet_no h1.1 (by simp [hjd]) ht).elim
          · by_cases e : j = i
            · subst e; exact hun
            · obtain ⟨fj, hfj⟩ : ∃ fj, fps[j]? = some fj := ⟨fps[j], List.getElem?_eq_getElem (by omega)⟩
              rcases (hone j oj fj hj hfj).2.2.2.2 i o fi (by omega) ho' hfi with h3 | h3
              · exact undone j h2 h3
              · exact (meet_no h3.2.1 ht (by simp [hjd])).elim
        have wmem0 : ∀ x, x ∈ fi.1 → ∀ (j : Nat) rj fj, E[j]? = some rj → fps[j]? = some fj → j < l.length → (wrAt rj.wr x).isSome = true → x ∈ fj.2 := by
          intro x _ j rj fj hrj hfj hj hw
          obtain ⟨oj, _, hoj, _⟩ := at_ j hj
          obtain ⟨_, _, r', hr', _, _, _, hw', _⟩ := e3 j oj fj hoj hfj
          rw [hrj] at hr'
          obtain rfl := Option.some.inj hr'
          rw [← hw']
          refine Classical.byContradiction fun hno => ?_
          rw [wrAt_none _ _ hno] at hw
          cases hw
        have msetS : i ∈ S → ∀ x, x ∈ fi.1 → x < M.length → memS E M (fun k => listed.getD k false) x l.length = if listed.getD sj false = true then Ma[x]? else M[x]? := by
          intro hiS x hx hxl
          obtain ⟨hsub, hwr, _, _⟩ := hsoft hiS
          have hxS := hsub x hx
          have hoth : ∀ (j : Nat) rj, j ≠ sj → j < l.length → E[j]? = some rj → (wrAt rj.wr x).isSome = true → sj < j ∧ listed.getD j false = false := by
            intro j rj hne hjl hrj hw
            obtain ⟨oj, fj, hoj, hfj⟩ := at_ j hjl
            have hxw := wmem0 x hx j rj fj hrj hfj hjl hw
            have h7 := hmid0 j hjl
            rw [hfj] at h7
            simp only [Bool.or_eq_true, Bool.not_eq_true', Bool.and_eq_true, beq_iff_eq, List.all_eq_true] at h7
            rcases h7 with (h7 | h7) | ⟨⟨h7, h8⟩, h9⟩
            · exact absurd h7 hne
            · exact (meet_no h7 hxw hxS).elim
            · exact ⟨Nat.blt_eq.mp h7, undone j hjl (h9 i hiS)⟩
          by_cases hl : listed.getD sj false = true
          · rw [if_pos hl, memS_cut (sj + 1) l.length (by omega) fun j rj h1 h2 hrj hw => (hoth j rj (by omega) h2 hrj hw).2]
            obtain ⟨oj, fj, hoj, hfj⟩ := at_ sj hsj
            obtain ⟨_, _, rj, hrj, _, _, _, _, _, _, hj⟩ := e3' sj oj fj hoj hfj
            have hj := hj (Nat.zero_add _) x hxS
            have hlow : memS E M (fun k => listed.getD k false) x sj = M[x]? := by
              rw [memS_cut 0 sj (by omega) fun j r' h1 h2 hr' hw => absurd (hoth j r' (by omega) (by omega) hr' hw).1 (by omega)]
              rfl
            unfold memS
            rw [hrj]
            simp only
            rw [if_pos hl, hlow]
            rw [← upd_get _ _ _ hxl]; exact hj
          · rw [if_neg hl, memS_cut 0 l.length (by omega) fun j rj h1 h2 hrj hw => by
              by_cases e : j = sj
              · subst e; simpa using hl
              · exact (hoth j rj e h2 hrj hw).2]
            rfl
        have mset : i ∉ S → ∀ x, x ∈ fi.1 → memS E M (fun k => listed.getD k false) x l.length = memS E M (fun _ => true) x i := by
          intro hsf x hx
          have wmem : ∀ (j : Nat) rj fj, E[j]? = some rj → fps[j]? = some fj → j < l.length → (wrAt rj.wr x).isSome = true → x ∈ fj.2 := by
            intro j rj fj hrj hfj hj hw
            obtain ⟨oj, _, hoj, _⟩ := at_ j hj
            obtain ⟨_, _, r', hr', _, _, _, hw', _⟩ := e3 j oj fj hoj hfj
            rw [hrj] at hr'
            obtain rfl := Option.some.inj hr'
            rw [← hw']
            refine Classical.byContradiction fun hno => ?_
            rw [wrAt_none _ _ hno] at hw
            cases hw
          rw [memS_cut i l.length (by omega) fun j rj h1 h2 hrj hw => ?_]
          · refine memS_congr i fun j rj hj hrj hw => ?_
            obtain ⟨oj, fj, hoj, hfj⟩ := at_ j (by omega)
            rcases g4 j oj fj hj hoj hfj with h1 | h1
            · exact done j h1
            · rcases h1.2.2.1 with h1 | h1
              · exact (meet_no h1 (wmem j rj fj hrj hfj (by omega) hw) hx).elim
              · exact absurd h1.2 hsf
          · by_cases e : j = i
            · subst e; exact hun
            · obtain ⟨oj, fj, hoj, hfj⟩ := at_ j (by omega)
              rcases (hone j oj fj hoj hfj).2.2.2.2 i o fi (by omega) ho' hfi with h3 | h3
              · exact undone j h2 h3
              · rcases h3.2.2.2 with h4 | h4
                · exact (meet_no h4 hx (wmem j rj fj hrj hfj h2 hw)).elim
                · exact absurd h4.1 hsf
        have hslot : ∀ t d, t ∈ o.looksAt l.toArray → lk (Fup l E F i) t = some d → Rep s d (slot b t) := by
          intro t d' ht hd'
          refine hF t d' ?_
          rw [tset t (List.mem_append_left _ ht), ← fup_lk]
          exact hd'
        have next : ∀ (s' : St) (v : Value), Tr s s' → s'.M = upd s.M r.wr → Rep s' r.d v → wpAnyIn (wd (n.ρ s0)) 0 P .any l.toArray (PostK s0 n K) f (listed.setIfInBounds i true) (b.put o.dst v) s'.w := by
          intro s' v ht' hM' hrep
          have hset : ∀ k, (listed.setIfInBounds i true).getD k false = if i = k then true else listed.getD k false := fun k => getD_set _ _ _ (by rw [hs]; exact hil)
          refine ih _ _ s' h0 (by simp [hs]) ?_ (ht.trans ht') ?_ (by rw [hM', upd_len, hMl]) ?_ (by rw [put_size]; exact hn) (by rw [put_def]; exact hd.mono ht.ok ht') ?_
          · have := unl_set (by rw [hs]; exact hil) hun l.length
            rw [if_pos hil] at this
            omega
          · intro t d' hd'
            by_cases htd : o.dst = some t
            · have e : lkS l E F (fun k => (listed.setIfInBounds i true).getD k false) t l.length = some r.d := by
                rw [lkS_cut (i + 1) l.length (by omega) fun j oj h1 h2 hj hjd => ?_]
                · unfold lkS
                  rw [ho', hr]
                  simp only
                  rw [if_pos ⟨by rw [hset, if_pos rfl], htd⟩]
                · rw [hset, if_neg (by omega)]
                  obtain ⟨fj, hfj⟩ : ∃ fj, fps[j]? = some fj := ⟨fps[j], List.getElem?_eq_getElem (by omega)⟩
                  rcases (hone j oj fj hj hfj).2.2.2.2 i o fi (by omega) ho' hfi with h3 | h3
                  · exact undone j h2 h3
                  · exact (meet_no (t := t) h3.2.1 (List.mem_append_right _ (by simp [htd])) (by simp [hjd])).elim
              rw [e] at hd'
              obtain rfl := Option.some.inj hd'
              have hsz : t < b.tmps.size := by
                rw [htd] at g2
                rw [hn]
                exact Nat.blt_eq.mp g2
              rw [htd, slot_put, if_pos ⟨rfl, hsz⟩]
              exact hrep
            · have e : slot (b.put o.dst v) t = slot b t := by
                cases hod : o.dst with
                | none => rfl
                | some x => rw [slot_put, if_neg (fun q => htd (by rw [hod, q.1]))]
              rw [e]
              refine (hF t d' ?_).mono ht.ok ht'
              rw [← hd']
              refine lkS_congr _ fun j oj hj hoj hjd => ?_
              rw [hset]
              by_cases ej : i = j
              · subst ej
                rw [ho'] at hoj
                obtain rfl := Option.some.inj hoj
                exact absurd hjd htd
              · rw [if_neg ej]
          · intro x hx
            rw [hM', upd_get _ _ _ (by omega), hM x hx]
            cases hw : wrAt r.wr x with
            | none =>
              rw [Option.none_or]
              refine memS_congr _ fun j rj hj hrj hwj => ?_
              rw [hset]
              by_cases ej : i = j
              · subst ej
                rw [hr] at hrj
                obtain rfl := Option.some.inj hrj
                rw [hw] at hwj; cases hwj
              · rw [if_neg ej]
            | some k =>
              rw [Option.some_or]
              have hxw : x ∈ fi.2 := by
                rw [← hwi]
                refine Classical.byContradiction fun hno => ?_
                rw [wrAt_none _ _ hno] at hw
                cases hw
              rw [memS_cut (i + 1) l.length (by omega) fun j rj h1 h2 hrj hwj => ?_]
              · unfold memS
                rw [hr]
                simp only
                rw [if_pos (by rw [hset, if_pos rfl]), hw, Option.some_or]
              · rw [hset, if_neg (by omega)]
                obtain ⟨oj, fj, hoj, hfj⟩ := at_ j (by omega)
                rcases (hone j oj fj hoj hfj).2.2.2.2 i o fi (by omega) ho' hfi with h3 | h3
                · exact undone j h2 h3
                · rcases h3.2.2.2 with h4 | h4
                  rotate_left
                  · rw [← hwi, (hsoft h4.1).2.1] at hxw
                    cases hxw
                  refine (meet_no h4 (g3 x hxw) ?_).elim
                  obtain ⟨_, _, r', hr', _, _, _, hw', _⟩ := e3 j oj fj hoj hfj
                  rw [hrj] at hr'
                  obtain rfl := Option.some.inj hr'
                  rw [← hw']
                  refine Classical.byContradiction fun hno => ?_
                  rw [wrAt_none _ _ hno] at hwj
                  cases hwj
          · intro j k hj hjl hk
            rw [hset] at hj ⊢
            by_cases e : i = k
            · rw [if_pos e]
            · rw [if_neg e]
              by_cases ej : i = j
              · subst ej; exact done k hk
              · rw [if_neg ej] at hj
                exact hcl j k hj hjl hk
        unfold wpOpIn
        rw [ho]
        simp only
        rw [gd_wanted hg hslot]
        cases pc with
        | true =>
          rw [if_pos rfl]
          have hlook : ∀ x ∈ o.op.operands, ∀ d', ev (Fup l E F i) x = some d' → Rep s d' (b.eval x) := fun x hx d' hd' => by
            cases x with
            | tmp t => exact hslot t d' (List.mem_append_left _ (List.mem_filterMap.2 ⟨.tmp t, by simpa using hx, rfl⟩)) hd'
            | const v => obtain rfl := Option.some.inj hd'; exact .val v
            | func g => obtain rfl := Option.some.inj hd'; exact Rep.fn (vs := []) (us := []) rfl rfl (fun j d v h => by simp at h) (fun j d v h => by simp at h)
            | global g => cases hd'
          have hgive : DGives P s (fun s' v => s'.M = upd s.M r.wr ∧ Rep s' d v) ((execOp b.eval o).run P s.w) := by
            by_cases hsf : i ∈ S
            · obtain ⟨_, hwr, hop1, hop2⟩ := hsoft hsf
              rw [hwr]
              by_cases hl : listed.getD sj false = true
              · refine hop2 rfl b s ht.ok hlook fun x hx => ?_
                by_cases hxl : x < M.length
                · rw [hM x hxl, msetS hsf x hx hxl, if_pos hl]
                · rw [List.getElem?_eq_none (by omega), List.getElem?_eq_none (by rw [hMaB]; omega)]
              · refine hop1 rfl b s ht.ok hlook fun x hx => ?_
                by_cases hxl : x < M.length
                · rw [hM x hxl, msetS hsf x hx hxl, if_neg hl]
                · rw [List.getElem?_eq_none (by omega), List.getElem?_eq_none (by omega)]
            · refine hop rfl b s ht.ok hlook fun x hx => ?_
              by_cases hxl : x < M.length
              · rw [hM x hxl, mup_at x hxl, mset hsf x hx]
              · rw [List.getElem?_eq_none (by omega), List.getElem?_eq_none (by rw [Mup_len]; omega)]
          refine dgives_in hnd hgive fun s' v ht' ⟨q1, q2⟩ => next s' v ht' q1 ?_
          · rw [hrd]
            unfold gdd
            split
            · exact q2
            · exact .opt (fun _ => q2) (fun h => by cases h)
        | false =>
          rw [if_neg (by simp)]
          have hgs : o.guard.isSome = true := by
            unfold Gd at hg
            cases e : o.guard with
            | none => rw [e] at hg; cases hg
            | some x => rfl
          refine ⟨fun _ _ => trivial, next s undef (Tr.refl ht.ok) (by rw [hgw hgs]; rfl) ?_⟩
          rw [hrd]
          unfold gdd
          split
          · rename_i e; rw [e] at hgs; cases hgs
          · exact .opt (fun h => by cases h) (fun _ => rfl)
  obtain ⟨h0, s, h1, h2, h3, h4, h5, h6⟩ := hi
  subst h1 h2
  have hst := step_same h3.ok { s.w with drawn := s.w.drawn + 1 } rfl rfl rfl rfl
  have hno : ∀ k, (Array.replicate l.toArray.size false).getD k false = false := fun k => by
    simp only [Array.getD_eq_getD_getElem?, Array.getElem?_replicate]
    split <;> rfl
  have := main l.length (Array.replicate l.toArray.size false) a ⟨s.β, s.I, s.M, { s.w with drawn := s.w.drawn + 1 }⟩ h0 (by simp) (by
      have := unl_start l.toArray.size l.length (by simp)
      exact this) (h3.trans hst) (fun t d hd => ?_) rfl (fun i hi => ?_) h5 (h6.mono h3.ok hst) (fun j i hj => by rw [hno] at hj; cases hj)
  · simpa using this
  · rw [lkS_cut 0 l.length (by omega) fun j o _ _ _ _ => hno j] at hd
    exact (h4 t d hd).mono h3.ok hst
  · rw [memS_cut 0 l.length (by omega) fun j r _ _ _ _ => hno j]
    rfl
end Go.Proofs.Ytgomklemldldiaa
