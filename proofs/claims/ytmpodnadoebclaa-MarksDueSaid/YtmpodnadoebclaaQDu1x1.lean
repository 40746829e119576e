/- Operations, one behind the other; a call by its contract; From a contract to the statement: a law whose call returns true whatever its arguments read as; with listed variables, too.  but the kernel's look at the program; Rows of structs with no room behind them; variables that stay, named by their addresses where that is asked for; ids; the law of what is due. No condition. -/
import Derived.Test.YtmpodnadoebclaaQ5
import Derived.Test.YtmpodnadoebclaaRows
namespace Go.Proofs.Ytmpodnadoebclaa
set_option linter.unusedVariables false
set_option linter.unusedSimpArgs false
open Go.RowKit
section
variable {P : Program} {s0 : St} {n : Cx} {ops : Array Oper}
theorem gd_tt {o : Oper} {F : Fr} {j t : Nat} {g b : Bool} (h : o.guard = some (j, true)) (ht : (ops[j]?).bind (·.dst) = some t) (hl : lk F t = some (.opt g (.val (.bool b)))) : Gd ops o F (g && b) := by
  unfold Gd; rw [h]; exact ⟨t, g, b, ht, .inl hl, by simp⟩
end

/-! ### names turned back -/
end Go.Proofs.Ytmpodnadoebclaa
namespace Go.Proofs.Ytmpodnadoebclaa
set_option linter.unusedVariables false
set_option linter.unusedSimpArgs false
open Go.ChangeShapes Go.WideShapes Go.ChangeAt Go.RowKit Go.Joins Go.Deep
set_option maxRecDepth 100000
section
variable {H : Type} {enc : TypeId × Value → H} {w : World} {base b0 : Nat} {r : Reach} {spare : Nat → Bool} {held : Bool} {v : Value} {d : DataW H} {p : List MemPlace}
theorem open_prim {α : Type} {t : TypeId} {q : Prim} (mk : α → Value) (ok : α → Prop) (hP : ∀ v, q.is v → ∃ a, ok a ∧ v = mk a) (hf : flatT Try.prog 1 t = some [q]) (hv : ∃ u : Value, v = u ∧ u.cells = #[u]) (h : DataW.Trod enc Try.prog w base spare held t v d p) : ∃ a, ok a ∧ v = mk a := by
  obtain ⟨u, rfl, hc⟩ := hv
  obtain ⟨fuel, hfu⟩ := h
  have hfit := flat_trod 1 _ _ _ _ _ hf hfu
  rw [hc] at hfit
  exact hP v hfit.1
end
end Go.Proofs.Ytmpodnadoebclaa
namespace Go.Proofs.Ytmpodnadoebclaa
set_option linter.unusedVariables false
set_option linter.unusedSimpArgs false
open Go.RowKit
section
variable {P : Program} {pc : Bool} {o : Oper} {F : Fr} {M : List Blk}
/-- an element of a row of structs, where there is one -/
theorem op_ixmg {α : Type} {mk : α → List D} {l : List α} {T e : TypeId} {x y : Operand} {k : IntKind} {z : Int} {sz by' : Nat} (j : Nat) (a0 : α) (hpos : 0 < sz) (ho : o.op = .indexAddr T x y) (hT : slE P T = some (e, sz, by')) (hx : Ev pc F x (.slm sz l.length (l.flatMap mk))) (hy : Ev pc F y (.val (.int k z))) (hz : pc = true → z = (j : Int)) (hj : pc = true → j < l.length) (hmk : ∀ a, (mk a).length = sz) : DOp P pc o F M [] (.dpm (mk (l.getD j a0))) [] := fun hp => by
  have h := op_ixmr (M := M) j hpos ho hT hx hy hz (hj hp) hmk hp
  rwa [List.getD_eq_getElem?_getD, List.getElem?_eq_getElem (hj hp)]
end
section
variable {P : Program} {s0 : St} {n : Cx}
end
end Go.Proofs.Ytmpodnadoebclaa
namespace Go.Proofs.Ytmpodnadoebclaa
set_option maxRecDepth 4000
set_option linter.unusedVariables false
set_option linter.unusedSimpArgs false
open Go.RowKit
def idxI (l : List I3) (i : I3) : Int := if i ∈ l then (l.idxOf i : Int) else -1
theorem idxI_at {l : List I3} {i : I3} {k : Nat} (hk : k < l.length) (hno : i ∉ l.take k) (h : i = l[k]) : idxI l i = k := by
  have hm : i ∈ l := h ▸ List.getElem_mem hk
  unfold idxI
  rw [if_pos hm]
  have h1 : l.idxOf i = k := by
    have e : l = l.take k ++ l.drop k := (List.take_append_drop k l).symm
    rw [e, List.idxOf_append, if_neg hno, List.drop_eq_getElem_cons hk, ← h, List.idxOf_cons_self, List.length_take]
    omega
  rw [h1]
theorem idxI_no {l : List I3} {i : I3} (h : i ∉ l) : idxI l i = -1 := if_neg h
theorem take_no {l : List I3} {i : I3} {k : Nat} (hk : k < l.length) (hno : i ∉ l.take k) (h : i ≠ l[k]) : i ∉ l.take (k + 1) := by
  rw [List.take_succ_eq_append_getElem hk, List.mem_append]
  rintro (h1 | h1)
  · exact hno h1
  · simp at h1; exact h h1
set_option maxRecDepth 4000 in
set_option maxHeartbeats 1000000 in
theorem index_d (l : List I3) (i : I3) : DFun Try.prog 37 [.slf 3 l.length (l.flatMap idc), .val (.agg (idc i).toArray)] [] (.val (.int .i64 (idxI l i))) [] := by
  refine zao (N := 19) 0 (by kernel_rfl) Try.func37 rfl rfl rfl (by simp only [fr0, Nat.zero_add, Nat.reduceAdd]; exact rfl) rfl fun s0 hs0 => ?_
  refine dwp_len (t := 0) rfl fun hl0 hL0 => ?_
  refine zae ?_
  refine zak 1 (by simp only [holes, List.cons_append, List.nil_append]; exact rfl) ?_
  refine zad ?_
  refine zan rfl rfl rfl (op_boxa 0 rfl (ev1 rfl) rfl) (by simp only [upd, za, zaa]; exact rfl) ?_
  refine zab rfl rfl rfl (zac (.inr rfl) (ev1 rfl)) ?_
  refine zaf ?_
  refine zae ?_
  refine zae ?_
  refine zad ?_
  refine zab rfl rfl rfl (zac (.inl rfl) (ev1 rfl)) ?_
  refine zab rfl rfl rfl (op_len rfl sl22 (ev1 rfl)) ?_
  refine zab rfl rfl rfl (zac (.inl rfl) (ev1 rfl)) ?_
  refine zaf ?_
  refine zam ?_
  refine dwp_loopS ⟨hs0, rfl⟩ (α := Nat) (fun k => [(8, .val (.int .i64 (k : Int)))]) [(0, _), (3, _), (7, _)] (fun k => []) [_] (fun k => k ≤ l.length ∧ i ∉ l.take k) (fun k => l.length - k) 0 [0] (⟨Nat.zero_le _, by simp⟩) rfl ⟨rfl, rfl, rfl, trivial⟩ ⟨rfl, trivial⟩ ⟨rfl, trivial⟩ ?_
  intro k hx
  simp only [upd, za, zaa, List.cons_append, List.nil_append]
  obtain ⟨hk, hno⟩ := hx
  refine zae ?_
  refine zad ?_
  refine zab rfl rfl rfl (op_lss rfl (ev1 rfl) (ev1 rfl)) ?_
  refine zaf ?_
  refine zae ?_
  refine dwp_cond rfl (fun c1 => ?_) (fun c1 => ?_)
  · try simp only [decide_eq_true_eq, decide_eq_false_iff_not, beq_iff_eq, bne_iff_ne, beq_eq_false_iff_ne, bne_eq_false_iff_eq, Bool.not_eq_true', Bool.not_eq_false', Bool.and_eq_true, Bool.or_eq_true, Bool.or_eq_false_iff, ne_eq, Decidable.not_not, Int.not_lt, Int.not_le] at c1
    refine zal ?_
    refine zae ?_
    refine zam ?_
    refine zae ?_
    refine zad ?_
    refine zab rfl rfl rfl (zac (.inl rfl) (ev1 rfl)) ?_
    refine zab rfl rfl rfl (zac (.inr rfl) (ev1 rfl)) ?_
    refine zaf ?_
    refine zae ?_
    refine dwp_draw [([0], []), ([], []), ([], []), ([], []), ([], []), ([], [])] mixed (by kernel_rfl) ?_
    refine zag rfl rfl (op_ldw rfl tb35 (ev1 rfl) rfl rfl) ?_
    refine zag rfl rfl (zac (.inl rfl) (ev1 rfl)) ?_
    refine zag rfl rfl (zac (.inl rfl) (ev1 rfl)) ?_
    refine zag rfl rfl (op_ixsr (j := k) rfl sl22 (ev1 rfl) (ev1 rfl) (fun _ => rfl) (by decide) (by omega) (by omega)) ?_
    refine zag rfl rfl (op_ldwd rfl tb35 (ev1 rfl) rfl) ?_
    refine zag rfl rfl (op_eqr eq35 rfl gd35 tb35 (ev1 rfl) (ev1 rfl)) ?_
    refine lex_nil ?_
    refine dwp_cond rfl (fun c2 => ?_) (fun c2 => ?_)
    · have c3 : i = l[k] := by simpa using c2
      refine zae ?_
      refine zad ?_
      refine zab rfl rfl rfl (zac (.inl rfl) (ev1 rfl)) ?_
      refine zab rfl rfl rfl (zac (.inr rfl) (ev1 rfl)) ?_
      refine zaf ?_
      refine dwp_ret ?_
      refine kend0 (rs1 rfl (rv_t rfl)) rfl ?_
      rw [idxI_at (by omega) hno c3]
    · have c3 : i ≠ l[k] := by simpa using c2
      refine zal ?_
      refine zad ?_
      refine zab rfl rfl rfl (op_add' rfl (ev1 rfl) (ev1 rfl) (fun _ => IntWalk.i64_in _ (by omega))) ?_
      refine zab rfl rfl rfl (zac (.inl rfl) (ev1 rfl)) ?_
      refine zaf ?_
      refine ⟨k + 1, [0], ⟨by omega, take_no (by omega) hno c3⟩, by simp only []; omega, rfl, ⟨rfl, rfl, rfl, rfl, trivial⟩, ⟨rfl, trivial⟩⟩
  · try simp only [decide_eq_true_eq, decide_eq_false_iff_not, beq_iff_eq, bne_iff_ne, beq_eq_false_iff_ne, bne_eq_false_iff_eq, Bool.not_eq_true', Bool.not_eq_false', Bool.and_eq_true, Bool.or_eq_true, Bool.or_eq_false_iff, ne_eq, Decidable.not_not, Int.not_lt, Int.not_le] at c1
    refine dwp_exit ?_
    refine zae ?_
    refine zad ?_
    refine zab rfl rfl rfl (zac (.inr rfl) (ev1 rfl)) ?_
    refine zaf ?_
    refine dwp_ret ?_
    refine kend0 (rs1 rfl (rv_t rfl)) rfl ?_
    rw [List.take_of_length_le (by omega)] at hno
    rw [idxI_no hno]
end Go.Proofs.Ytmpodnadoebclaa
namespace Go.Proofs.Ytmpodnadoebclaa
set_option maxRecDepth 4000
set_option linter.unusedVariables false
set_option linter.unusedSimpArgs false
open Go.RowKit
attribute [local irreducible] rowM
def qB (n : Nat) (last : I3) (i : I3) : Bool := decide (n = 0) || lessR last i
theorem cut_at {l : List I3} (h : okI l) (n : Nat) (last : I3) : ∃ p, p ≤ l.length ∧ (∀ k, k < p → qB n last (l.getD k zI3) = false) ∧ ∀ k, p ≤ k → k < l.length → qB n last (l.getD k zI3) = true := by
  have mono : ∀ a b, a < b → b < l.length → qB n last (l.getD a zI3) = true → qB n last (l.getD b zI3) = true := fun a b hab hb ha => by
    unfold qB at ha ⊢
    rw [Bool.or_eq_true] at ha ⊢
    exact ha.imp id fun g => less_tr g (h.2 a b hab hb)
  have key : ∀ m, m ≤ l.length → ∃ p, p ≤ m ∧ (∀ k, k < p → qB n last (l.getD k zI3) = false) ∧ ∀ k, p ≤ k → k < m → qB n last (l.getD k zI3) = true := fun m => by
    induction m with
    | zero => exact fun _ => ⟨0, Nat.le_refl _, fun k hk => absurd hk (by omega), fun k _ hk => absurd hk (by omega)⟩
    | succ m ih =>
      intro hm
      obtain ⟨p, h1, h2, h3⟩ := ih (by omega)
      cases hq : qB n last (l.getD m zI3) with
      | true =>
        refine ⟨p, by omega, h2, fun k hk hk2 => ?_⟩
        by_cases e : k = m
        · subst e; exact hq
        · exact h3 k hk (by omega)
      | false =>
        refine ⟨m + 1, Nat.le_refl _, fun k hk => ?_, fun k hk hk2 => absurd hk2 (by omega)⟩
        by_cases e : k = m
        · subst e; exact hq
        · cases hk2 : qB n last (l.getD k zI3) with
          | false => rfl
          | true => rw [mono k m (by omega) (by omega) hk2] at hq; cases hq
  obtain ⟨p, h1, h2, h3⟩ := key l.length (Nat.le_refl _)
  exact ⟨p, h1, h2, h3⟩
theorem filt_cut {α : Type} {q : α → Bool} {l : List α} {a0 : α} {p : Nat} (hp : p ≤ l.length) (h1 : ∀ k, k < p → q (l.getD k a0) = false) (h2 : ∀ k, p ≤ k → k < l.length → q (l.getD k a0) = true) : l.filter q = l.drop p := by
  have e : l = l.take p ++ l.drop p := (List.take_append_drop p l).symm
  have g : ∀ {k : Nat} (h : k < l.length), l.getD k a0 = l[k] := fun h => by rw [List.getD_eq_getElem?_getD, List.getElem?_eq_getElem h]; rfl
  have e1 : (l.take p).filter q = [] := List.filter_eq_nil_iff.2 fun x hx => by
    obtain ⟨k, hk, rfl⟩ := List.mem_take_iff_getElem.1 hx
    have := h1 k (by omega)
    rw [g (by omega)] at this
    rw [this]; decide
  have e2 : (l.drop p).filter q = l.drop p := List.filter_eq_self.2 fun x hx => by
    obtain ⟨k, hk, rfl⟩ := List.mem_drop_iff_getElem.1 hx
    have := h2 (k + p) (by omega) (by omega)
    rw [g (by omega)] at this
    rw [show l[p + k]'(by omega) = l[k + p]'(by omega) by congr 1; omega]
    exact this
  conv => lhs; rw [e]
  rw [List.filter_append, e1, e2, List.nil_append]
def atF (n : Nat) (last : I3) (l : List I3) : Nat → Int
  | 0 => -1
  | k + 1 => if qB n last (l.getD k zI3) = true then atF n last l k else (k : Int)
theorem atF_le (n : Nat) (last : I3) (l : List I3) : ∀ k, -1 ≤ atF n last l k ∧ atF n last l k < k
  | 0 => ⟨Int.le_refl _, show (-1 : Int) < 0 by decide⟩
  | k + 1 => by
    have := atF_le n last l k
    unfold atF
    split <;> omega
theorem atF_cut {n : Nat} {last : I3} {l : List I3} {p : Nat} (hp : p ≤ l.length) (h1 : ∀ k, k < p → qB n last (l.getD k zI3) = false) (h2 : ∀ k, p ≤ k → k < l.length → qB n last (l.getD k zI3) = true) : atF n last l l.length = (p : Int) - 1 := by
  have key : ∀ k, k ≤ l.length → atF n last l k = (min k p : Nat) - 1 := fun k => by
    induction k with
    | zero => intro _; simp [atF]
    | succ k ih =>
      intro hk
      unfold atF
      by_cases e : k < p
      · rw [if_neg (by rw [h1 k e]; decide)]
        omega
      · rw [if_pos (h2 k (by omega) (by omega)), ih (by omega)]
        omega
  rw [key _ (Nat.le_refl _), Nat.min_eq_right hp]
theorem dueT_spec {e : Nat} (he : 1 ≤ e) (l : List I3) : ∀ k, (dueT (e : Int) l k).length = k / e ∧ ∀ t, t < k / e → (dueT (e : Int) l k).getD t zI3 = l.getD ((t + 1) * e - 1) zI3
  | 0 => ⟨by simp [dueT], fun t ht => by simp at ht⟩
  | k + 1 => by
    obtain ⟨h1, h2⟩ := dueT_spec he l k
    have hm : (((k : Int) + 1) % (e : Int) = 0) ↔ (k + 1) % e = 0 := by
      rw [show ((k : Int) + 1) % (e : Int) = (((k + 1) % e : Nat) : Int) from (Int.natCast_emod (k + 1) e).symm]
      omega
    unfold dueT
    by_cases g : (k + 1) % e = 0
    · rw [if_pos (hm.2 g)]
      have hd : (k + 1) / e = k / e + 1 := by
        obtain ⟨c, hc⟩ := Nat.dvd_of_mod_eq_zero g
        have hc0 : 0 < c := by
          rcases Nat.eq_zero_or_pos c with h0 | h0
          · subst h0; omega
          · exact h0
        have hk : k = e * (c - 1) + (e - 1) := by
          obtain ⟨c', rfl⟩ : ∃ c', c = c' + 1 := ⟨c - 1, by omega⟩
          rw [Nat.mul_succ] at hc
          rw [Nat.add_sub_cancel]; omega
        rw [hc, Nat.mul_div_cancel_left _ (by omega), hk, Nat.mul_add_div (by omega), Nat.div_eq_of_lt (by omega)]
        omega
      refine ⟨by rw [List.length_append, h1, hd]; rfl, fun t ht => ?_⟩
      rw [hd] at ht
      by_cases e1 : t < k / e
      · rw [← h2 t e1, List.getD_eq_getElem?_getD, List.getElem?_append_left (by omega), ← List.getD_eq_getElem?_getD]
      · have e2 : t = k / e := by omega
        rw [List.getD_eq_getElem?_getD, List.getElem?_append_right (by omega), h1, e2, Nat.sub_self]
        have e3 : (k / e + 1) * e - 1 = k := by
          rw [← hd, Nat.div_mul_cancel (Nat.dvd_of_mod_eq_zero g)]
          omega
        rw [e3]
        rfl
    · rw [if_neg (fun x => g (hm.1 x)), List.append_nil]
      have hd : (k + 1) / e = k / e := by
        have a1 := Nat.div_add_mod k e
        have a2 := Nat.div_add_mod (k + 1) e
        have a3 := Nat.mod_lt k (show 0 < e by omega)
        have a4 := Nat.mod_lt (k + 1) (show 0 < e by omega)
        rw [Nat.succ_div]
        rw [if_neg (fun x => g (Nat.mod_eq_zero_of_dvd x))]
        rfl
      rw [hd]
      exact ⟨h1, h2⟩
theorem okI.idx {l : List I3} (h : okI l) {k : Nat} (hk : k < l.length) : idxI l (l.getD k zI3) = k := by
  refine idxI_at hk ?_ (gI hk)
  intro hm
  obtain ⟨j, hj, e⟩ := List.mem_take_iff_getElem.1 hm
  have h1 := h.2 j k (by omega) hk
  rw [gI (by omega), e, less_irr] at h1
  cases h1
theorem behI_q (m : List Mk) (l : List I3) : behI m l = l.filter fun i => qB m.length (m.getD (m.length - 1) zMk).i i := by
  unfold behI qB
  split
  · rename_i h
    rw [h]
    exact (List.filter_eq_self.2 fun a _ => rfl).symm
  · rename_i h
    rw [decide_eq_false h]
    rfl
theorem due_parts {m : List Mk} {l : List I3} {eN : Nat} (he : 1 ≤ eN) (hd : dueB m l eN = true) : chkM m = true ∧ risL l = true ∧ l.all mayR = true ∧ okI l ∧ ∃ p, p ≤ l.length ∧ atF m.length (m.getD (m.length - 1) zMk).i l l.length = (p : Int) - 1 ∧ (dueM m l eN).length = (l.length - p) / eN ∧ (∀ t, t < (l.length - p) / eN → (dueM m l eN).getD t zI3 = l.getD (p + (t + 1) * eN - 1) zI3 ∧ (t + 1) * eN ≤ l.length - p) ∧ ∀ k, p ≤ k → k < l.length → qB m.length (m.getD (m.length - 1) zMk).i (l.getD k zI3) = true := by
  have hd2 := hd
  unfold dueB at hd2
  rw [Bool.and_eq_true, Bool.and_eq_true, Bool.and_eq_true] at hd2
  obtain ⟨⟨⟨h1, _⟩, h2⟩, h3⟩ := hd2
  have hok := (ris_ok h3).1 h2
  obtain ⟨p, hp, c1, c2⟩ := cut_at hok m.length (m.getD (m.length - 1) zMk).i
  have hb : behI m l = l.drop p := (behI_q m l).trans (filt_cut hp c1 c2)
  have hdm : dueM m l eN = dueL eN (l.drop p) := by unfold dueM; rw [if_pos hd, hb]
  obtain ⟨s1, s2⟩ := dueT_spec he (l.drop p) (l.drop p).length
  rw [List.length_drop] at s1 s2
  refine ⟨h1, h2, h3, hok, p, hp, atF_cut hp c1 c2, by rw [hdm]; unfold dueL; rw [List.length_drop]; exact s1, fun t ht => ?_, c2⟩
  have hle : (t + 1) * eN ≤ l.length - p := by
    have a1 := Nat.mul_le_mul_right eN (show t + 1 ≤ (l.length - p) / eN by omega)
    exact Nat.le_trans a1 (Nat.div_mul_le_self _ _)
  refine ⟨?_, hle⟩
  rw [hdm]
  unfold dueL
  rw [List.length_drop, s2 t ht]
  have h0 : 1 ≤ (t + 1) * eN := Nat.mul_pos (Nat.succ_pos t) he
  rw [List.getD_eq_getElem?_getD, List.getElem?_drop, ← List.getD_eq_getElem?_getD]
  congr 1
  omega
set_option maxRecDepth 4000 in
set_option maxHeartbeats 1000000 in
theorem ldue_d (x y : List I3) (n : Int) : DFun Try.prog 7 [.slf 3 x.length (x.flatMap idc), .slf 3 y.length (y.flatMap idc), .val (.int .i64 n)] [] (.val (.bool true)) [] := by
  refine zao (N := 122) 0 (by kernel_rfl) Try.func7 rfl rfl rfl (by simp only [fr0, Nat.zero_add, Nat.reduceAdd]; exact rfl) rfl fun s0 hs0 => ?_
  refine dwp_len (t := 0) rfl fun hl0 hL0 => ?_
  refine dwp_len (t := 1) rfl fun hl1 hL1 => ?_
  refine zae ?_
  refine zad ?_
  refine zab rfl rfl rfl (zac (.inr rfl) (ev1 rfl)) ?_
  refine zaf ?_
  refine zae ?_
  refine zae ?_
  refine zad ?_
  refine zab rfl rfl rfl (zah [] [] [] rfl (ev1 rfl) en rfl rfl (wakes_d) rfl rfl rfl rfl rfl rfl) ?_
  refine zab rfl rfl rfl (op_not rfl (ev1 rfl)) ?_
  refine zaf ?_
  refine dwp_if_f rfl (rfl) ?_
  refine zal ?_
  refine zae ?_
  refine zad ?_
  refine zab rfl rfl rfl (zac (.inl rfl) (ev1 rfl)) ?_
  refine zab rfl rfl rfl (zah [] [] [] rfl (ev1 rfl) (ec (ev1 rfl) (ec (ev1 rfl) en)) rfl rfl (few_d x 6 (by decide)) rfl rfl rfl rfl rfl rfl) ?_
  refine zab rfl rfl rfl (zah [] [] [] rfl (ev1 rfl) (ec (ev1 rfl) (ec (ev1 rfl) en)) rfl rfl (row_d (x.take 6) 0 (by rw [List.length_take]; omega) (by decide)) rfl rfl rfl rfl rfl rfl) ?_
  refine zab rfl rfl rfl (zac (.inl rfl) (ev1 rfl)) ?_
  refine zab rfl rfl rfl (zah [] [] [] rfl (ev1 rfl) (ec (ev1 rfl) (ec (ev1 rfl) en)) rfl rfl (few_d y 60 (by decide)) rfl rfl rfl rfl rfl rfl) ?_
  refine zab rfl rfl rfl (zac (.inr rfl) (ev1 rfl)) ?_
  refine zab rfl rfl rfl (zac (.inr rfl) (ev1 rfl)) ?_
  refine zaf ?_
  refine zae ?_
  have h6 : (x.take 6).length ≤ 6 := by rw [List.length_take]; omega
  have h60 : (y.take 60).length ≤ 60 := by rw [List.length_take]; omega
  generalize x.take 6 = ids at h6 ⊢
  generalize y.take 60 = l at h60 ⊢
  rw [← rowM_len ids 0] at h6
  generalize rowM ids 0 = m at h6 ⊢
  have hwr : 0 ≤ IntKind.u64.wrap n := by rw [IntKind.wrap_u64]; omega
  refine zad ?_
  refine zab rfl rfl rfl (zac (.inl rfl) (ev1 rfl)) ?_
  refine zab rfl rfl rfl (op_conv ty3 kn65 rfl (ev1 rfl)) ?_
  refine zab rfl rfl rfl (op_rem' rfl (ev1 rfl) (ev1 rfl) (fun _ => ⟨by omega, by omega⟩)) ?_
  refine zab rfl rfl rfl (op_conv' ty65 kn3 rfl (ev1 rfl) (fun _ => IntWalk.i64_in _ (by omega))) ?_
  refine zab rfl rfl rfl (op_add' rfl (ev1 rfl) (ev1 rfl) (fun _ => IntWalk.i64_in _ (by omega))) ?_
  refine zab rfl rfl rfl (zac (.inr rfl) (ev1 rfl)) ?_
  refine zaf ?_
  refine zae ?_
  obtain ⟨eN, hen, he1⟩ : ∃ eN : Nat, 1 + IntKind.u64.wrap n % 7 = (eN : Int) ∧ 1 ≤ eN ∧ eN ≤ 7 := ⟨(1 + IntKind.u64.wrap n % 7).toNat, by omega, by omega⟩
  rw [hen]
  refine zad ?_
  refine zab rfl rfl rfl (zac (.inl rfl) (ev1 rfl)) ?_
  refine zab rfl rfl rfl (zac (.inl rfl) (ev1 rfl)) ?_
  refine zab rfl rfl rfl (zac (.inl rfl) (ev1 rfl)) ?_
  refine zab rfl rfl rfl (zah [] [] [] rfl (ev1 rfl) (ec (ev1 rfl) (ec (ev1 rfl) (ec (ev1 rfl) en))) rfl rfl (due_d m l eN (by omega) (by omega)) rfl rfl rfl rfl rfl rfl) ?_
  refine zab rfl rfl rfl (zac (.inr rfl) (ev1 rfl)) ?_
  refine zaf ?_
  refine zae ?_
  refine zad ?_
  refine zab rfl rfl rfl (zac (.inr rfl) (ev1 rfl)) ?_
  refine zaf ?_
  refine zae ?_
  refine zae ?_
  refine zad ?_
  refine zab rfl rfl rfl (zac (.inl rfl) (ev1 rfl)) ?_
  refine zab rfl rfl rfl (op_len rfl sl22 (ev1 rfl)) ?_
  refine zab rfl rfl rfl (zac (.inl rfl) (ev1 rfl)) ?_
  refine zaf ?_
  refine zam ?_
  refine dwp_loopS ⟨hs0, rfl⟩ (α := Nat) (fun k => [(10, .val (.int .i64 (atF m.length (m.getD (m.length - 1) zMk).i l k))), (36, .val (.int .i64 (k : Int)))]) [(2, _), (7, _), (8, _), (9, _), (34, _), (35, _)] (fun k => []) [] (fun k => k ≤ l.length) (fun k => l.length - k) 0 [] (Nat.zero_le _) rfl ⟨rfl, rfl, rfl, rfl, rfl, rfl, trivial⟩ ⟨rfl, rfl, trivial⟩ trivial ?_
  intro k hx
  simp only [upd, za, zaa, List.cons_append, List.nil_append]
  have hk := hx
  refine zae ?_
  refine zad ?_
  refine zab rfl rfl rfl (op_lss rfl (ev1 rfl) (ev1 rfl)) ?_
  refine zaf ?_
  refine zae ?_
  refine dwp_cond rfl (fun c2 => ?_) (fun c2 => ?_)
  · try simp only [decide_eq_true_eq, decide_eq_false_iff_not, beq_iff_eq, bne_iff_ne, beq_eq_false_iff_ne, bne_eq_false_iff_eq, Bool.not_eq_true', Bool.not_eq_false', Bool.and_eq_true, Bool.or_eq_true, Bool.or_eq_false_iff, ne_eq, Decidable.not_not, Int.not_lt, Int.not_le] at c2
    refine zal ?_
    refine zae ?_
    refine zam ?_
    refine zae ?_
    refine zak 1 (by simp only [holes, List.cons_append, List.nil_append]; exact rfl) ?_
    refine zad ?_
    refine zab rfl rfl rfl (zac (.inl rfl) (ev1 rfl)) ?_
    refine zab rfl rfl rfl (op_ixsr (j := k) rfl sl22 (ev1 rfl) (ev1 rfl) (fun _ => rfl) (by decide) (by omega) (by omega)) ?_
    refine zab rfl rfl rfl (op_ldwd rfl tb35 (ev1 rfl) rfl) ?_
    refine zan rfl rfl rfl (op_alloc 0 rfl zr35 rfl) (by simp only [upd, za, zaa]; exact rfl) ?_
    refine zab rfl rfl rfl (zac (.inr rfl) (ev1 rfl)) ?_
    refine walk_s rfl rfl (op_stwa rfl tb35 (ev1 rfl) (ev1 rfl) rfl rfl rfl rfl) (by simp only [upd, za, zaa]; exact rfl) ?_
    refine zaf ?_
    refine zae ?_
    have hkl : k < l.length := by omega
    have e0 : decide (0 < (m.length : Int)) = !decide (m.length = 0) := by
      rw [Bool.eq_iff_iff, Bool.not_eq_true', decide_eq_true_eq, decide_eq_false_iff_not]
      omega
    refine dwp_draw [([], []), ([], []), ([], []), ([], []), ([], []), ([], []), ([], []), ([], []), ([], []), ([], []), ([], []), ([0], []), ([], []), ([], []), ([], [])] mixed (by kernel_rfl) ?_
    refine zag rfl rfl (zac (.inl rfl) (ev1 rfl)) ?_
    refine zag rfl rfl (op_lenm rfl sl26 (ev1 rfl)) ?_
    refine zag rfl rfl (op_gtr rfl (ev1 rfl) (ev1 rfl)) ?_
    refine zag rfl rfl (zac (.inl rfl) (ev1 rfl)) ?_
    refine zai (gd_t rfl rfl rfl) rfl rfl (zac (.inl rfl) (ev1 rfl)) ?_
    refine zai (gd_t rfl rfl rfl) rfl rfl (zac (.inl rfl) (ev1 rfl)) ?_
    refine zai (gd_t rfl rfl rfl) rfl rfl (op_lenm rfl sl26 (ev2 rfl)) ?_
    refine zai (gd_t rfl rfl rfl) rfl rfl (op_sub' rfl (ev2 rfl) (ev1 rfl) (fun hp => IntWalk.i64_in _ (by first | omega | (simp at hp; omega)))) ?_
    refine zai (gd_t rfl rfl rfl) rfl rfl (op_ixmg (m.length - 1) (zMk) (by decide) rfl sl26 (ev2 rfl) (ev2 rfl) (fun hp => by first | omega | (simp at hp; omega)) (fun hp => by first | omega | (simp at hp; omega)) (fun _ => rfl)) ?_
    refine zai (gd_t rfl rfl rfl) rfl rfl (op_fadm rfl fo44_0 (ev2 rfl)) ?_
    refine zai (gd_t rfl rfl rfl) rfl rfl (op_lddv [_, _, _] rfl tb35 (ev2 rfl) rfl rfl) ?_
    refine zai (gd_t rfl rfl rfl) rfl rfl (op_ldw rfl tb35 (ev1 rfl) rfl rfl) ?_
    refine zai (gd_t rfl rfl rfl) rfl rfl (zah [] [] [] rfl (ev1 rfl) (ec (ev2 rfl) (ec (ev2 rfl) en)) rfl rfl (idLess_d _ _) rfl rfl rfl rfl rfl rfl) ?_
    refine zai (gd_t rfl rfl rfl) rfl rfl (op_not rfl (ev2 rfl)) ?_
    refine zag rfl rfl (op_and rfl (ev1 rfl) (ev3 rfl id)) ?_
    refine lex_nil ?_
    refine dwp_cond rfl (fun c2 => ?_) (fun c2 => ?_)
    · have c3 : qB m.length (m.getD (m.length - 1) zMk).i l[k] = false := by
        unfold qB
        rw [e0] at c2
        cases g1 : decide (m.length = 0) <;> cases g2 : lessR (m.getD (m.length - 1) zMk).i l[k] <;> simp_all
      refine zad ?_
      refine zab rfl rfl rfl (zac (.inl rfl) (ev1 rfl)) ?_
      refine zab rfl rfl rfl (zac (.inr rfl) (ev1 rfl)) ?_
      refine zaf ?_
      refine zad ?_
      refine zab rfl rfl rfl (op_add' rfl (ev1 rfl) (ev1 rfl) (fun _ => IntWalk.i64_in _ (by omega))) ?_
      refine zab rfl rfl rfl (zac (.inl rfl) (ev1 rfl)) ?_
      refine zaf ?_
      refine ⟨k + 1, [], by omega, by simp only []; omega, rfl, ⟨by rw [atF, gI (by omega), if_neg (by rw [c3]; decide)]; rfl, rfl, rfl, rfl, rfl, rfl, rfl, rfl, trivial⟩, trivial⟩
    · have c3 : qB m.length (m.getD (m.length - 1) zMk).i l[k] = true := by
        unfold qB
        rw [e0] at c2
        cases g1 : decide (m.length = 0) <;> cases g2 : lessR (m.getD (m.length - 1) zMk).i l[k] <;> simp_all
      refine zal ?_
      refine zad ?_
      refine zab rfl rfl rfl (op_add' rfl (ev1 rfl) (ev1 rfl) (fun _ => IntWalk.i64_in _ (by omega))) ?_
      refine zab rfl rfl rfl (zac (.inl rfl) (ev1 rfl)) ?_
      refine zaf ?_
      refine ⟨k + 1, [], by omega, by simp only []; omega, rfl, ⟨by rw [atF, gI (by omega), if_pos c3]; rfl, rfl, rfl, rfl, rfl, rfl, rfl, rfl, trivial⟩, trivial⟩
  · try simp only [decide_eq_true_eq, decide_eq_false_iff_not, beq_iff_eq, bne_iff_ne, beq_eq_false_iff_ne, bne_eq_false_iff_eq, Bool.not_eq_true', Bool.not_eq_false', Bool.and_eq_true, Bool.or_eq_true, Bool.or_eq_false_iff, ne_eq, Decidable.not_not, Int.not_lt, Int.not_le] at c2
    refine dwp_exit ?_
    refine zae ?_
    refine zae ?_
    by_cases hd : dueB m l eN = true
    · obtain ⟨d1, d2, d3, d4, p, d5, d6, d7, d8, d9⟩ := due_parts he1.1 hd
      have hkl2 : k = l.length := by omega
      subst hkl2
      rw [d6]
      refine zad ?_
      refine zab rfl rfl rfl (zac (.inl rfl) (ev1 rfl)) ?_
      refine zab rfl rfl rfl (op_len rfl sl22 (ev1 rfl)) ?_
      refine zab rfl rfl rfl (zac (.inl rfl) (ev1 rfl)) ?_
      refine zaf ?_
      refine zam ?_
      refine dwp_loopS ⟨hs0, rfl⟩ (α := Nat) (fun t => [(10, .val (.int .i64 ((p + t * eN : Nat) - 1 : Int))), (60, .val (.int .i64 (t : Int)))]) [(2, _), (7, _), (8, _), (9, _), (58, _), (59, _)] (fun t => []) [] (fun t => t ≤ (dueM m l eN).length) (fun t => (dueM m l eN).length - t) 0 [] (Nat.zero_le _) rfl ⟨rfl, rfl, rfl, rfl, rfl, rfl, trivial⟩ ⟨by rw [Nat.zero_mul]; rfl, rfl, trivial⟩ trivial ?_
      intro t hx
      simp only [upd, za, zaa, List.cons_append, List.nil_append]
      have ht := hx
      have htb := Nat.div_le_self (l.length - p) eN
      refine zae ?_
      refine zad ?_
      refine zab rfl rfl rfl (op_lss rfl (ev1 rfl) (ev1 rfl)) ?_
      refine zaf ?_
      refine zae ?_
      refine dwp_cond rfl (fun c4 => ?_) (fun c4 => ?_)
      · try simp only [decide_eq_true_eq, decide_eq_false_iff_not, beq_iff_eq, bne_iff_ne, beq_eq_false_iff_ne, bne_eq_false_iff_eq, Bool.not_eq_true', Bool.not_eq_false', Bool.and_eq_true, Bool.or_eq_true, Bool.or_eq_false_iff, ne_eq, Decidable.not_not, Int.not_lt, Int.not_le] at c4
        refine zal ?_
        refine zae ?_
        refine zam ?_
        refine zae ?_
        refine zak 1 (by simp only [holes, List.cons_append, List.nil_append]; exact rfl) ?_
        refine zad ?_
        refine zab rfl rfl rfl (op_ixsr (j := t) rfl sl22 (ev1 rfl) (ev1 rfl) (fun _ => rfl) (by decide) (by omega) (by omega)) ?_
        refine zab rfl rfl rfl (op_ldwd rfl tb35 (ev1 rfl) rfl) ?_
        refine zan rfl rfl rfl (op_alloc 0 rfl zr35 rfl) (by simp only [upd, za, zaa]; exact rfl) ?_
        refine walk_s rfl rfl (op_stwa rfl tb35 (ev1 rfl) (ev1 rfl) rfl rfl rfl rfl) (by simp only [upd, za, zaa]; exact rfl) ?_
        refine zaf ?_
        refine zae ?_
        have htl : t < (dueM m l eN).length := by omega
        obtain ⟨e1, e2⟩ := d8 t (by omega)
        have hsm : (t + 1) * eN = t * eN + eN := Nat.succ_mul t eN
        have hjl : p + (t + 1) * eN - 1 < l.length := by omega
        have e3 : (dueM m l eN)[t] = l.getD (p + (t + 1) * eN - 1) zI3 := by rw [← e1, gI htl]
        have hix : idxI l (dueM m l eN)[t] = ((p + (t * eN + eN) : Nat) : Int) - 1 := by rw [e3, d4.idx hjl]; omega
        have hq := d9 (p + (t + 1) * eN - 1) (by omega) hjl
        rw [← e3] at hq
        refine zad ?_
        refine zab rfl rfl rfl (zac (.inl rfl) (ev1 rfl)) ?_
        refine zab rfl rfl rfl (op_ldw rfl tb35 (ev1 rfl) rfl rfl) ?_
        refine zab rfl rfl rfl (zah [] [] [] rfl (ev1 rfl) (ec (ev1 rfl) (ec (ev1 rfl) en)) rfl rfl (index_d l (dueM m l eN)[t]) rfl rfl rfl rfl rfl rfl) ?_
        refine zab rfl rfl rfl (zac (.inr rfl) (ev1 rfl)) ?_
        refine zaf ?_
        refine zae ?_
        refine zae ?_
        have hqq : (decide (0 < (m.length : Int)) && !lessR (m.getD (m.length - 1) zMk).i (dueM m l eN)[t]) = false := by
          unfold qB at hq
          rw [Bool.or_eq_true] at hq
          rcases hq with hq | hq
          · rw [decide_eq_false (by have := of_decide_eq_true hq; omega)]; rfl
          · rw [hq]; simp
        refine dwp_draw [([], []), ([], []), ([], []), ([], []), ([], []), ([], []), ([], []), ([], []), ([], []), ([], []), ([], []), ([], []), ([], []), ([], []), ([], []), ([], []), ([], []), ([0], []), ([], []), ([], []), ([], []), ([], [])] mixed (by kernel_rfl) ?_
        refine zag rfl rfl (zac (.inl rfl) (ev1 rfl)) ?_
        refine zag rfl rfl (zac (.inl rfl) (ev1 rfl)) ?_
        refine zag rfl rfl (zac (.inl rfl) (ev1 rfl)) ?_
        refine zag rfl rfl (op_add' rfl (ev1 rfl) (ev1 rfl) (fun _ => IntWalk.i64_in _ (by omega))) ?_
        refine zag rfl rfl (op_neq rfl (ev1 rfl) (ev1 rfl)) ?_
        refine zag rfl rfl (zac (.inl rfl) (ev1 rfl)) ?_
        refine zai (gd_f rfl rfl rfl) rfl rfl (zac (.inl rfl) (ev1 rfl)) ?_
        refine zai (gd_f rfl rfl rfl) rfl rfl (op_lenm rfl sl26 (ev2 rfl)) ?_
        refine zai (gd_f rfl rfl rfl) rfl rfl (op_gtr rfl (ev2 rfl) (ev1 rfl)) ?_
        refine zai (gd_f rfl rfl rfl) rfl rfl (zac (.inl rfl) (ev2 rfl)) ?_
        refine zai (gd_tt rfl rfl rfl) rfl rfl (zac (.inl rfl) (ev1 rfl)) ?_
        refine zai (gd_tt rfl rfl rfl) rfl rfl (zac (.inl rfl) (ev1 rfl)) ?_
        refine zai (gd_tt rfl rfl rfl) rfl rfl (op_lenm rfl sl26 (ev2 rfl)) ?_
        refine zai (gd_tt rfl rfl rfl) rfl rfl (op_sub' rfl (ev2 rfl) (ev1 rfl) (fun hp => IntWalk.i64_in _ (by first | omega | (simp at hp; omega)))) ?_
        refine zai (gd_tt rfl rfl rfl) rfl rfl (op_ixmg (m.length - 1) (zMk) (by decide) rfl sl26 (ev2 rfl) (ev2 rfl) (fun hp => by first | omega | (simp at hp; omega)) (fun hp => by first | omega | (simp at hp; omega)) (fun _ => rfl)) ?_
        refine zai (gd_tt rfl rfl rfl) rfl rfl (op_fadm rfl fo44_0 (ev2 rfl)) ?_
        refine zai (gd_tt rfl rfl rfl) rfl rfl (op_lddv [_, _, _] rfl tb35 (ev2 rfl) rfl rfl) ?_
        refine zai (gd_tt rfl rfl rfl) rfl rfl (op_ldw rfl tb35 (ev1 rfl) rfl rfl) ?_
        refine zai (gd_tt rfl rfl rfl) rfl rfl (zah [] [] [] rfl (ev1 rfl) (ec (ev2 rfl) (ec (ev2 rfl) en)) rfl rfl (idLess_d _ _) rfl rfl rfl rfl rfl rfl) ?_
        refine zai (gd_tt rfl rfl rfl) rfl rfl (op_not rfl (ev2 rfl)) ?_
        refine zai (gd_f rfl rfl rfl) rfl rfl (op_and rfl (ev2 rfl) (ev2 rfl)) ?_
        refine zag rfl rfl (op_or rfl (ev1 rfl) (ev3 rfl id)) ?_
        refine lex_nil ?_
        refine dwp_if_f rfl (by rw [hqq, hix]; simp; omega) ?_
        refine zal ?_
        refine zad ?_
        refine zab rfl rfl rfl (zac (.inl rfl) (ev1 rfl)) ?_
        refine zab rfl rfl rfl (zac (.inr rfl) (ev1 rfl)) ?_
        refine zaf ?_
        refine zad ?_
        refine zab rfl rfl rfl (op_add' rfl (ev1 rfl) (ev1 rfl) (fun _ => IntWalk.i64_in _ (by omega))) ?_
        refine zab rfl rfl rfl (zac (.inl rfl) (ev1 rfl)) ?_
        refine zaf ?_
        refine ⟨t + 1, [], by omega, by simp only []; omega, rfl, ⟨by rw [hix, hsm]; rfl, rfl, rfl, rfl, rfl, rfl, rfl, rfl, trivial⟩, trivial⟩
      · try simp only [decide_eq_true_eq, decide_eq_false_iff_not, beq_iff_eq, bne_iff_ne, beq_eq_false_iff_ne, bne_eq_false_iff_eq, Bool.not_eq_true', Bool.not_eq_false', Bool.and_eq_true, Bool.or_eq_true, Bool.or_eq_false_iff, ne_eq, Decidable.not_not, Int.not_lt, Int.not_le] at c4
        refine dwp_exit ?_
        refine zae ?_
        refine zae ?_
        refine zad ?_
        refine zab rfl rfl rfl (zac (.inl rfl) (ev1 rfl)) ?_
        refine zab rfl rfl rfl (zah [] [] [] rfl (ev1 rfl) (ec (ev1 rfl) en) rfl rfl (mcheck_d _ (by omega)) rfl rfl rfl rfl rfl rfl) ?_
        refine zab rfl rfl rfl (op_neq rfl (ev1 rfl) (ev1 rfl)) ?_
        refine zab rfl rfl rfl (zac (.inl rfl) (ev1 rfl)) ?_
        refine zaj (gd_f rfl rfl rfl) rfl rfl rfl (zac (.inl rfl) (ev1 rfl)) ?_
        refine zaj (gd_f rfl rfl rfl) rfl rfl rfl (zah [] [] [] rfl (ev1 rfl) (ec (ev2 rfl) en) rfl rfl (rising_d l (by omega)) rfl rfl rfl rfl rfl rfl) ?_
        refine zaj (gd_f rfl rfl rfl) rfl rfl rfl (op_not rfl (ev2 rfl)) ?_
        refine zab rfl rfl rfl (op_or rfl (ev1 rfl) (ev3 rfl id)) ?_
        refine zaf ?_
        refine dwp_if_f rfl (by rw [d1, d2]; rfl) ?_
        refine zal ?_
        refine zae ?_
        refine zae ?_
        refine zad ?_
        refine zab rfl rfl rfl (zac (.inl rfl) (ev1 rfl)) ?_
        refine zab rfl rfl rfl (op_len rfl sl22 (ev1 rfl)) ?_
        refine zab rfl rfl rfl (zac (.inl rfl) (ev1 rfl)) ?_
        refine zaf ?_
        refine zam ?_
        refine dwp_loopS ⟨hs0, rfl⟩ (α := Nat) (fun q => [(104, .val (.int .i64 (q : Int)))]) [(2, _), (8, _), (9, _), (10, _), (102, _), (103, _)] (fun q => []) [] (fun q => q ≤ l.length) (fun q => l.length - q) 0 [] (Nat.zero_le _) rfl ⟨rfl, rfl, rfl, rfl, rfl, rfl, trivial⟩ ⟨rfl, trivial⟩ trivial ?_
        intro q hx
        simp only [upd, za, zaa, List.cons_append, List.nil_append]
        have hq := hx
        refine zae ?_
        refine zad ?_
        refine zab rfl rfl rfl (op_lss rfl (ev1 rfl) (ev1 rfl)) ?_
        refine zaf ?_
        refine zae ?_
        refine dwp_cond rfl (fun c7 => ?_) (fun c7 => ?_)
        · try simp only [decide_eq_true_eq, decide_eq_false_iff_not, beq_iff_eq, bne_iff_ne, beq_eq_false_iff_ne, bne_eq_false_iff_eq, Bool.not_eq_true', Bool.not_eq_false', Bool.and_eq_true, Bool.or_eq_true, Bool.or_eq_false_iff, ne_eq, Decidable.not_not, Int.not_lt, Int.not_le] at c7
          refine zal ?_
          refine zae ?_
          refine zam ?_
          refine zae ?_
          refine zak 1 (by simp only [holes, List.cons_append, List.nil_append]; exact rfl) ?_
          refine zad ?_
          refine zab rfl rfl rfl (op_ixsr (j := q) rfl sl22 (ev1 rfl) (ev1 rfl) (fun _ => rfl) (by decide) (by omega) (by omega)) ?_
          refine zab rfl rfl rfl (op_ldwd rfl tb35 (ev1 rfl) rfl) ?_
          refine zan rfl rfl rfl (op_alloc 0 rfl zr35 rfl) (by simp only [upd, za, zaa]; exact rfl) ?_
          refine walk_s rfl rfl (op_stwa rfl tb35 (ev1 rfl) (ev1 rfl) rfl rfl rfl rfl) (by simp only [upd, za, zaa]; exact rfl) ?_
          refine zaf ?_
          refine zae ?_
          refine zad ?_
          refine zab rfl rfl rfl (op_ldw rfl tb35 (ev1 rfl) rfl rfl) ?_
          refine zab rfl rfl rfl (zah [] [] [] rfl (ev1 rfl) (ec (ev1 rfl) en) rfl rfl (idCheck_d _) rfl rfl rfl rfl rfl rfl) ?_
          refine zab rfl rfl rfl (op_neq rfl (ev1 rfl) (ev1 rfl)) ?_
          refine zaf ?_
          refine dwp_if_f rfl (by rw [List.all_eq_true.1 d3 _ (List.getElem_mem (show q < l.length by omega))]; rfl) ?_
          refine zal ?_
          refine zad ?_
          refine zab rfl rfl rfl (op_add' rfl (ev1 rfl) (ev1 rfl) (fun _ => IntWalk.i64_in _ (by omega))) ?_
          refine zab rfl rfl rfl (zac (.inl rfl) (ev1 rfl)) ?_
          refine zaf ?_
          refine ⟨q + 1, [], by omega, by simp only []; omega, rfl, ⟨rfl, rfl, rfl, rfl, rfl, rfl, rfl, trivial⟩, trivial⟩
        · try simp only [decide_eq_true_eq, decide_eq_false_iff_not, beq_iff_eq, bne_iff_ne, beq_eq_false_iff_ne, bne_eq_false_iff_eq, Bool.not_eq_true', Bool.not_eq_false', Bool.and_eq_true, Bool.or_eq_true, Bool.or_eq_false_iff, ne_eq, Decidable.not_not, Int.not_lt, Int.not_le] at c7
          refine dwp_exit ?_
          refine zae ?_
          refine zad ?_
          refine zab rfl rfl rfl (zac (.inl rfl) (ev1 rfl)) ?_
          refine zab rfl rfl rfl (op_len rfl sl22 (ev1 rfl)) ?_
          refine zab rfl rfl rfl (op_sub' rfl (ev1 rfl) (ev1 rfl) (fun _ => IntWalk.i64_in _ (by omega))) ?_
          refine zab rfl rfl rfl (zac (.inl rfl) (ev1 rfl)) ?_
          refine zab rfl rfl rfl (op_sub' rfl (ev1 rfl) (ev1 rfl) (fun _ => IntWalk.i64_in _ (by have g1 := Nat.div_mul_le_self (l.length - p) eN; have g2 : t = (l.length - p) / eN := (by omega); rw [← g2] at g1; omega))) ?_
          refine zab rfl rfl rfl (zac (.inl rfl) (ev1 rfl)) ?_
          refine zab rfl rfl rfl (op_lss rfl (ev1 rfl) (ev1 rfl)) ?_
          refine zab rfl rfl rfl (zac (.inr rfl) (ev1 rfl)) ?_
          refine zaf ?_
          refine dwp_ret ?_
          refine kend0 (rs1 rfl (rv_t rfl)) rfl ?_
          have ht2 : t = (l.length - p) / eN := by omega
          have a1 := Nat.div_add_mod (l.length - p) eN
          have a2 := Nat.mod_lt (l.length - p) (show 0 < eN by omega)
          rw [Nat.mul_comm, ← ht2] at a1
          rw [decide_eq_true (by omega)]
    · have hdm : dueM m l eN = [] := by unfold dueM; rw [if_neg hd]
      rw [hdm]
      refine zad ?_
      refine zab rfl rfl rfl (zac (.inl rfl) (ev1 rfl)) ?_
      refine zab rfl rfl rfl (op_len rfl sl22 (ev1 rfl)) ?_
      refine zab rfl rfl rfl (zac (.inl rfl) (ev1 rfl)) ?_
      refine zaf ?_
      refine zam ?_
      refine dwp_once ?_
      refine zae ?_
      refine zad ?_
      refine zab rfl rfl rfl (op_lss rfl (ev1 rfl) (ev1 rfl)) ?_
      refine zaf ?_
      refine zae ?_
      refine dwp_if_f rfl (by rfl) ?_
      refine dwp_exit ?_
      refine zae ?_
      refine zae ?_
      refine zad ?_
      refine zab rfl rfl rfl (zac (.inl rfl) (ev1 rfl)) ?_
      refine zab rfl rfl rfl (zah [] [] [] rfl (ev1 rfl) (ec (ev1 rfl) en) rfl rfl (mcheck_d _ (by omega)) rfl rfl rfl rfl rfl rfl) ?_
      refine zab rfl rfl rfl (op_neq rfl (ev1 rfl) (ev1 rfl)) ?_
      refine zab rfl rfl rfl (zac (.inl rfl) (ev1 rfl)) ?_
      refine zaj (gd_f rfl rfl rfl) rfl rfl rfl (zac (.inl rfl) (ev1 rfl)) ?_
      refine zaj (gd_f rfl rfl rfl) rfl rfl rfl (zah [] [] [] rfl (ev1 rfl) (ec (ev2 rfl) en) rfl rfl (rising_d l (by omega)) rfl rfl rfl rfl rfl rfl) ?_
      refine zaj (gd_f rfl rfl rfl) rfl rfl rfl (op_not rfl (ev2 rfl)) ?_
      refine zab rfl rfl rfl (op_or rfl (ev1 rfl) (ev3 rfl id)) ?_
      refine zaf ?_
      refine dwp_cond rfl (fun c5 => ?_) (fun c5 => ?_)
      · refine zae ?_
        refine zad ?_
        refine zab rfl rfl rfl (zac (.inl rfl) (ev1 rfl)) ?_
        refine zab rfl rfl rfl (op_len rfl sl22 (ev1 rfl)) ?_
        refine zab rfl rfl rfl (op_eql rfl (ev1 rfl) (ev1 rfl)) ?_
        refine zab rfl rfl rfl (zac (.inr rfl) (ev1 rfl)) ?_
        refine zaf ?_
        refine dwp_ret ?_
        refine kend0 (rs1 rfl (rv_t rfl)) rfl ?_
        rfl
      · refine zal ?_
        refine zae ?_
        refine zae ?_
        refine zad ?_
        refine zab rfl rfl rfl (zac (.inl rfl) (ev1 rfl)) ?_
        refine zab rfl rfl rfl (op_len rfl sl22 (ev1 rfl)) ?_
        refine zab rfl rfl rfl (zac (.inl rfl) (ev1 rfl)) ?_
        refine zaf ?_
        refine zam ?_
        refine dwp_loopS ⟨hs0, rfl⟩ (α := Nat) (fun q => [(104, .val (.int .i64 (q : Int)))]) [(2, _), (8, _), (9, _), (10, _), (102, _), (103, _)] (fun q => []) [] (fun q => q ≤ l.length ∧ (l.take q).all mayR = true) (fun q => l.length - q) 0 [] (⟨Nat.zero_le _, by simp⟩) rfl ⟨rfl, rfl, rfl, rfl, rfl, rfl, trivial⟩ ⟨rfl, trivial⟩ trivial ?_
        intro q hx
        simp only [upd, za, zaa, List.cons_append, List.nil_append]
        obtain ⟨hq, hqa⟩ := hx
        refine zae ?_
        refine zad ?_
        refine zab rfl rfl rfl (op_lss rfl (ev1 rfl) (ev1 rfl)) ?_
        refine zaf ?_
        refine zae ?_
        refine dwp_cond rfl (fun c11 => ?_) (fun c11 => ?_)
        · try simp only [decide_eq_true_eq, decide_eq_false_iff_not, beq_iff_eq, bne_iff_ne, beq_eq_false_iff_ne, bne_eq_false_iff_eq, Bool.not_eq_true', Bool.not_eq_false', Bool.and_eq_true, Bool.or_eq_true, Bool.or_eq_false_iff, ne_eq, Decidable.not_not, Int.not_lt, Int.not_le] at c11
          refine zal ?_
          refine zae ?_
          refine zam ?_
          refine zae ?_
          refine zak 1 (by simp only [holes, List.cons_append, List.nil_append]; exact rfl) ?_
          refine zad ?_
          refine zab rfl rfl rfl (op_ixsr (j := q) rfl sl22 (ev1 rfl) (ev1 rfl) (fun _ => rfl) (by decide) (by omega) (by omega)) ?_
          refine zab rfl rfl rfl (op_ldwd rfl tb35 (ev1 rfl) rfl) ?_
          refine zan rfl rfl rfl (op_alloc 0 rfl zr35 rfl) (by simp only [upd, za, zaa]; exact rfl) ?_
          refine walk_s rfl rfl (op_stwa rfl tb35 (ev1 rfl) (ev1 rfl) rfl rfl rfl rfl) (by simp only [upd, za, zaa]; exact rfl) ?_
          refine zaf ?_
          refine zae ?_
          refine zad ?_
          refine zab rfl rfl rfl (op_ldw rfl tb35 (ev1 rfl) rfl rfl) ?_
          refine zab rfl rfl rfl (zah [] [] [] rfl (ev1 rfl) (ec (ev1 rfl) en) rfl rfl (idCheck_d _) rfl rfl rfl rfl rfl rfl) ?_
          refine zab rfl rfl rfl (op_neq rfl (ev1 rfl) (ev1 rfl)) ?_
          refine zaf ?_
          refine dwp_cond rfl (fun c6 => ?_) (fun c6 => ?_)
          · refine zae ?_
            refine zad ?_
            refine zab rfl rfl rfl (zac (.inl rfl) (ev1 rfl)) ?_
            refine zab rfl rfl rfl (op_len rfl sl22 (ev1 rfl)) ?_
            refine zab rfl rfl rfl (op_eql rfl (ev1 rfl) (ev1 rfl)) ?_
            refine zab rfl rfl rfl (zac (.inr rfl) (ev1 rfl)) ?_
            refine zaf ?_
            refine dwp_ret ?_
            refine kend0 (rs1 rfl (rv_t rfl)) rfl ?_
            rfl
          · have c7 : mayR l[q] = true := by
              cases g : mayR l[q] with
              | true => rfl
              | false => rw [g] at c6; simp [errOr] at c6
            refine zal ?_
            refine zad ?_
            refine zab rfl rfl rfl (op_add' rfl (ev1 rfl) (ev1 rfl) (fun _ => IntWalk.i64_in _ (by omega))) ?_
            refine zab rfl rfl rfl (zac (.inl rfl) (ev1 rfl)) ?_
            refine zaf ?_
            refine ⟨q + 1, [], ⟨by omega, by rw [List.take_succ_eq_append_getElem (by omega), List.all_append, hqa, Bool.true_and, List.all_cons, c7]; rfl⟩, by simp only []; omega, rfl, ⟨rfl, rfl, rfl, rfl, rfl, rfl, rfl, trivial⟩, trivial⟩
        · try simp only [decide_eq_true_eq, decide_eq_false_iff_not, beq_iff_eq, bne_iff_ne, beq_eq_false_iff_ne, bne_eq_false_iff_eq, Bool.not_eq_true', Bool.not_eq_false', Bool.and_eq_true, Bool.or_eq_true, Bool.or_eq_false_iff, ne_eq, Decidable.not_not, Int.not_lt, Int.not_le] at c11
          refine dwp_exit ?_
          refine zae ?_
          refine zad ?_
          refine zab rfl rfl rfl (zac (.inl rfl) (ev1 rfl)) ?_
          refine zab rfl rfl rfl (op_len rfl sl22 (ev1 rfl)) ?_
          refine zab rfl rfl rfl (op_sub' rfl (ev1 rfl) (ev1 rfl) (fun _ => IntWalk.i64_in _ (by omega))) ?_
          refine zab rfl rfl rfl (zac (.inl rfl) (ev1 rfl)) ?_
          refine zab rfl rfl rfl (op_sub' rfl (ev1 rfl) (ev1 rfl) (fun _ => IntWalk.i64_in _ (by have := atF_le m.length (m.getD (m.length - 1) zMk).i l k; omega))) ?_
          refine zab rfl rfl rfl (zac (.inl rfl) (ev1 rfl)) ?_
          refine zab rfl rfl rfl (op_lss rfl (ev1 rfl) (ev1 rfl)) ?_
          refine zab rfl rfl rfl (zac (.inr rfl) (ev1 rfl)) ?_
          refine zaf ?_
          refine dwp_ret ?_
          refine kend0 (rs1 rfl (rv_t rfl)) rfl ?_
          exfalso
          rw [List.take_of_length_le (by omega)] at hqa
          apply hd
          unfold dueB
          rw [hqa, decide_eq_true (by omega)]
          cases g1 : chkM m <;> cases g2 : risL l <;> simp [g1, g2, errOr] at c5 ⊢
end Go.Proofs.Ytmpodnadoebclaa
