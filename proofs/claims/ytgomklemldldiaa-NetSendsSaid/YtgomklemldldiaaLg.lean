/- A call by its contract, where a call stands. No condition. -/
import Derived.Test.YtgomklemldldiaaLf
namespace Go.Proofs.Ytgomklemldldiaa
set_option linter.unusedVariables false
set_option linter.unusedSimpArgs false
open Go.RowKit

/-- operands, in order -/
def EvL (pc : Bool) (F : Fr) : List Operand → List D → Prop
  | [], [] => True
  | x :: xs, d :: ds => Ev pc F x d ∧ EvL pc F xs ds
  | _, _ => False
theorem en {pc : Bool} {F : Fr} : EvL pc F [] [] := trivial
theorem ec {pc : Bool} {F : Fr} {x : Operand} {xs : List Operand} {d : D} {ds : List D} (h : Ev pc F x d) (h' : EvL pc F xs ds) : EvL pc F (x :: xs) (d :: ds) := ⟨h, h'⟩
theorem evL_reps {pc : Bool} {F : Fr} {a : Act} {s : St} (hp : pc = true) : ∀ (xs : List Operand) (ds : List D), EvL pc F xs ds → (∀ x ∈ xs, ∀ d, ev F x = some d → Rep s d (a.eval x)) → Reps s ds (xs.map a.eval)
  | [], [], _, _ => ⟨rfl, fun j d v h => by simp at h⟩
  | x :: xs, d :: ds, ⟨⟨d', e1, e2⟩, h⟩, hr => by
    obtain ⟨h1, h2⟩ := evL_reps hp xs ds h (fun y hy => hr y (List.mem_cons_of_mem _ hy))
    refine ⟨by simp [h1], fun j e v hj hv => ?_⟩
    cases j with
    | zero => simp at hj hv; subst hj; subst hv; exact e2 s _ hp (hr x (List.mem_cons_self ..) d' e1)
    | succ j => simp at hj; exact h2 j e v hj (by simpa using hv)
  | [], _ :: _, h, _ => by cases h
  | _ :: _, [], h, _ => by cases h

theorem vwLoc_congr {V : Nat → Bool} {M M' : List Blk} {i : Nat} (h : V i = true → M[i]? = M'[i]?) (o : Nat) : vwLoc V M i o = vwLoc V M' i o := by
  unfold vwLoc; cases hv : V i with
  | false => rfl
  | true => simp only [cond_true]; rw [h hv]
theorem vwOwn_congr {V : Nat → Bool} {M M' : List Blk} {i : Nat} (h : V i = true → M[i]? = M'[i]?) (sz o n : Nat) : vwOwn V M i sz o n = vwOwn V M' i sz o n := by
  unfold vwOwn; cases hv : V i with
  | false => rfl
  | true => simp only [cond_true]; rw [h hv]
theorem vwArr0_congr {V : Nat → Bool} {M M' : List Blk} {i : Nat} (h : V i = true → M[i]? = M'[i]?) : vwArr0 V M i = vwArr0 V M' i := by
  unfold vwArr0; cases hv : V i with
  | false => rfl
  | true => simp only [cond_true]; rw [h hv]
theorem vwFloc_congr {V : Nat → Bool} {M M' : List Blk} {i : Nat} (h : V i = true → M[i]? = M'[i]?) (k o : Nat) : vwFloc V M i k o = vwFloc V M' i k o := by
  unfold vwFloc; cases hv : V i with
  | false => rfl
  | true => simp only [cond_true]; rw [h hv]
theorem vwFarr_congr {V : Nat → Bool} {M M' : List Blk} {i : Nat} (h : V i = true → M[i]? = M'[i]?) (k : Nat) : vwFarr V M i k = vwFarr V M' i k := by
  unfold vwFarr; cases hv : V i with
  | false => rfl
  | true => simp only [cond_true]; rw [h hv]
theorem vwFaloc_congr {V : Nat → Bool} {M M' : List Blk} {i : Nat} (h : V i = true → M[i]? = M'[i]?) (k o : Nat) : vwFaloc V M i k o = vwFaloc V M' i k o := by
  unfold vwFaloc; cases hv : V i with
  | false => rfl
  | true => simp only [cond_true]; rw [h hv]
theorem vw1_congr {σ : List Nat} {V : Nat → Bool} {M M' : List Blk} (h : ∀ i, V i = true → M[i]? = M'[i]?) (d : D) : vw1 σ V M d = vw1 σ V M' d := by
  cases d with
  | arr i => simp only [vw1]; rw [vwArr0_congr (h i)]
  | own i sz o n => simp only [vw1]; rw [vwOwn_congr (h i)]
  | farr i k => simp only [vw1]; rw [vwFarr_congr (h i)]
  | floc i k o => simp only [vw1]; rw [vwFloc_congr (h i)]
  | _ => rfl
theorem vw1L_congr {σ : List Nat} {V : Nat → Bool} {M M' : List Blk} (h : ∀ i, V i = true → M[i]? = M'[i]?) : ∀ l, vw1L σ V M l = vw1L σ V M' l
  | [] => rfl
  | d :: l => by unfold vw1L; rw [vw1_congr h d, vw1L_congr h l]
theorem vwArr_congr {σ : List Nat} {V : Nat → Bool} {M M' : List Blk} (h : ∀ i, V i = true → M[i]? = M'[i]?) (i : Nat) : vwArr σ V M i = vwArr σ V M' i := by
  unfold vwArr; cases hv : V i with
  | false => rfl
  | true => simp only [cond_true]; rw [h i hv]; simp only [vw1L_congr h]
theorem vwAloc_congr {V : Nat → Bool} {M M' : List Blk} {i : Nat} (h : V i = true → M[i]? = M'[i]?) (o : Nat) : vwAloc V M i o = vwAloc V M' i o := by
  unfold vwAloc; cases hv : V i with
  | false => rfl
  | true => simp only [cond_true]; rw [h hv]
mutual
theorem vw_congr {σ : List Nat} {V : Nat → Bool} {M M' : List Blk} (h : ∀ i, V i = true → M[i]? = M'[i]?) : ∀ d, vw σ V M d = vw σ V M' d
  | .val v => rfl
  | .loc i o => by unfold vw; rw [vwLoc_congr (h i)]
  | .arr i => by unfold vw; rw [vwArr_congr h i]
  | .aloc i o => by unfold vw; rw [vwAloc_congr (h i)]
  | .own i sz o n => by unfold vw; rw [vwOwn_congr (h i)]
  | .dpf L => rfl
  | .slf sz n L => rfl
  | .slc sz n L => rfl
  | .tup l => by unfold vw; rw [vwL_congr h l]
  | .agg l => by unfold vw; rw [vwL_congr h l]
  | .dpm l => rfl
  | .slm sz n l => rfl
  | .fn f a b => by unfold vw; rw [vwL_congr h a, vwL_congr h b]
  | .ifc t d => by unfold vw; rw [vw_congr h d]
  | .opt b d => by unfold vw; rw [vw_congr h d]
  | .hnd _ => rfl
  | .yld _ => rfl
  | .floc i k o => by unfold vw; rw [vwFloc_congr (h i)]
  | .farr i k => by unfold vw; rw [vwFarr_congr (h i)]
  | .faloc i k o => by unfold vw; rw [vwFaloc_congr (h i)]
  | .junk => rfl
theorem vwL_congr {σ : List Nat} {V : Nat → Bool} {M M' : List Blk} (h : ∀ i, V i = true → M[i]? = M'[i]?) : ∀ l, vwL σ V M l = vwL σ V M' l
  | [] => rfl
  | d :: l => by unfold vwL; rw [vw_congr h d, vwL_congr h l]
end
theorem vwF_congr {σ : List Nat} {V : Nat → Bool} {M M' : List Blk} (h : ∀ i, V i = true → M[i]? = M'[i]?) : ∀ l, vwF σ V M l = vwF σ V M' l
  | [] => rfl
  | (t, d) :: l => by unfold vwF; rw [vw_congr h d, vwF_congr h l]
theorem vwMs_congr {σ : List Nat} {V : Nat → Bool} {M M' : List Blk} (h : ∀ i, V i = true → M[i]? = M'[i]?) : ∀ (τ : List Nat), (∀ i ∈ τ, M[i]? = M'[i]?) → vwMs σ V M τ = vwMs σ V M' τ
  | [], _ => rfl
  | i :: r, ht => by
    unfold vwMs
    rw [ht i (List.mem_cons_self ..), vwMs_congr h r (fun j hj => ht j (List.mem_cons_of_mem _ hj))]
    have : ∀ k, vwB σ V M k = vwB σ V M' k := fun k => by cases k <;> simp [vwB, vwL_congr h, vwF_congr h]
    simp only [this]

theorem run_call {P : Program} {o : Oper} {a : Act} {x : Operand} {as : List Operand} {tys : Array TypeId} {g : FuncId} {v1 v2 : Array Value} {w : World} (ho : o.op = .call { callee := .value x, args := as.toArray, argTypes := tys }) (hx : a.eval x = .func (.func g) v1 v2) (hcb : callB P g = true) :
    (execOp a.eval o).run P w = .ok (.enter g (v1 ++ (as.map a.eval).toArray ++ v2)) w := by
  have e : execOp a.eval o = callFunc g (v1 ++ (as.map a.eval).toArray ++ v2) := by
    unfold execOp
    simp only [ho, resolve, hx, Deferred.ofValue]
    simp [invoke, pure, bind, Sem.bind]
  rw [e, run_callFunc hcb]

theorem wrOf_spec {τ0 : List Nat} : ∀ (τ : List Nat) (Mo : List Blk) (wr : List (Nat × Blk)), wrOf τ0 τ Mo = some wr → wr.map (·.1) = τ ∧ Mo.length = τ.length ∧ ∀ (j : Nat) i k, τ[j]? = some i → Mo[j]? = some k → ∃ k', sbB τ0 k = some k' ∧ wr[j]? = some (i, k')
  | [], [], wr, h => by unfold wrOf at h; cases h; exact ⟨rfl, rfl, fun j i k h => by simp at h⟩
  | i :: r, k :: ks, wr, h => by
    unfold wrOf at h
    cases e1 : sbB τ0 k with
    | none => rw [e1] at h; simp at h
    | some k1 =>
      cases e2 : wrOf τ0 r ks with
      | none => rw [e1, e2] at h; simp at h
      | some r1 =>
        rw [e1, e2] at h
        obtain rfl := Option.some.inj h
        obtain ⟨h1, h2, h3⟩ := wrOf_spec r ks r1 e2
        refine ⟨by simp [h1], by simp [h2], fun j i' k' hj hk => ?_⟩
        cases j with
        | zero => simp at hj hk; subst hj; subst hk; exact ⟨k1, e1, rfl⟩
        | succ j => simp at hj hk; simpa using h3 j i' k' hj hk
  | [], _ :: _, wr, h => by cases h
  | _ :: _, [], wr, h => by cases h

theorem upd_at : ∀ (wr : List (Nat × Blk)) (M : List Blk) (j i : Nat) (k : Blk), (wr.map (·.1)).Nodup → i < M.length → wr[j]? = some (i, k) → (upd M wr)[i]? = some k
  | (i0, k0) :: r, M, 0, i, k, hn, hi, hj => by
    simp at hj
    obtain ⟨rfl, rfl⟩ := hj
    simp only [List.map_cons, List.nodup_cons] at hn
    rw [upd, upd_out r _ _ hn.1]
    simp [hi]
  | (i0, k0) :: r, M, j + 1, i, k, hn, hi, hj => by
    simp only [List.map_cons, List.nodup_cons] at hn
    rw [upd]
    exact upd_at r _ j i k hn.2 (by simpa using hi) (by simpa using hj)

theorem pos_of : ∀ (σ : List Nat) (i j : Nat), σ.Nodup → σ[j]? = some i → pos σ i = some j
  | k :: r, i, 0, _, h => by simp at h; subst h; simp [pos]
  | k :: r, i, j + 1, hn, h => by
    simp at h hn
    have hne : k ≠ i := fun e => hn.1 (e ▸ List.mem_of_getElem? h)
    unfold pos
    have : Nat.beq k i = false := by
      cases e : Nat.beq k i
      · rfl
      · exact absurd (Nat.eq_of_beq_eq_true e) hne
    rw [this, pos_of r i j hn.2 h]
    rfl

section
variable {P : Program}

/-- the caller's state behind a call -/
def back (s s2 : St) (σ : List Nat) (V : Nat → Bool) (ν : List Nat) (M3 : List Blk) : St :=
  ⟨(List.range s.β.length).map fun i => match pos (σ ++ ν) i with | some k => s2.β.getD k .nilFunc | none => s.β.getD i .nilFunc, fun b => s2.I b ∧ ¬ Vis s σ V b, M3, s2.w⟩

theorem back_old {s s2 : St} {σ : List Nat} {V : Nat → Bool} {ν : List Nat} {M3 : List Blk} {i : Nat} {h : Value} (hi : i ∉ σ ++ ν) (hs : s.β[i]? = some h) : (back s s2 σ V ν M3).β[i]? = some h := by
  have hlt := (List.getElem?_eq_some_iff.1 hs).1
  show ((List.range s.β.length).map _)[i]? = some h
  rw [List.getElem?_map, List.getElem?_range hlt]
  cases hp : pos (σ ++ ν) i with
  | some k => exact absurd (List.mem_of_getElem? (pos_spec (σ ++ ν) i k hp)) hi
  | none => simp [hp, hs]
theorem back_new {s s2 : St} {σ : List Nat} {V : Nat → Bool} {ν : List Nat} {M3 : List Blk} {i k : Nat} {h : Value} (hn : (σ ++ ν).Nodup) (hi : (σ ++ ν)[k]? = some i) (hlt : i < s.β.length) (hs : s2.β[k]? = some h) : (back s s2 σ V ν M3).β[i]? = some h := by
  show ((List.range s.β.length).map _)[i]? = some h
  rw [List.getElem?_map, List.getElem?_range hlt]
  simp [pos_of (σ ++ ν) i k hn hi, hs]

theorem call_back {s s2 : St} {σ ν : List Nat} {V : Nat → Bool} {Min Mout M3 : List Blk} {wr : List (Nat × Blk)} (ho : Ok s) (hMin : vwMs σ V s.M σ = some Min) (hlive : Min.all (·.live) = true) (hn : (σ ++ ν).Nodup)
    (hν : ∀ i ∈ ν, s.M[i]? = some .hole) (t : Tr (vst s σ V Min) s2) (h2 : s2.M = Mout) (hwr : wrOf (σ ++ ν) (σ ++ ν) Mout = some wr) (hM3 : M3 = upd s.M wr)
    (hfl : (∃ i, V i = true) → Mout.all (·.fl) = true) :
    Tr s (back s s2 σ V ν M3) ∧ ∀ d v d', Rep s2 d v → ((∃ i, V i = true) → d.fl = true) → sb (σ ++ ν) d = some d' → Rep (back s s2 σ V ν M3) d' v := by
  obtain ⟨hnσ, hnν, hdis⟩ := List.nodup_append.1 hn
  obtain ⟨w1, w2, w3⟩ := wrOf_spec _ _ _ hwr
  have hok1 := ok_vst ho hMin hnσ
  have hlenMin := (vwMs_spec σ Min hMin).1
  have lenM := ho.len
  have σlt : ∀ (j i : Nat), σ[j]? = some i → ∃ k k', s.M[i]? = some k ∧ k.live = true ∧ Min[j]? = some k' ∧ vwB σ V s.M k = some k' := by
    intro j i hj
    have hjl : j < Min.length := by rw [hlenMin]; exact (List.getElem?_eq_some_iff.1 hj).1
    obtain ⟨i', k, e1, e2, e3⟩ := (vwMs_spec σ Min hMin).2 j _ (List.getElem?_eq_getElem hjl)
    rw [hj] at e1
    obtain rfl := Option.some.inj e1
    refine ⟨k, _, e2, ?_, List.getElem?_eq_getElem hjl, e3⟩
    rw [← vwB_live e3]
    exact List.all_eq_true.1 hlive _ (List.getElem_mem hjl)
  have ilt : ∀ i ∈ σ ++ ν, i < s.M.length := by
    intro i hi
    rcases List.mem_append.1 hi with hi | hi
    · obtain ⟨j, hj⟩ := List.getElem?_of_mem hi
      obtain ⟨k, k', e, _⟩ := σlt j i hj
      exact (List.getElem?_eq_some_iff.1 e).1
    · exact (List.getElem?_eq_some_iff.1 (hν i hi)).1
  -- handles of what was passed
  have σh : ∀ (j i : Nat), σ[j]? = some i → ∃ h h', s.β[i]? = some h ∧ s2.β[j]? = some h' ∧ h ≠ .nilFunc ∧ h' ≠ .nilFunc ∧ ((∀ a, h ≠ .tuple a) → h' = h) ∧ ∀ hs : List Value, h = .tuple hs.toArray → ∃ hs' : List Value, h' = .tuple hs'.toArray ∧ ∀ (k : Nat) u, hs[k]? = some u → hs'[k]? = some u := by
    intro j i hj
    obtain ⟨k, k', e1, e2, e3, e4⟩ := σlt j i hj
    have hi : i < s.β.length := by rw [lenM]; exact (List.getElem?_eq_some_iff.1 e1).1
    have e5 : s.β[i]? = some s.β[i] := List.getElem?_eq_getElem hi
    have hne := (ho.blk i k _ e1 e5).live_ne e2
    by_cases ht : ∃ a, s.β[i] = .tuple a
    · obtain ⟨a, ha⟩ := ht
      obtain ⟨hs', q1, q2⟩ := t.hnd.2 j a.toList (by have := vst_hnd (s := s) (V := V) (M' := Min) hj e5; rw [ha] at this; simpa using this)
      refine ⟨_, _, e5, q1, hne, by simp, fun h => absurd ha (h a), fun hs h => ⟨hs', rfl, ?_⟩⟩
      rw [ha] at h
      have : hs = a.toList := by cases h; simp
      subst this
      exact q2
    · have ht' : ∀ a, s.β[i] ≠ .tuple a := fun a h => ht ⟨a, h⟩
      exact ⟨_, _, e5, t.hnd.1 j _ (vst_hnd hj e5) hne ht', hne, hne, fun _ => rfl, fun hs h => absurd h (ht' _)⟩
  have hnd2 : ∀ (j i : Nat) h, (σ ++ ν)[j]? = some i → s2.β[j]? = some h → h ≠ .nilFunc → (back s s2 σ V ν M3).β[i]? = some h := by
    intro j i h hj hh hne
    have hi := ilt i (List.mem_of_getElem? hj)
    exact back_new hn hj (by omega) hh
  -- what stays
  have vis_no : ∀ b, s.I b → ¬ Vis s σ V b := fun b hI ⟨i, k, h, _, _, f1, f2, f3, f4⟩ => (ho.lt b (live_of f1 f2 f3 f4)).2 hI
  have live1 : ∀ b, Live (vst s σ V Min) b → Live s b := fun b hl => by obtain ⟨i, k, h, _, e1, e2, e3, e4⟩ := vst_live ho hMin hl; exact live_of e1 e2 e3 e4
  have upI : ∀ b, s.I b → (back s s2 σ V ν M3).I b := fun b hI => ⟨t.up b (.inl hI), vis_no b hI⟩
  have hnd0 : ∀ (i : Nat) h, s.β[i]? = some h → h ≠ .nilFunc → (back s s2 σ V ν M3).β[i]? = some h ∨ ∃ (j : Nat) (h' : Value), σ[j]? = some i ∧ (back s s2 σ V ν M3).β[i]? = some h' ∧ s2.β[j]? = some h' := by
    intro i h hi hne
    by_cases hm : i ∈ σ ++ ν
    · rcases List.mem_append.1 hm with hm | hm
      · obtain ⟨j, hj⟩ := List.getElem?_of_mem hm
        obtain ⟨h1, h', e1, e2, e3, e4, _⟩ := σh j i hj
        exact .inr ⟨j, h', hj, hnd2 j i h' (by rw [List.getElem?_append_left (List.getElem?_eq_some_iff.1 hj).1]; exact hj) e2 e4, e2⟩
      · exact absurd (ho.blk i .hole h (hν i hm) hi) hne
    · exact .inl (back_old hm hi)
  have hnd : hkeep s.β (back s s2 σ V ν M3).β := by
    refine ⟨fun i h hi hne ht => ?_, fun i hs hi => ?_⟩
    · rcases hnd0 i h hi hne with h1 | ⟨j, h', h1, h2, h3⟩
      · exact h1
      · obtain ⟨q, q', e1, e2, _, _, e5, _⟩ := σh j i h1
        rw [hi] at e1; rw [h3] at e2
        obtain rfl := Option.some.inj e1; obtain rfl := Option.some.inj e2
        rw [h2, e5 ht]
    · rcases hnd0 i _ hi (by simp) with h1 | ⟨j, h', h1, h2, h3⟩
      · exact ⟨hs, h1, fun _ _ h => h⟩
      · obtain ⟨q, q', e1, e2, _, _, _, e6⟩ := σh j i h1
        rw [hi] at e1; rw [h3] at e2
        obtain rfl := Option.some.inj e1; obtain rfl := Option.some.inj e2
        obtain ⟨hs', e7, e8⟩ := e6 hs rfl
        exact ⟨hs', by rw [h2, e7], e8⟩
  have imm : ∀ b, s.I b → (back s s2 σ V ν M3).w.heap[b]? = s.w.heap[b]? := fun b hI => t.imm hok1 (b := b) (.inl hI)
  have noV : ¬ (∃ i, V i = true) → ∀ b, ¬ Vis s σ V b := fun hv b ⟨i, _, _, h1, _⟩ => hv ⟨i, h1⟩
  have rep2 : ∀ d v d', Rep s2 d v → ((∃ i, V i = true) → d.fl = true) → sb (σ ++ ν) d = some d' → Rep (back s s2 σ V ν M3) d' v := by
    intro d v d' hr hf hd
    exact sb_rep (s := s2) (∃ i, V i = true) hnd2 (fun hv b hI => ⟨hI, noV hv b⟩) (fun _ _ _ => rfl) hr hf d' hd
  -- places
  have inτ : ∀ (i : Nat) k h, i ∈ σ ++ ν → M3[i]? = some k → (back s s2 σ V ν M3).β[i]? = some h → ∃ (j : Nat) (k2 : Blk), (σ ++ ν)[j]? = some i ∧ s2.M[j]? = some k2 ∧ sbB (σ ++ ν) k2 = some k ∧ (k2.live = true ∨ k2 = .hole ∨ k2 = .gone) ∧ ∃ h2, s2.β[j]? = some h2 ∧ (h2 ≠ .nilFunc → h2 = h) := by
    intro i k h hi hk hh
    obtain ⟨j, hj⟩ := List.getElem?_of_mem hi
    have hjl : j < Mout.length := by rw [w2]; exact (List.getElem?_eq_some_iff.1 hj).1
    obtain ⟨k', e1, e2⟩ := w3 j i _ hj (List.getElem?_eq_getElem hjl)
    have e3 := upd_at wr s.M j i k' (by rw [w1]; exact hn) (ilt i hi) e2
    rw [hM3, e3] at hk
    obtain rfl := Option.some.inj hk
    have e4 : s2.M[j]? = some Mout[j] := by rw [h2]; exact List.getElem?_eq_getElem hjl
    have hj2 : j < s2.β.length := by rw [t.ok.len, h2]; exact hjl
    refine ⟨j, _, hj, e4, e1, ?_, s2.β[j], List.getElem?_eq_getElem hj2, fun hne => ?_⟩
    · cases Mout[j] <;> simp [Blk.live]
    · have := hnd2 j i _ hj (List.getElem?_eq_getElem hj2) hne
      rw [hh] at this
      exact (Option.some.inj this).symm
  have outτ : ∀ (i : Nat) k h, i ∉ σ ++ ν → M3[i]? = some k → (back s s2 σ V ν M3).β[i]? = some h → s.M[i]? = some k ∧ s.β[i]? = some h := by
    intro i k h hi hk hh
    rw [hM3, upd_out wr s.M i (by rw [w1]; exact hi)] at hk
    have hil : i < s.β.length := by rw [lenM]; exact (List.getElem?_eq_some_iff.1 hk).1
    have e5 : s.β[i]? = some s.β[i] := List.getElem?_eq_getElem hil
    rw [back_old hi e5] at hh
    exact ⟨hk, by rw [e5, hh]⟩
  have sbB_live : ∀ {k2 k : Blk}, sbB (σ ++ ν) k2 = some k → k.live = k2.live := by
    intro k2 k h
    cases k2 <;> simp only [sbB, Option.some.injEq, Option.map_eq_some_iff] at h
    case mix T l => obtain ⟨a, _, rfl⟩ := h; rfl
    case arx T sz n l => obtain ⟨a, _, rfl⟩ := h; rfl
    case lp n F ps asg body st pe => obtain ⟨a, _, rfl⟩ := h; rfl
    all_goals (subst h; rfl)
  have sbB_owns : ∀ {k2 k : Blk}, sbB (σ ++ ν) k2 = some k → ∀ {x : Value} {b : Nat}, owns k x b → owns k2 x b := by
    intro k2 k h x b hx
    cases k2 <;> simp only [sbB, Option.some.injEq, Option.map_eq_some_iff] at h
    case mix T l => obtain ⟨a, _, rfl⟩ := h; exact hx
    case arx T sz n l => obtain ⟨a, _, rfl⟩ := h; exact hx
    case lp n F ps asg body st pe => obtain ⟨a, _, rfl⟩ := h; exact hx
    all_goals (subst h; exact hx)
  have lvτ : ∀ (i : Nat) k h b, i ∈ σ ++ ν → M3[i]? = some k → k.live = true → (back s s2 σ V ν M3).β[i]? = some h → owns k h b → ∃ (j : Nat) (k2 : Blk), (σ ++ ν)[j]? = some i ∧ s2.M[j]? = some k2 ∧ k2.live = true ∧ s2.β[j]? = some h ∧ owns k2 h b := by
    intro i k h b hi hk hl hh hbb
    obtain ⟨j, k2, e1, e2, e3, _, h2', e4, e5⟩ := inτ i k h hi hk hh
    have hl2 : k2.live = true := by rw [← sbB_live e3]; exact hl
    have hne := (t.ok.blk j k2 h2' e2 e4).live_ne hl2
    obtain rfl := e5 hne
    exact ⟨j, k2, e1, e2, hl2, e4, sbB_owns e3 hbb⟩
  have lv2 : ∀ b, Live s2 b → s.w.heap.size ≤ b ∨ Live (vst s σ V Min) b := fun b h => t.lv b h
  -- a block of another name is none of those passed
  have apart : ∀ (i : Nat) k h b, i ∉ σ ++ ν → s.M[i]? = some k → k.live = true → s.β[i]? = some h → owns k h b → ¬ Live s2 b := by
    intro i k h b hi h1 h2' h3 h4 hl
    rcases lv2 b hl with hs | hs
    · exact absurd (ho.lt b (live_of h1 h2' h3 h4)).1 (Nat.not_lt.2 hs)
    · obtain ⟨i', k', h', e0, e1, e2, e3, e4⟩ := vst_live ho hMin hs
      have := ho.inj i i' k k' h h' b h1 h2' h3 h4 e1 e2 e3 e4
      subst this
      exact hi (List.mem_append_left _ e0)
  have lv3 : ∀ b, Live (back s s2 σ V ν M3) b → Live s2 b ∨ Live s b := by
    rintro b ⟨i, k, h, e1, e2, e3, e4⟩
    by_cases hi : i ∈ σ ++ ν
    · obtain ⟨j, k2, f1, f2, f3, f4, f5⟩ := lvτ i k h b hi e1 e2 e3 e4
      exact .inl (live_of f2 f3 f4 f5)
    · obtain ⟨f1, f2⟩ := outτ i k h hi e1 e3
      exact .inr (live_of f1 e2 f2 e4)
  refine ⟨⟨⟨by simp [back, hM3, upd_len, lenM], ?_, ?_, ?_, ?_⟩, hnd, upI, ?_, ?_, ?_, t.os, t.tape, t.output, t.size⟩, rep2⟩
  · intro i k h hk hh
    by_cases hi : i ∈ σ ++ ν
    · obtain ⟨j, k2, e1, e2, e3, e4, h2', e5, e6⟩ := inτ i k h hi hk hh
      have hk2 := t.ok.blk j k2 h2' e2 e5
      rcases e4 with e4 | rfl | rfl
      · obtain rfl := e6 (hk2.live_ne e4)
        cases k2 with
        | gone => cases e4
        | hole => cases e4
        | flat T L => cases e3; exact hk2
        | arr T sz n L => cases e3; exact hk2
        | mix T l =>
          simp only [sbB, Option.map_eq_some_iff] at e3
          obtain ⟨l', e3, rfl⟩ := e3
          obtain ⟨b, vs, q1, q2, q3, q4⟩ := hk2
          obtain ⟨g1, g2⟩ := sbL_spec l l' e3
          refine ⟨b, vs, q1, q2, by omega, fun j' d v hj hv => ?_⟩
          obtain ⟨x, hx, hx2⟩ := g2 j' d hj
          refine rep2 x v d (q4 j' x v hx hv) (fun hV => ?_) hx2
          have := hfl hV
          rw [← h2] at this
          exact flL_mem (List.all_eq_true.1 this _ (List.mem_of_getElem? e2)) hx
        | arx T sz n l =>
          simp only [sbB, Option.map_eq_some_iff] at e3
          obtain ⟨l', e3, rfl⟩ := e3
          obtain ⟨vs, q2, q3, q4⟩ := hk2
          obtain ⟨g1, g2⟩ := sbL_spec l l' e3
          refine ⟨vs, q2, by omega, fun j' d v hj hv => ?_⟩
          obtain ⟨x, hx, hx2⟩ := g2 j' d hj
          refine rep2 x v d (q4 j' x v hx hv) (fun hV => ?_) hx2
          have := hfl hV
          rw [← h2] at this
          exact flL_mem (List.all_eq_true.1 this _ (List.mem_of_getElem? e2)) hx
        | obj o => cases e3; exact hk2
        | fam Bs => cases e3; exact hk2
        | lp n F ps asg body st pe =>
          simp only [sbB, Option.map_eq_some_iff] at e3
          obtain ⟨F', e3, rfl⟩ := e3
          obtain ⟨b, fn, tmps, Df, q1, q2, q3, q4⟩ := hk2
          refine ⟨b, fn, tmps, Df, q1, q2, q3, fun t' d hd => ?_⟩
          obtain ⟨x, hx, hx2, hx3⟩ := sbF_spec F F' e3 t' d hd
          refine rep2 x _ d (q4 t' x hx) (fun hV => hx3 ?_) hx2
          have := hfl hV
          rw [← h2] at this
          exact List.all_eq_true.1 this _ (List.mem_of_getElem? e2)
      · cases e3
        show h = .nilFunc
        have : h2' = .nilFunc := hk2
        have h3 := back_new (s := s) (s2 := s2) (σ := σ) (V := V) (M3 := M3) hn e1 (by rw [lenM]; exact ilt i hi) e5
        rw [hh] at h3
        rw [Option.some.inj h3]
        exact this
      · cases e3
        trivial
    · obtain ⟨e1, e2⟩ := outτ i k h hi hk hh
      refine BlkOk.monoK (s := s) (s' := back s s2 σ V ν M3) hnd upI imm (ho.blk i k h e1 e2) fun b hl hbb => ?_
      have hls := live_of e1 hl e2 hbb
      refine t.keep b (ho.lt b hls).1 fun hv => ?_
      obtain ⟨i', k', h', f0, f1, f2, f3, f4⟩ := vst_live ho hMin hv
      have := ho.inj i i' k k' h h' b e1 hl e2 hbb f1 f2 f3 f4
      subst this
      exact hi (List.mem_append_left _ f0)
  · rintro b ⟨i, k, h, e1, e2, e3, e4⟩
    by_cases hi : i ∈ σ ++ ν
    · obtain ⟨j, k2, f1, f2, f3, f4, f5⟩ := lvτ i k h b hi e1 e2 e3 e4
      obtain ⟨g1, g2⟩ := t.ok.lt b (live_of f2 f3 f4 f5)
      exact ⟨g1, fun hI => g2 hI.1⟩
    · obtain ⟨f1, f2⟩ := outτ i k h hi e1 e3
      have hls := live_of f1 e2 f2 e4
      obtain ⟨g1, g2⟩ := ho.lt b hls
      refine ⟨Nat.lt_of_lt_of_le g1 t.size, fun hI => ?_⟩
      rcases t.new b hI.1 with (hn1 | hn1) | hn1 | hn1
      · exact g2 hn1
      · exact hI.2 hn1
      · exact absurd g1 (Nat.not_lt.2 hn1)
      · obtain ⟨i', k', h', f0, f1', f2', f3', f4'⟩ := vst_live ho hMin hn1
        have := ho.inj i i' k k' h h' b f1 e2 f2 e4 f1' f2' f3' f4'
        subst this
        exact hi (List.mem_append_left _ f0)
  · intro i i' k k' h h' b a1 a2 a3 a4 b1 b2 b3 b4
    by_cases hi : i ∈ σ ++ ν
    · obtain ⟨j, k2, f1, f2, f3, f4, f5⟩ := lvτ i k h b hi a1 a2 a3 a4
      by_cases hi' : i' ∈ σ ++ ν
      · obtain ⟨j', k2', f1', f2', f3', f4', f5'⟩ := lvτ i' k' h' b hi' b1 b2 b3 b4
        have := t.ok.inj j j' k2 k2' h h' b f2 f3 f4 f5 f2' f3' f4' f5'
        subst this
        rw [f1] at f1'
        exact Option.some.inj f1'
      · obtain ⟨g1, g2⟩ := outτ i' k' h' hi' b1 b3
        exact absurd (live_of f2 f3 f4 f5) (apart i' k' h' b hi' g1 b2 g2 b4)
    · obtain ⟨g1, g2⟩ := outτ i k h hi a1 a3
      by_cases hi' : i' ∈ σ ++ ν
      · obtain ⟨j', k2', f1', f2', f3', f4', f5'⟩ := lvτ i' k' h' b hi' b1 b2 b3 b4
        exact absurd (live_of f2' f3' f4' f5') (apart i k h b hi g1 a2 g2 a4)
      · obtain ⟨g1', g2'⟩ := outτ i' k' h' hi' b1 b3
        exact ho.inj i i' k k' h h' b g1 a2 g2 a4 g1' b2 g2' b4
  · intro b hI
    exact t.ok.il b hI.1
  · intro b hI
    rcases t.new b hI.1 with (h | h) | h | h
    · exact .inl h
    · exact absurd h hI.2
    · exact .inr (.inl h)
    · exact .inr (.inr (live1 b h))
  · intro b hb hl
    exact t.keep b hb fun h => hl (live1 b h)
  · intro b hb
    rcases lv3 b hb with h | h
    · rcases lv2 b h with h | h
      · exact .inl h
      · exact .inr (live1 b h)
    · exact .inr h

theorem call_pre {pc : Bool} {o : Oper} {F : Fr} {M : List Blk} {as : List Operand} {d1 d2 ds cargs : List D} {σ V : List Nat} {Min : List Blk} (hds : EvL pc F as ds)
    (hc : vwL σ (fun i => V.contains i) M (d1 ++ ds ++ d2) = some cargs) (hp : pc = true) {a : Act} {s : St} (hok : Ok s) (hops : ∀ x ∈ o.op.operands, ∀ d, ev F x = some d → Rep s d (a.eval x)) (hopx : ∀ y ∈ as, y ∈ o.op.operands)
    (hVM : ∀ i, V.contains i = true → M[i]? = s.M[i]?) {f : Fn} {vs us : List Value} (hr : Rep s (.fn f d1 d2) (.func f vs.toArray us.toArray)) :
    Reps (vst s σ (fun i => V.contains i) Min) cargs (vs ++ as.map a.eval ++ us) := by
  rw [vwL_congr hVM] at hc
  have hra := evL_reps (a := a) (s := s) hp as ds hds (fun y hy => hops y (hopx y hy))
  generalize hvs : vs.toArray = va at hr
  generalize hus : us.toArray = ua at hr
  cases hr with
  | @fn _ _ _ vs' us' hl1 hl2 hr1 hr2 =>
    have e1 : vs' = vs := by simpa using congrArg Array.toList hvs.symm
    have e2 : us' = us := by simpa using congrArg Array.toList hus.symm
    subst e1 e2
    have hall : Reps s (d1 ++ ds ++ d2) (vs' ++ as.map a.eval ++ us') := by
      refine ⟨by simp [hl1, hl2, hra.1], fun j e v hj hv => ?_⟩
      have hra1 := hra.1
      by_cases h1 : j < d1.length
      · rw [List.append_assoc, List.getElem?_append_left h1] at hj
        rw [List.append_assoc, List.getElem?_append_left (by omega)] at hv
        exact hr1 j e v hj hv
      · by_cases h2 : j < (d1 ++ ds).length
        · rw [List.getElem?_append_left h2, List.getElem?_append_right (by omega)] at hj
          simp at h2 hra1
          rw [List.getElem?_append_left (by simp; omega), List.getElem?_append_right (by omega), hl1] at hv
          exact hra.2 _ e v hj hv
        · rw [List.getElem?_append_right (by omega)] at hj
          simp at h2 hra1
          rw [List.getElem?_append_right (by simp; omega)] at hv
          simp only [List.length_append, List.length_map] at hj hv
          rw [hl1, hra1] at hv
          exact hr2 _ e v hj hv
    obtain ⟨g1, g2⟩ := vwL_spec _ _ hc
    refine ⟨by rw [hall.1, g1], fun j e v hj hv => ?_⟩
    obtain ⟨y, hy, hy2⟩ := g2 j e hj
    exact vw_rep hok (hall.2 j y v hy hv) e hy2

/-- it panics with d, and leaves its memory so -/
def DPan (P : Program) (f : FuncId) (args : List D) (Min : List Blk) (d : D) (Mout : List Blk) : Prop :=
  DCalls P f args Min (fun _ _ => False) (fun d' M' => d' = d ∧ M' = Mout)

/-- **A call**: σ: blocks that are handed on; V: blocks that are looked at as memory that stays; ν: places for blocks that come back. -/
theorem dcall_core {pc : Bool} {o : Oper} {F : Fr} {M : List Blk} {x : Operand} {as : List Operand} {tys : Array TypeId} {g : FuncId} {d1 d2 ds cargs : List D} (σ V ν : List Nat) {Min : List Blk} {post pan : D → List Blk → Prop}
    (ho : o.op = .call { callee := .value x, args := as.toArray, argTypes := tys }) (hx : Ev pc F x (.fn (.func g) d1 d2)) (hds : EvL pc F as ds)
    (hc : vwL σ (fun i => V.contains i) M (d1 ++ ds ++ d2) = some cargs) (hMin : vwMs σ (fun i => V.contains i) M σ = some Min) (hf : DCalls P g cargs Min post pan)
    (hlive : Min.all (·.live) = true) (hn : decide (σ ++ ν).Nodup = true) (hν : ν.all (fun i => match M[i]? with | some .hole => true | _ => false) = true)
    (hp : pc = true) (a : Act) (s : St) (hok : Ok s) (hops : ∀ x ∈ o.op.operands, ∀ d, ev F x = some d → Rep s d (a.eval x)) (hfp : ∀ i ∈ σ ++ V ++ ν, s.M[i]? = M[i]?) :
    ∃ args, (execOp a.eval o).run P s.w = .ok (.enter g args) s.w ∧ Calls P g args s.w fun e w'' => ∃ s2, s2.w = w'' ∧ Tr (vst s σ (fun i => V.contains i) Min) s2 ∧
      ((∃ d v, e = .returned v ∧ Rep s2 d v ∧ post d s2.M) ∨ (∃ d v, e = .panicked [{ v := v, recovered := false }] ∧ Rep s2 d v ∧ pan d s2.M)) ∧
      ∀ (Mout : List Blk) (wr : List (Nat × Blk)), s2.M = Mout → wrOf (σ ++ ν) (σ ++ ν) Mout = some wr → ((∃ i, V.contains i = true) → Mout.all (·.fl) = true) →
        Tr s (back s s2 σ (fun i => V.contains i) ν (upd s.M wr)) ∧ ∀ d' v d, Rep s2 d' v → ((∃ i, V.contains i = true) → d'.fl = true) → sb (σ ++ ν) d' = some d → Rep (back s s2 σ (fun i => V.contains i) ν (upd s.M wr)) d v := by
  have hn' : (σ ++ ν).Nodup := of_decide_eq_true hn
  have hnσ := (List.nodup_append.1 hn').1
  have hVM : ∀ i, V.contains i = true → M[i]? = s.M[i]? := fun i hi => (hfp i (by simp at hi; simp [hi])).symm
  have hMin' := hMin
  rw [vwMs_congr hVM σ (fun i hi => (hfp i (by simp [hi])).symm)] at hMin
  have hopx : x ∈ o.op.operands ∧ ∀ y ∈ as, y ∈ o.op.operands := by rw [ho]; simp [Op.operands, Call.operands]; intro y hy; exact .inr hy
  obtain ⟨dx, ex1, ex2⟩ := hx
  have hrx := ex2 s _ hp (hops x hopx.1 dx ex1)
  have hrx' := hrx
  generalize hvx : a.eval x = vx at hrx
  cases hrx with
  | @fn _ _ _ vs us hl1 hl2 hr1 hr2 =>
    have hrun := run_call (P := P) (w := s.w) ho hvx hf.1
    rw [hvx] at hrx'
    have hcr := call_pre (Min := Min) hds hc hp hok hops hopx.2 hVM hrx'
    refine ⟨_, hrun, ?_⟩
    have hcall := hf.2 (vst s σ (fun i => V.contains i) Min) (vs ++ as.map a.eval ++ us) (ok_vst hok hMin hnσ) rfl hcr
    have e : (vs.toArray ++ (as.map a.eval).toArray ++ us.toArray : Array Value) = (vs ++ as.map a.eval ++ us).toArray := by simp
    rw [e]
    refine Calls.mono hcall ?_
    rintro e' w' ⟨s2, rfl, ht, hres⟩
    refine ⟨s2, rfl, ht, hres, fun Mout wr hM2 hwr hfl => ?_⟩
    have hν' : ∀ i ∈ ν, s.M[i]? = some .hole := fun i hi => by
      have h1 := List.all_eq_true.1 hν i hi
      rw [hfp i (by simp [hi])]
      split at h1
      · rename_i h2; exact h2
      · cases h1
    exact call_back (M3 := upd s.M wr) hok hMin hlive hn' hν' ht hM2 hwr rfl hfl
theorem flV {V : List Nat} {d0 : D} {Mout : List Blk} (hfl : (V.isEmpty || (d0.fl && Mout.all (·.fl))) = true) : (∃ i, V.contains i = true) → d0.fl = true ∧ Mout.all (·.fl) = true := by
  rintro ⟨i, hi⟩
  cases V with
  | nil => simp at hi
  | cons y V => simpa using hfl
theorem dop_call {pc : Bool} {o : Oper} {F : Fr} {M : List Blk} {x : Operand} {as : List Operand} {tys : Array TypeId} {g : FuncId} {d1 d2 ds cargs : List D} (σ V ν : List Nat) {Min Mout : List Blk} {d0 d : D} {wr : List (Nat × Blk)}
    (ho : o.op = .call { callee := .value x, args := as.toArray, argTypes := tys }) (hx : Ev pc F x (.fn (.func g) d1 d2)) (hds : EvL pc F as ds)
    (hc : vwL σ (fun i => V.contains i) M (d1 ++ ds ++ d2) = some cargs) (hMin : vwMs σ (fun i => V.contains i) M σ = some Min) (hf : DFun P g cargs Min d0 Mout)
    (hlive : Min.all (·.live) = true) (hn : decide (σ ++ ν).Nodup = true) (hν : ν.all (fun i => match M[i]? with | some .hole => true | _ => false) = true)
    (hwr : wrOf (σ ++ ν) (σ ++ ν) Mout = some wr) (hd : sb (σ ++ ν) d0 = some d) (hfl : (V.isEmpty || (d0.fl && Mout.all (·.fl))) = true) : DOp P pc o F M (σ ++ V ++ ν) d wr := by
  intro hp a s hok hops hfp
  obtain ⟨args, h1, h2⟩ := dcall_core (P := P) σ V ν ho hx hds hc hMin hf hlive hn hν hp a s hok hops hfp
  rw [h1]
  refine ⟨rfl, h2.mono ?_⟩
  rintro e' w' ⟨s2, rfl, ht, (⟨d', v, rfl, hr, rfl, hM2⟩ | ⟨_, _, _, _, hno⟩), hback⟩
  · obtain ⟨q1, q2⟩ := hback Mout wr hM2 hwr fun h => (flV hfl h).2
    exact ⟨back s s2 σ (fun i => V.contains i) ν (upd s.M wr), v, rfl, rfl, q1, rfl, q2 d' v d hr (fun h => (flV hfl h).1) hd⟩
  · exact hno.elim
theorem dop_callP {pc : Bool} {o : Oper} {F : Fr} {M : List Blk} {x : Operand} {as : List Operand} {tys : Array TypeId} {g : FuncId} {d1 d2 ds cargs : List D} (σ V ν : List Nat) {Min Mout : List Blk} {d0 d : D} {wr : List (Nat × Blk)}
    (ho : o.op = .call { callee := .value x, args := as.toArray, argTypes := tys }) (hx : Ev pc F x (.fn (.func g) d1 d2)) (hds : EvL pc F as ds)
    (hc : vwL σ (fun i => V.contains i) M (d1 ++ ds ++ d2) = some cargs) (hMin : vwMs σ (fun i => V.contains i) M σ = some Min) (hf : DPan P g cargs Min d0 Mout)
    (hlive : Min.all (·.live) = true) (hn : decide (σ ++ ν).Nodup = true) (hν : ν.all (fun i => match M[i]? with | some .hole => true | _ => false) = true)
    (hwr : wrOf (σ ++ ν) (σ ++ ν) Mout = some wr) (hd : sb (σ ++ ν) d0 = some d) (hfl : (V.isEmpty || (d0.fl && Mout.all (·.fl))) = true) : DOpP P pc o F M (σ ++ V ++ ν) d wr := by
  intro hp a s hok hops hfp
  obtain ⟨args, h1, h2⟩ := dcall_core (P := P) σ V ν ho hx hds hc hMin hf hlive hn hν hp a s hok hops hfp
  rw [h1]
  refine ⟨rfl, h2.mono ?_⟩
  rintro e' w' ⟨s2, rfl, ht, (⟨_, _, _, _, hno⟩ | ⟨d', v, rfl, hr, rfl, hM2⟩), hback⟩
  · exact hno.elim
  · obtain ⟨q1, q2⟩ := hback Mout wr hM2 hwr fun h => (flV hfl h).2
    exact ⟨back s s2 σ (fun i => V.contains i) ν (upd s.M wr), v, rfl, rfl, q1, rfl, q2 d' v d hr (fun h => (flV hfl h).1) hd⟩
end
end Go.Proofs.Ytgomklemldldiaa
