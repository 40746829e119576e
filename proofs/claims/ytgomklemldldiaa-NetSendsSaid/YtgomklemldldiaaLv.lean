/- Arrays as values, indexed; slice variables that begin as nil; appended to a row that is nil; loops begun by hand. No condition. -/
import Derived.Test.YtgomklemldldiaaLu
namespace Go.Proofs.Ytgomklemldldiaa
set_option linter.unusedVariables false
set_option linter.unusedSimpArgs false
open Go.RowKit

section
variable {P : Program} {pc : Bool} {o : Oper} {F : Fr} {M : List Blk} {T : TypeId} {x y : Operand} {n sz : Nat} {k : IntKind} {z : Int} {α : Type} {en : α → List Value} {l : List α} {j : Nat}
/-- an array whose elements are rows -/
def arV (P : Program) (T : TypeId) : Option (Nat × Nat) := match P.underlying T with
  | some (.array n e) => match tyB P e with
    | some (true, sz) => some (n, sz)
    | _ => none
  | _ => none
theorem arV_spec (h : arV P T = some (n, sz)) : ∃ e, P.underlying T = some (.array n e) ∧ tyB P e = some (true, sz) := by
  unfold arV at h
  split at h
  · rename_i m e hu
    split at h
    · rename_i s hs; cases h; exact ⟨e, hu, hs⟩
    · cases h
  · cases h
theorem op_ixv (a0 : α) (ho : o.op = .index T x y) (hT : arV P T = some (n, sz)) (hx : Ev pc F x (.val (.agg (l.flatMap en).toArray))) (hy : Ev pc F y (.val (.int k z))) (hz : pc = true → z = (j : Int)) (hj : pc = true → j < n) (hl : l.length = n) (hen : ∀ a, (en a).length = sz) : DOp P pc o F M [] (.val (.agg (en (l.getD j a0)).toArray)) [] := by
  refine op_val2 hx hy (by simp [ho, Op.operands]) fun hp a w e1 e2 => ?_
  obtain ⟨e, hu, he⟩ := arV_spec hT
  obtain ⟨d, i, h1, h2, h3, h4⟩ := tyB_spec he
  have hz' := hz hp
  have hj' := hj hp
  subst hz'
  unfold execOp
  simp only [ho, e1, e2]
  refine run_v ?_
  have hagg : (isAgg e).run P w = .ok true w := by
    unfold isAgg
    rw [Sem.run_bind, run_underlying h1]
    cases d <;> first | rfl | cases h3
  have hsz : (sizeOf e).run P w = .ok sz w := by simp [sizeOf, typeInfo, h2, h4]
  have hb : (0 : Int) ≤ (j : Int) ∧ (j : Int) < (n : Int) := by omega
  have hpart : ((l.flatMap en).drop (j * sz)).take sz = en (l.getD j a0) := by rw [flat_one hen (by omega), getD_at (by omega)]
  unfold Instr.index
  simp only [Sem.run_bind, asIntOf, Sem.run_pure, Result.andThen_ok, run_underlying hu, hb, and_self, if_true, hsz, part, hagg, Int.toNat_natCast]
  simp only [List.extract_toArray, List.extract_eq_take_drop, Nat.add_sub_cancel_left, hpart]
end

section
variable {P : Program} {s0 : St} {n : Cx}
/-- a slice variable that begins as nil: an array of its own -/
theorem inv_adoptm {F : Fr} {M : List Blk} {a : Act} {w : World} {i : Nat} {T : TypeId} (e : TypeId) (sz : Nat) (h : Inv s0 n F M a w) (hi : M[i]? = some (.flat T [.slice none 0 0])) : Inv s0 n F ((M ++ [Blk.arr e sz 0 []]).set i (.mix T [.arr M.length])) a w := by
  obtain ⟨h0, s, rfl, rfl, h3, h4, h5, h6⟩ := h
  have t1 := step_hole h3.ok
  have hlen := h3.ok.len
  have hn : (s.M ++ [Blk.hole])[s.M.length]? = some .hole := by simp
  have t2 : Tr ⟨s.β ++ [Value.nilFunc], s.I, s.M ++ [Blk.hole], s.w⟩ ⟨(s.β ++ [Value.nilFunc]).set s.M.length (.slice none 0 0), s.I, (s.M ++ [Blk.hole]).set s.M.length (.arr e sz 0 []), s.w⟩ :=
    tr_new (s := ⟨s.β ++ [Value.nilFunc], s.I, s.M ++ [Blk.hole], s.w⟩) t1.ok (j := s.M.length) hn (.slice none 0 0) (.arr e sz 0 []) s.w (by simp) (fun b hb => by cases hb) (fun b _ => rfl) (fun b hb => by cases hb) (Nat.le_refl _) rfl rfl rfl (World.ownsRow_nil s.w 0 e sz)
  have tt := t1.trans t2
  have hil : i < s.M.length := (List.getElem?_eq_some_iff.1 hi).1
  have eM : (s.M ++ [Blk.hole]).set s.M.length (.arr e sz 0 []) = s.M ++ [.arr e sz 0 []] := by simp
  rw [eM] at tt
  generalize hS : (⟨(s.β ++ [Value.nilFunc]).set s.M.length (.slice none 0 0), s.I, s.M ++ [.arr e sz 0 []], s.w⟩ : St) = S at tt
  have hSM : S.M = s.M ++ [.arr e sz 0 []] := by rw [← hS]
  have hSw : S.w = s.w := by rw [← hS]
  have hMi : S.M[i]? = some (.flat T [.slice none 0 0]) := by rw [hSM, List.getElem?_append_left hil]; exact hi
  have hβlen : s.M.length < S.β.length := by rw [← hS]; simp [hlen]
  have hβn : S.β[s.M.length]? = some (.slice none 0 0) := by rw [← hS]; simp [hlen]
  obtain ⟨hd, hβi⟩ : ∃ hd, S.β[i]? = some hd := ⟨_, List.getElem?_eq_getElem (by omega)⟩
  obtain ⟨b, rfl, hb⟩ := tt.ok.blk i _ _ hMi hβi
  have t3 : Tr S ⟨S.β.set i (.pointer (some ⟨b, 0, none⟩)), S.I, S.M.set i (.mix T [.arr s.M.length]), S.w⟩ := by
    have hlv : Live S b := live_of hMi rfl hβi rfl
    refine step_set tt.ok i S.M (.pointer (some ⟨b, 0, none⟩)) (.mix T [.arr s.M.length]) S.w rfl (fun _ _ h => .inl h) (List.getElem?_eq_some_iff.1 hMi).1 (.inr (.inl hβi)) (by simp) ?_ (fun c hc j k h hne h1 h2 h3 h4 => ?_) (fun c hc => by cases hc; exact .inr hlv) (fun c hc => by cases hc; exact (tt.ok.lt b hlv).1) (fun _ => False) (fun _ h => h.elim) (fun _ _ _ _ => rfl) rfl rfl rfl (Nat.le_refl _)
    · refine ⟨b, [.slice none 0 0], rfl, hb, rfl, fun j d v h1 h2 => ?_⟩
      cases j with
      | zero =>
        simp at h1 h2
        subst h1 h2
        exact .arr (by rw [List.getElem?_set_ne (by omega)]; exact hβn)
      | succ j => simp at h1
    · cases hc
      exact hne (tt.ok.inj j i k _ h _ b h1 h2 h3 h4 hMi rfl hβi rfl)
  have ttt := tt.trans t3
  refine ⟨h0, ⟨S.β.set i (.pointer (some ⟨b, 0, none⟩)), S.I, S.M.set i (.mix T [.arr s.M.length]), S.w⟩, by simp only [hSM], hSw, h3.trans ttt, fun x d hd => (h4 x d hd).mono h3.ok ttt, h5, h6.mono h3.ok ttt⟩
theorem dwp_adoptm {c : Code} {F : Fr} {M M' : List Blk} {K : Cont} {T : TypeId} (i : Nat) (e : TypeId) (sz : Nat) (hi : M[i]? = some (.flat T [.slice none 0 0])) (hM : (M ++ [Blk.arr e sz 0 []]).set i (.mix T [.arr M.length]) = M') (h : dwp P s0 n c F M' K) : dwp P s0 n c F M K := by
  subst hM
  exact fun a w hv => h a w (inv_adoptm e sz hv hi)
/-- a loop whose first rounds were walked by hand -/
theorem dloop_inv {α : Type} {c : Code} {F : Fr} {M : List Blk} {K : Cont} (J : α → Fr) (JM : α → List Blk) (Pr : α → Prop) (μ : α → Nat) (x0 : α) (h0 : Pr x0)
    (hin : ∀ a w, Inv s0 n F M a w → Inv s0 n (J x0) (JM x0) a w)
    (round : ∀ x, Pr x → dwp P s0 n c (J x) (JM x) (Kseq (fun F' M' => ∃ y, Pr y ∧ μ y < μ x ∧ ∀ a w, Inv s0 n F' M' a w → Inv s0 n (J y) (JM y) a w) K)) : dloop P s0 n c F M K := by
  intro a0 w0 hi0
  intro b k cs hro hb hr
  have key : ∀ m x a w, μ x = m → Pr x → Inv s0 n (J x) (JM x) a w → ∃ e a' w', PostK s0 n K e a' w' ∧ ArrivesIn (Machine.fenced P (wd (n.ρ s0))) P (lone (b.atR a (.code c :: .inLoop c :: k)) cs w) b k cs e a' w' := by
    intro m
    induction m using Nat.strongRecOn with
    | _ m ih =>
      intro x a w hm hp hi
      obtain ⟨e, a₁, w₁, hq, harr⟩ := round x hp a w hi b (.inLoop c :: k) cs hro hb hr
      cases e with
      | normal =>
        obtain ⟨F', M', hi', y, hy, hlt, hback⟩ := hq
        obtain ⟨e₂, a₂, w₂, hq₂, harr₂⟩ := ih (μ y) (hm ▸ hlt) y a₁ w₁ rfl hy (hback _ _ hi')
        exact ⟨e₂, a₂, w₂, hq₂, .of_steps (StepsIn.trans harr (.one (fenced_calm hb hr rfl) stepR_inLoop)) harr₂⟩
      | exit id => exact ⟨.exit id, a₁, w₁, hq, .pass (x := .inLoop c) rfl (fun _ _ => .inl (by simp)) harr⟩
      | goto l => exact ⟨.goto l, a₁, w₁, hq, .pass (x := .inLoop c) rfl (fun _ _ => .inl (by simp)) harr⟩
      | ret => exact ⟨.ret, a₁, w₁, hq, .pass (x := .inLoop c) rfl (fun _ _ => .inl (by simp)) harr⟩
      | panic ch => exact ⟨.panic ch, a₁, w₁, hq, .pass (x := .inLoop c) rfl (fun _ _ => .inl (by simp)) harr⟩
      | outgrown => exact ⟨.outgrown, a₁, w₁, hq, .pass (x := .inLoop c) rfl (fun _ _ => .inl (by simp)) harr⟩
  exact key _ x0 a0 w0 rfl h0 (hin _ _ hi0)
theorem dloopS {α : Type} {c : Code} {F : Fr} {M : List Blk} {K : Cont} (hg : Gs s0 n) (dyn : α → Fr) (stat : Fr) (dynM : α → List (Nat × Blk)) (Mst : List Blk) (Pr : α → Prop) (μ : α → Nat) (x0 : α) (σ0 : List Nat) (h0 : Pr x0)
    (hσ0 : okσ n.k σ0 = true) (hF0 : Fits F σ0 M stat) (hF1 : Fits F σ0 M (dyn x0)) (hM0 : MFits σ0 nov M σ0 (upd Mst (dynM x0)))
    (round : ∀ x, Pr x → dwp P s0 n c (dyn x ++ stat) (upd Mst (dynM x)) (Kseq (Again n.k (fun x => dyn x ++ stat) (fun x => upd Mst (dynM x)) Pr μ x) K)) : dloop P s0 n c F M K := by
  refine dloop_inv (fun x => dyn x ++ stat) (fun x => upd Mst (dynM x)) Pr μ x0 h0 (fun a w hi => inv_ren hi hg hσ0 (fits_app hF1 hF0) hM0) fun x hx => dwp_mono (round x hx) ?_
  intro e F' M' hk
  cases e with
  | normal => obtain ⟨y, σ, h1, h2, h3, h4, h5⟩ := hk; exact ⟨y, h1, h2, fun a w hi => inv_ren hi hg h3 h4 h5⟩
  | exit id => exact hk
  | goto l => exact hk
  | ret => exact hk
  | panic d => exact hk
end

section
variable {α : Type} [DecidableEq α] {P : Program} {K E T : TypeId} {en : α → List Value} {pc : Bool} {o : Oper} {F : Fr} {M : List Blk} {x y z : Operand}
theorem op_men2 {i : Nat} {k : α} {m : List (α × Int)} (hT : mpT P T = some (K, E)) (hE : zrV P E = some (.int .i64 0)) (hk : KeyT P K en) (ho : o.op = .mapEntry T x y) (hx : Ev pc F x (.hnd i)) (hy : Ev pc F y (.val (.agg (en k).toArray))) (hM : M[i]? = some (.obj (mapO en m))) :
    DOp P pc o F M [i] (.tup [.val (.int .i64 (getM k m)), .val (.int .i64 (posM k (setM k (getM k m) m)))]) [(i, .obj (mapO en (setM k (getM k m) m)))] := by
  rw [posM_set]
  exact op_men hT hE hk ho hx hy hM
theorem op_est2 {i : Nat} {k : α} {m : List (α × Int)} {v v0 : Int} (ho : o.op = .entryStore T x y z) (hx : Ev pc F x (.hnd i)) (hy : Ev pc F y (.val (.int .i64 (posM k (setM k v0 m))))) (hz : Ev pc F z (.val (.int .i64 v))) (hM : M[i]? = some (.obj (mapO en (setM k v0 m)))) : DOp P pc o F M [i] .junk [(i, .obj (mapO en (setM k v m)))] := by
  have h := op_est (P := P) (en := en) (fun _ => hasM_set (v := v0) (k := k) m) ho hx hy hz hM
  rwa [setM_set] at h
theorem getM_set {k k' : α} {v : Int} : ∀ (m : List (α × Int)), getM k' (setM k v m) = if k' = k then v else getM k' m
  | [] => by
    rw [setM, getM]
    rfl
  | (a, w) :: r => by
    rw [setM]
    by_cases h : k = a
    · subst h
      rw [if_pos rfl, getM, getM]
      by_cases h2 : k' = k
      · rw [if_pos h2, if_pos h2]
      · rw [if_neg h2, if_neg h2, if_neg h2]
    · rw [if_neg h, getM, getM, getM_set r]
      by_cases h2 : k' = a
      · rw [if_pos h2, if_pos h2, if_neg (fun e => h (by rw [← e, h2]))]
      · rw [if_neg h2, if_neg h2]
end
end Go.Proofs.Ytgomklemldldiaa
