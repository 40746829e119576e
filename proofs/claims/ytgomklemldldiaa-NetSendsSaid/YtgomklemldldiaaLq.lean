/- Codes within a function; a loop's rounds one by one; strings. No condition. -/
import Derived.Test.YtgomklemldldiaaLp
namespace Go.Proofs.Ytgomklemldldiaa
set_option linter.unusedVariables false
set_option linter.unusedSimpArgs false
open Go.RowKit

def bodyOf (f : Func) : Code := f.body.getD .skip
/-- a code within a code -/
def pth : List Nat → Code → Code
  | [], c => c
  | 0 :: r, .seq a _ => pth r a
  | _ :: r, .seq _ b => pth r b
  | _ :: r, .block _ b => pth r b
  | _ :: r, .scope b => pth r b
  | _ :: r, .loop b => pth r b
  | 0 :: r, .cond _ a _ => pth r a
  | _ :: r, .cond _ _ b => pth r b
  | _, c => c
def rfA : Code → Code
  | .rangeFunc _ _ a _ => a
  | c => c
def rfB : Code → Code
  | .rangeFunc _ _ _ b => b
  | c => c
def rst : Bool → LoopState
  | true => .ready
  | false => .done
def rpe (c : Code) : Bool → Option Code
  | true => none
  | false => some c
theorem rst_busy (r : Bool) : rst r ≠ .busy := by cases r <;> simp [rst]
def subF (F : Fr) : Fr → Prop
  | [] => True
  | (t, d) :: r => lk F t = some d ∧ subF F r
theorem subF_lk {F : Fr} : ∀ {FL : Fr}, subF F FL → ∀ t d, lk FL t = some d → lk F t = some d
  | [], _, t, d, h => by cases h
  | (k, x) :: r, h, t, d, hd => by
    rw [lk_cons] at hd
    split at hd
    · rename_i e; subst e; obtain rfl := Option.some.inj hd; exact h.1
    · exact subF_lk h.2 t d hd

theorem flat_oc {α : Type} {en : α → List Value} (h : ∀ a, (en a).all (·.oneCell') = true) (l : List α) : (l.flatMap en).all (·.oneCell') = true := by
  induction l with
  | nil => rfl
  | cons a l ih => rw [List.flatMap_cons, List.all_append, h, ih]; rfl

/-- an element, where there is one -/
theorem op_ixsg {P : Program} {pc : Bool} {o : Oper} {F : Fr} {M : List Blk} {T e : TypeId} {sz by' : Nat} {x y : Operand} {k : IntKind} {z : Int} {α : Type} {en : α → List Value} {l : List α} {j : Nat} (a0 : α) (ho : o.op = .indexAddr T x y) (hT : slE P T = some (e, sz, by')) (hx : Ev pc F x (.slf sz l.length (l.flatMap en))) (hy : Ev pc F y (.val (.int k z))) (hen : ∀ a, (en a).length = sz) (hsz : 0 < sz) (hz : pc = true → z = (j : Int)) (hj : pc = true → j < l.length) : DOp P pc o F M [] (.dpf (en (l.getD j a0))) [] := fun hp => by
  have h := op_ixsr (M := M) ho hT hx hy hen hsz (hz hp) (hj hp) hp
  rw [show l.getD j a0 = l[j]'(hj hp) by simp [List.getD_eq_getElem?_getD, hj hp]]
  exact h

theorem getD_at {α : Type} {l : List α} {j : Nat} {a0 : α} (h : j < l.length) : l.getD j a0 = l[j] := by simp [List.getD_eq_getElem?_getD, h]
theorem arr_eq {T : TypeId} {sz n n' : Nat} {L L' : List Value} (h : n = n') (h' : L = L') : some (Blk.arr T sz n L) = some (Blk.arr T sz n' L') := by rw [h, h']
theorem part_oc {L : List Value} (h : L.all (·.oneCell') = true) (a b : Nat) : ((L.drop a).take b).all (·.oneCell') = true :=
  List.all_eq_true.2 fun x hx => List.all_eq_true.1 h x (List.mem_of_mem_drop (List.mem_of_mem_take hx))
/-- an element of a row of its own, where there is one -/
theorem op_ldarg {P : Program} {pc : Bool} {o : Oper} {F : Fr} {M : List Blk} {T T' : TypeId} {x : Operand} {i j sz n : Nat} {α : Type} {en : α → List Value} {l : List α} (a0 : α) (ho : o.op = .load T x) (hT : tyB P T = some (true, sz)) (hx : Ev pc F x (.aloc i (j * sz))) (hM : M[i]? = some (.arr T' sz n (l.flatMap en))) (hen : ∀ a, (en a).length = sz) (hj : pc = true → j < l.length) : DOp P pc o F M [i] (.val (.agg (en (l.getD j a0)).toArray)) [] := fun hp => by
  have h := op_ldar ho hT hx hM hen (hj hp) hp
  rw [show l.getD j a0 = l[j]'(hj hp) by simp [List.getD_eq_getElem?_getD, hj hp]]
  exact h

section
variable {P : Program} {s0 : St} {n : Cx}
theorem fits_app {F : Fr} {σ : List Nat} {M : List Blk} : ∀ {A B : Fr}, Fits F σ M A → Fits F σ M B → Fits F σ M (A ++ B)
  | [], _, _, h => h
  | _ :: _, _, ⟨h1, h2⟩, h => ⟨h1, fits_app h2 h⟩
/-- a loop some of whose slots and blocks turn -/
theorem dwp_loopS {α : Type} {c : Code} {F : Fr} {M : List Blk} {K : Cont} (hg : Gs s0 n) (dyn : α → Fr) (stat : Fr) (dynM : α → List (Nat × Blk)) (Mst : List Blk) (Pr : α → Prop) (μ : α → Nat) (x0 : α) (σ0 : List Nat) (h0 : Pr x0)
    (hσ0 : okσ n.k σ0 = true) (hF0 : Fits F σ0 M stat) (hF1 : Fits F σ0 M (dyn x0)) (hM0 : MFits σ0 nov M σ0 (upd Mst (dynM x0)))
    (round : ∀ x, Pr x → dwp P s0 n c (dyn x ++ stat) (upd Mst (dynM x)) (Kseq (Again n.k (fun x => dyn x ++ stat) (fun x => upd Mst (dynM x)) Pr μ x) K)) : dwp P s0 n (.loop c) F M K :=
  dwp_loop hg (fun x => dyn x ++ stat) (fun x => upd Mst (dynM x)) Pr μ x0 σ0 h0 hσ0 (fits_app hF1 hF0) hM0 round
/-- a loop, at the head of a round -/
def dloop (P : Program) (s0 : St) (n : Cx) (c : Code) (F : Fr) (M : List Blk) (K : Cont) : Prop := ∀ a w, Inv s0 n F M a w → ∀ (b : Frame) (k : List Item) (cs : List Frame), b.roundOf = (wd (n.ρ s0)).round → (wd (n.ρ s0)).fn b.fn → (wd (n.ρ s0)).room (cs.length + 1 + 0) →
  ∃ e a' w', PostK s0 n K e a' w' ∧ ArrivesIn (Machine.fenced P (wd (n.ρ s0))) P (lone (b.atR a (.code c :: .inLoop c :: k)) cs w) b k cs e a' w'
theorem dwp_dloop {c : Code} {F : Fr} {M : List Blk} {K : Cont} (h : dloop P s0 n c F M K) : dwp P s0 n (.loop c) F M K := by
  intro a w hi b k cs hro hb hr
  obtain ⟨e, a', w', hq, harr⟩ := h a w hi b k cs hro hb hr
  exact ⟨e, a', w', hq, .of_steps (.one (fenced_calm hb hr rfl) stepR_loop) harr⟩
theorem dloop_step {c : Code} {F : Fr} {M : List Blk} {K : Cont} (h : dwp P s0 n c F M (Kseq (fun F M => dloop P s0 n c F M K) K)) : dloop P s0 n c F M K := by
  intro a w hi b k cs hro hb hr
  obtain ⟨e, a₁, w₁, hq, harr⟩ := h a w hi b (.inLoop c :: k) cs hro hb hr
  cases e with
  | normal =>
    obtain ⟨F', M', hi', hl⟩ := hq
    obtain ⟨e₂, a₂, w₂, hq₂, harr₂⟩ := hl a₁ w₁ hi' b k cs hro hb hr
    exact ⟨e₂, a₂, w₂, hq₂, .of_steps (StepsIn.trans harr (.one (fenced_calm hb hr rfl) stepR_inLoop)) harr₂⟩
  | exit id => exact ⟨.exit id, a₁, w₁, hq, .pass (x := .inLoop c) rfl (fun _ _ => .inl (by simp)) harr⟩
  | goto l => exact ⟨.goto l, a₁, w₁, hq, .pass (x := .inLoop c) rfl (fun _ _ => .inl (by simp)) harr⟩
  | ret => exact ⟨.ret, a₁, w₁, hq, .pass (x := .inLoop c) rfl (fun _ _ => .inl (by simp)) harr⟩
  | panic ch => exact ⟨.panic ch, a₁, w₁, hq, .pass (x := .inLoop c) rfl (fun _ _ => .inl (by simp)) harr⟩
  | outgrown => exact hq.elim
end
end Go.Proofs.Ytgomklemldldiaa
