/- Names of blocks, turned into others; blocks that are looked at as memory that stays. No condition. -/
import Derived.Test.YtgomklemldldiaaLc
namespace Go.Proofs.Ytgomklemldldiaa
set_option linter.unusedVariables false
set_option linter.unusedSimpArgs false
open Go.RowKit

def pos : List Nat → Nat → Option Nat
  | [], _ => none
  | j :: r, i => bif Nat.beq j i then some 0 else (pos r i).map (· + 1)
theorem pos_spec : ∀ (σ : List Nat) (i j : Nat), pos σ i = some j → σ[j]? = some i
  | [], i, j, h => by cases h
  | k :: r, i, j, h => by
    unfold pos at h
    cases e : Nat.beq k i with
    | true => rw [e] at h; cases h; simp [Nat.eq_of_beq_eq_true e]
    | false =>
      rw [e] at h
      simp only [cond_false, Option.map_eq_some_iff] at h
      obtain ⟨m, hm, rfl⟩ := h
      simpa using pos_spec r i m hm
theorem pos_none : ∀ (σ : List Nat) (i : Nat), pos σ i = none → i ∉ σ
  | [], i, _ => by simp
  | k :: r, i, h => by
    unfold pos at h
    cases e : Nat.beq k i with
    | true => rw [e] at h; cases h
    | false =>
      rw [e] at h
      simp only [cond_false, Option.map_eq_none_iff] at h
      intro hm
      rcases List.mem_cons.1 hm with rfl | hm
      · simp at e
      · exact pos_none r i h hm

def vwLoc (V : Nat → Bool) (M : List Blk) (i o : Nat) : Option D :=
  bif V i then (match M[i]? with
    | some (.flat _ L) => some (.dpf (L.drop o))
    | some (.mix _ l) => bif D.nlL l then some (.dpm (l.drop o)) else none
    | _ => none) else none
def vwArr0 (V : Nat → Bool) (M : List Blk) (i : Nat) : Option D :=
  bif V i then (match M[i]? with
    | some (.arr _ sz n L) => some (.slf sz n L)
    | _ => none) else none
def vwAloc (V : Nat → Bool) (M : List Blk) (i o : Nat) : Option D :=
  bif V i then (match M[i]? with
    | some (.arr _ _ _ L) => some (.dpf (L.drop o))
    | some (.arx _ _ _ l) => bif D.nlL l then some (.dpm (l.drop o)) else none
    | _ => none) else none
def vwOwn (V : Nat → Bool) (M : List Blk) (i sz o n : Nat) : Option D :=
  bif V i then (match M[i]? with
    | some (.arr _ sz' _ L) => bif Nat.beq sz sz' then some (.slf sz n ((L.drop (o * sz)).take (n * sz))) else none
    | _ => none) else none

/-- members of families, looked at -/
def vwFloc (V : Nat → Bool) (M : List Blk) (i k o : Nat) : Option D :=
  bif V i then (match M[i]? with
    | some (.fam Bs) => match Bs[k]? with
      | some (.flat _ L) => some (.dpf (L.drop o))
      | _ => none
    | _ => none) else none
def vwFarr (V : Nat → Bool) (M : List Blk) (i k : Nat) : Option D :=
  bif V i then (match M[i]? with
    | some (.fam Bs) => match Bs[k]? with
      | some (.arr _ sz n L) => some (.slf sz n L)
      | _ => none
    | _ => none) else none
def vwFaloc (V : Nat → Bool) (M : List Blk) (i k o : Nat) : Option D :=
  bif V i then (match M[i]? with
    | some (.fam Bs) => match Bs[k]? with
      | some (.arr _ _ _ L) => some (.dpf (L.drop o))
      | _ => none
    | _ => none) else none
/-- what a row of one's own holds, looked at as memory that stays -/
def vw1 (σ : List Nat) (V : Nat → Bool) (M : List Blk) : D → Option D
  | .arr i => match pos σ i with
    | some _ => none
    | none => vwArr0 V M i
  | .own i sz o n => match pos σ i with
    | some _ => none
    | none => vwOwn V M i sz o n
  | .farr i k => match pos σ i with
    | some _ => none
    | none => vwFarr V M i k
  | .floc i k o => match pos σ i with
    | some _ => none
    | none => vwFloc V M i k o
  | d => bif d.nl then some d else none
def vw1L (σ : List Nat) (V : Nat → Bool) (M : List Blk) : List D → Option (List D)
  | [] => some []
  | d :: l => match vw1 σ V M d, vw1L σ V M l with
    | some d', some l' => some (d' :: l')
    | _, _ => none
def vwArr (σ : List Nat) (V : Nat → Bool) (M : List Blk) (i : Nat) : Option D :=
  bif V i then (match M[i]? with
    | some (.arr _ sz n L) => some (.slf sz n L)
    | some (.arx _ sz n l) => (vw1L σ V M l).map (.slm sz n)
    | _ => none) else none

mutual
/-- as it reads where the blocks σ have the names 0, 1, .., and those of V are looked at as memory that stays -/
def vw (σ : List Nat) (V : Nat → Bool) (M : List Blk) : D → Option D
  | .val v => some (.val v)
  | .loc i o => match pos σ i with
    | some j => some (.loc j o)
    | none => vwLoc V M i o
  | .arr i => match pos σ i with
    | some j => some (.arr j)
    | none => vwArr σ V M i
  | .aloc i o => match pos σ i with
    | some j => some (.aloc j o)
    | none => vwAloc V M i o
  | .own i sz o n => match pos σ i with
    | some j => some (.own j sz o n)
    | none => vwOwn V M i sz o n
  | .dpf L => some (.dpf L)
  | .slf sz n L => some (.slf sz n L)
  | .slc sz n L => some (.slc sz n L)
  | .tup l => (vwL σ V M l).map .tup
  | .agg l => (vwL σ V M l).map .agg
  | .dpm l => some (.dpm l)
  | .slm sz n l => some (.slm sz n l)
  | .fn f a b => match vwL σ V M a, vwL σ V M b with
    | some a', some b' => some (.fn f a' b')
    | _, _ => none
  | .ifc t d => (vw σ V M d).map (.ifc t)
  | .opt b d => (vw σ V M d).map (.opt b)
  | .hnd i => match pos σ i with
    | some j => some (.hnd j)
    | none => none
  | .yld i => match pos σ i with
    | some j => some (.yld j)
    | none => none
  | .floc i k o => match pos σ i with
    | some j => some (.floc j k o)
    | none => vwFloc V M i k o
  | .farr i k => match pos σ i with
    | some j => some (.farr j k)
    | none => vwFarr V M i k
  | .faloc i k o => match pos σ i with
    | some j => some (.faloc j k o)
    | none => vwFaloc V M i k o
  | .junk => some .junk
def vwL (σ : List Nat) (V : Nat → Bool) (M : List Blk) : List D → Option (List D)
  | [] => some []
  | d :: l => match vw σ V M d, vwL σ V M l with
    | some d', some l' => some (d' :: l')
    | _, _ => none
end
def vwF (σ : List Nat) (V : Nat → Bool) (M : List Blk) : List (Nat × D) → Option (List (Nat × D))
  | [] => some []
  | (t, d) :: l => match vw σ V M d, vwF σ V M l with
    | some d', some l' => some ((t, d') :: l')
    | _, _ => none
def vwB (σ : List Nat) (V : Nat → Bool) (M : List Blk) : Blk → Option Blk
  | .mix T l => (vwL σ V M l).map (.mix T)
  | .arx T sz n l => (vwL σ V M l).map (.arx T sz n)
  | .lp n F ps asg body st pe => (vwF σ V M F).map fun F' => .lp n F' ps asg body st pe
  | k => some k
def vwMs (σ : List Nat) (V : Nat → Bool) (M : List Blk) : List Nat → Option (List Blk)
  | [] => some []
  | i :: r => match M[i]?, vwMs σ V M r with
    | some k, some r' => (vwB σ V M k).map (· :: r')
    | _, _ => none

theorem vwL_spec {σ : List Nat} {V : Nat → Bool} {M : List Blk} : ∀ (l l' : List D), vwL σ V M l = some l' → l'.length = l.length ∧ ∀ (j : Nat) d', l'[j]? = some d' → ∃ d, l[j]? = some d ∧ vw σ V M d = some d'
  | [], l', h => by unfold vwL at h; cases h; exact ⟨rfl, fun j d h => by simp at h⟩
  | d :: l, l', h => by
    unfold vwL at h
    cases e1 : vw σ V M d with
    | none => rw [e1] at h; simp at h
    | some d1 =>
      cases e2 : vwL σ V M l with
      | none => rw [e1, e2] at h; simp at h
      | some l1 =>
        rw [e1, e2] at h
        obtain rfl := Option.some.inj h
        obtain ⟨h1, h2⟩ := vwL_spec l l1 e2
        refine ⟨by simp [h1], fun j d' hj => ?_⟩
        cases j with
        | zero => simp at hj; subst hj; exact ⟨d, rfl, e1⟩
        | succ j => simp at hj; obtain ⟨x, hx, hx2⟩ := h2 j d' hj; exact ⟨x, by simpa using hx, hx2⟩
theorem vwF_spec {σ : List Nat} {V : Nat → Bool} {M : List Blk} : ∀ (l l' : List (Nat × D)), vwF σ V M l = some l' → ∀ t d', lk l' t = some d' → ∃ d, lk l t = some d ∧ vw σ V M d = some d'
  | [], l', h => by unfold vwF at h; cases h; intro t d h; cases h
  | (k, d) :: l, l', h => by
    unfold vwF at h
    cases e1 : vw σ V M d with
    | none => rw [e1] at h; simp at h
    | some d1 =>
      cases e2 : vwF σ V M l with
      | none => rw [e1, e2] at h; simp at h
      | some l1 =>
        rw [e1, e2] at h
        obtain rfl := Option.some.inj h
        intro t d' hd
        rw [lk_cons] at hd ⊢
        by_cases e : k = t
        · rw [if_pos e] at hd ⊢; cases hd; exact ⟨d, rfl, e1⟩
        · rw [if_neg e] at hd ⊢; exact vwF_spec l l1 e2 t d' hd
theorem vwMs_spec {σ : List Nat} {V : Nat → Bool} {M : List Blk} : ∀ (τ : List Nat) (M' : List Blk), vwMs σ V M τ = some M' → M'.length = τ.length ∧ ∀ (j : Nat) k', M'[j]? = some k' → ∃ i k, τ[j]? = some i ∧ M[i]? = some k ∧ vwB σ V M k = some k'
  | [], M', h => by unfold vwMs at h; cases h; exact ⟨rfl, fun j d h => by simp at h⟩
  | i :: r, M', h => by
    unfold vwMs at h
    cases e1 : M[i]? with
    | none => rw [e1] at h; simp at h
    | some k =>
      cases e2 : vwMs σ V M r with
      | none => rw [e1, e2] at h; simp at h
      | some r1 =>
        rw [e1, e2] at h
        simp only [Option.map_eq_some_iff] at h
        obtain ⟨k1, hk1, rfl⟩ := h
        obtain ⟨h1, h2⟩ := vwMs_spec r r1 e2
        refine ⟨by simp [h1], fun j d' hj => ?_⟩
        cases j with
        | zero => simp at hj; subst hj; exact ⟨i, k, rfl, e1, hk1⟩
        | succ j => simp at hj; obtain ⟨x, y, hx, hx2⟩ := h2 j d' hj; exact ⟨x, y, by simpa using hx, hx2⟩
theorem vwB_owns {σ : List Nat} {V : Nat → Bool} {M : List Blk} {k k' : Blk} (h : vwB σ V M k = some k') {x : Value} {b : Nat} : owns k' x b ↔ owns k x b := by
  cases k <;> simp only [vwB, Option.some.injEq, Option.map_eq_some_iff] at h
  case mix T l => obtain ⟨a, _, rfl⟩ := h; exact Iff.rfl
  case arx T sz n l => obtain ⟨a, _, rfl⟩ := h; exact Iff.rfl
  case lp n F ps asg body st pe => obtain ⟨a, _, rfl⟩ := h; exact Iff.rfl
  all_goals (subst h; exact Iff.rfl)
theorem vwB_live {σ : List Nat} {V : Nat → Bool} {M : List Blk} {k k' : Blk} (h : vwB σ V M k = some k') : k'.live = k.live := by
  cases k <;> simp only [vwB, Option.some.injEq, Option.map_eq_some_iff] at h
  case mix T l => obtain ⟨a, _, rfl⟩ := h; rfl
  case arx T sz n l => obtain ⟨a, _, rfl⟩ := h; rfl
  case lp n F ps asg body st pe => obtain ⟨a, _, rfl⟩ := h; rfl
  all_goals (subst h; rfl)

/-- the memory as another one names it -/
def Vis (s : St) (σ : List Nat) (V : Nat → Bool) (b : Nat) : Prop := ∃ (i : Nat) (k : Blk) (h : Value), V i = true ∧ i ∉ σ ∧ s.M[i]? = some k ∧ k.live = true ∧ s.β[i]? = some h ∧ owns k h b
def vst (s : St) (σ : List Nat) (V : Nat → Bool) (M' : List Blk) : St := ⟨σ.map fun i => s.β.getD i .nilFunc, fun b => s.I b ∨ Vis s σ V b, M', s.w⟩

theorem vst_hnd {s : St} {σ : List Nat} {V : Nat → Bool} {M' : List Blk} {i j : Nat} {h : Value} (hj : σ[j]? = some i) (hi : s.β[i]? = some h) : (vst s σ V M').β[j]? = some h := by
  show (σ.map fun i => s.β.getD i .nilFunc)[j]? = some h
  rw [List.getElem?_map, hj]
  simp [hi]
theorem cellsAt_block {w : World} {b : Nat} {cs : Array Value} {T : TypeId} {f : Nat × Nat} (h : w.heap[b]? = some (.cells cs T f)) (o : Nat) : cellsAt w b o (cs.toList.drop o) := by
  intro j v hj
  rw [cell_of_row w b (o + j) cs T f h]
  simpa [List.getElem?_drop] using hj
theorem cellsAt_sub {w : World} {b o : Nat} {L : List Value} (h : cellsAt w b o L) (p q : Nat) : cellsAt w b (o + p) ((L.drop p).take q) := by
  intro j v hj
  rw [List.getElem?_take] at hj
  split at hj
  · rw [List.getElem?_drop] at hj
    rw [Nat.add_assoc]
    exact h _ v hj
  · cases hj
theorem nlL_mem : ∀ {l : List D} {j : Nat} {d : D}, D.nlL l = true → l[j]? = some d → d.nl = true
  | d :: l, 0, e, h, hj => by simp at hj; subst hj; unfold D.nlL at h; simp at h; exact h.1
  | d :: l, j + 1, e, h, hj => by unfold D.nlL at h; simp at h hj; exact nlL_mem h.2 hj
theorem nlL_drop : ∀ {l : List D} (o : Nat), D.nlL l = true → D.nlL (l.drop o) = true
  | l, 0, h => by simpa using h
  | [], o + 1, h => by simp [D.nlL]
  | d :: l, o + 1, h => by unfold D.nlL at h; simp at h; simpa using nlL_drop o h.2

/-- data without names reads so wherever the memory that stays is as much, at least -/
theorem Rep.nl {s s' : St} (up : ∀ b, s.I b → s'.I b) (imm : ∀ b, s.I b → s'.w.heap[b]? = s.w.heap[b]?) {d : D} {v : Value} (h : Rep s d v) : d.nl = true → Rep s' d v := by
  induction h with
  | val v => intro _; exact .val v
  | loc h => intro e; cases e
  | arr h => intro e; cases e
  | aloc h => intro e; cases e
  | own h => intro e; cases e
  | ownnil h => intro e; cases e
  | dpf hI h => intro _; exact .dpf (up _ hI) (cellsAt_of (imm _ hI) h)
  | slf hl hn hc ha h => intro _; exact .slf hl hn hc ha (h.imp id fun ⟨b, o, e, hI, h⟩ => ⟨b, o, e, up _ hI, cellsAt_of (imm _ hI) h⟩)
  | slc hl hc ha h => intro _; exact .slc hl hc ha (h.imp id fun ⟨b, o, e, hI, h⟩ => ⟨b, o, e, up _ hI, cellsAt_of (imm _ hI) h⟩)
  | tup hl _ ih => intro e; exact .tup hl fun j d v hj hv => ih j d v hj hv (nlL_mem (by simpa [D.nl] using e) hj)
  | agg hl _ ih => intro e; exact .agg hl fun j d v hj hv => ih j d v hj hv (nlL_mem (by simpa [D.nl] using e) hj)
  | dpm hnl hI hc hl _ ih => intro _; exact .dpm hnl (up _ hI) (cellsAt_of (imm _ hI) hc) hl fun j d v hj hv => ih j d v hj hv (nlL_mem hnl hj)
  | slm hnl hl hn hc ha hv _ hm ih => intro _; exact .slm hnl hl hn hc ha hv (fun j d v hj hv => ih j d v hj hv (nlL_mem hnl hj)) (hm.imp id fun ⟨b, o, e, hI, h⟩ => ⟨b, o, e, up _ hI, cellsAt_of (imm _ hI) h⟩)
  | fn hl hk _ _ ih ih' =>
    intro e
    simp only [D.nl, Bool.and_eq_true] at e
    exact .fn hl hk (fun j d v hj hv => ih j d v hj hv (nlL_mem e.1 hj)) (fun j d v hj hv => ih' j d v hj hv (nlL_mem e.2 hj))
  | ifc _ ih => intro e; exact .ifc (ih (by simpa [D.nl] using e))
  | opt _ hu ih => intro e; exact .opt (fun hb => ih hb (by simpa [D.nl] using e)) hu
  | hnd h => intro e; cases e
  | yld h => intro e; cases e
  | floc h => intro e; cases e
  | farr h => intro e; cases e
  | faloc h => intro e; cases e
  | junk v => intro _; exact .junk v

theorem addr_lit (b o n : Nat) : (⟨b, o, none⟩ : Addr).add n = ⟨b, o + n, none⟩ := by unfold Addr.add; split <;> simp_all

theorem vwArr0_rep {s : St} (ho : Ok s) {σ : List Nat} {V : Nat → Bool} {M' : List Blk} {i n c : Nat} {a : Option Addr} (h : s.β[i]? = some (.slice a n c)) (hp : pos σ i = none) {d' : D} (e : vwArr0 V s.M i = some d') : d'.nl = true ∧ Rep (vst s σ V M') d' (.slice a n c) := by
  simp only [vwArr0] at e
  cases hv : V i with
  | false => rw [hv] at e; cases e
  | true =>
    rw [hv] at e
    simp only [cond_true] at e
    split at e
    · rename_i T sz m L hM
      cases e
      refine ⟨rfl, ?_⟩
      have hk : s.w.ownsRow 0 T sz _ m L := ho.blk i _ _ hM h
      rcases hk.2 with ⟨e1, e2⟩ | ⟨g, cap, cur, e1, e2, e3, e4, e5, e6, e7⟩
      · cases e1; subst e2
        exact .slf hk.1 (Nat.le_refl _) (Nat.zero_le _) (fun _ => rfl) (.inl (List.eq_nil_of_length_eq_zero (by simpa using hk.1)))
      · cases e1
        refine .slf hk.1 e4 e5 (fun e => by cases e) (.inr ⟨g, 0, rfl, .inr ⟨i, _, _, hv, pos_none σ i hp, hM, rfl, h, rfl⟩, ?_⟩)
        have hc := cellsAt_sub (cellsAt_block e3 0) 0 (n * sz)
        show cellsAt s.w g 0 L
        simpa [e7] using hc
    · cases e
theorem fam_at {s : St} (ho : Ok s) {i k : Nat} {Bs : List Mem} {hs : List Value} (hM : s.M[i]? = some (.fam Bs)) (h : s.β[i]? = some (.tuple hs.toArray)) : FamOk s.w hs Bs := by
  obtain ⟨hs', e, hf⟩ := ho.blk i _ _ hM h
  have e1 : hs = hs' := by simpa using e
  subst e1
  exact hf
theorem vwFloc_rep {s : St} (ho : Ok s) {σ : List Nat} {V : Nat → Bool} {M' : List Blk} {i k o b : Nat} {hs : List Value} (h : s.β[i]? = some (.tuple hs.toArray)) (hk : hs[k]? = some (.pointer (some ⟨b, 0, none⟩))) (hp : pos σ i = none) {d' : D} (e : vwFloc V s.M i k o = some d') : d'.nl = true ∧ Rep (vst s σ V M') d' (.pointer (some ⟨b, o, none⟩)) := by
  simp only [vwFloc] at e
  cases hv : V i with
  | false => rw [hv] at e; cases e
  | true =>
    rw [hv] at e
    simp only [cond_true] at e
    split at e
    · rename_i Bs hM
      split at e
      · rename_i T L hB
        cases e
        have hf := fam_at (k := k) ho hM h
        obtain ⟨b', e1, e2⟩ := hf.ok k _ _ hB hk
        cases e1
        exact ⟨rfl, .dpf (.inr ⟨i, _, _, hv, pos_none σ i hp, hM, rfl, h, hs, k, _, _, rfl, hB, rfl, hk, rfl⟩) (show cellsAt s.w b o (L.drop o) by simpa using cellsAt_block e2 o)⟩
      · cases e
    · cases e
theorem vwFarr_rep {s : St} (ho : Ok s) {σ : List Nat} {V : Nat → Bool} {M' : List Blk} {i k n c : Nat} {a : Option Addr} {hs : List Value} (h : s.β[i]? = some (.tuple hs.toArray)) (hk : hs[k]? = some (.slice a n c)) (hp : pos σ i = none) {d' : D} (e : vwFarr V s.M i k = some d') : d'.nl = true ∧ Rep (vst s σ V M') d' (.slice a n c) := by
  simp only [vwFarr] at e
  cases hv : V i with
  | false => rw [hv] at e; cases e
  | true =>
    rw [hv] at e
    simp only [cond_true] at e
    split at e
    · rename_i Bs hM
      split at e
      · rename_i T sz m L hB
        cases e
        refine ⟨rfl, ?_⟩
        have hf := fam_at (k := k) ho hM h
        have hk' : s.w.ownsRow 0 T sz _ m L := hf.ok k _ _ hB hk
        rcases hk'.2 with ⟨e1, e2⟩ | ⟨g, cap, cur, e1, e2, e3, e4, e5, e6, e7⟩
        · cases e1; subst e2
          exact .slf hk'.1 (Nat.le_refl _) (Nat.zero_le _) (fun _ => rfl) (.inl (List.eq_nil_of_length_eq_zero (by simpa using hk'.1)))
        · cases e1
          refine .slf hk'.1 e4 e5 (fun e => by cases e) (.inr ⟨g, 0, rfl, .inr ⟨i, _, _, hv, pos_none σ i hp, hM, rfl, h, hs, k, _, _, rfl, hB, rfl, hk, rfl⟩, ?_⟩)
          have hc := cellsAt_sub (cellsAt_block e3 0) 0 (n * sz)
          show cellsAt s.w g 0 L
          simpa [e7] using hc
      · cases e
    · cases e
theorem vwFaloc_rep {s : St} (ho : Ok s) {σ : List Nat} {V : Nat → Bool} {M' : List Blk} {i k o n c b : Nat} {hs : List Value} (h : s.β[i]? = some (.tuple hs.toArray)) (hk : hs[k]? = some (.slice (some ⟨b, 0, none⟩) n c)) (hp : pos σ i = none) {d' : D} (e : vwFaloc V s.M i k o = some d') : Rep (vst s σ V M') d' (.pointer (some ⟨b, o, none⟩)) := by
  simp only [vwFaloc] at e
  cases hv : V i with
  | false => rw [hv] at e; cases e
  | true =>
    rw [hv] at e
    simp only [cond_true] at e
    split at e
    · rename_i Bs hM
      split at e
      · rename_i T sz m L hB
        cases e
        have hf := fam_at (k := k) ho hM h
        have hk' : s.w.ownsRow 0 T sz _ m L := hf.ok k _ _ hB hk
        rcases hk'.2 with ⟨e1, e2⟩ | ⟨g, cap, cur, e1, e2, e3, e4, e5, e6, e7⟩
        · cases e1
        · cases e1
          refine .dpf (.inr ⟨i, _, _, hv, pos_none σ i hp, hM, rfl, h, hs, k, _, _, rfl, hB, rfl, hk, rfl⟩) ?_
          have hc := cellsAt_sub (cellsAt_block e3 0) 0 (n * sz)
          have hc1 : cellsAt s.w b 0 L := by simpa [e7] using hc
          have hc2 := cellsAt_sub hc1 o L.length
          rw [Nat.zero_add, List.take_of_length_le (by rw [List.length_drop]; omega)] at hc2
          exact hc2
      · cases e
    · cases e
theorem vwOwn_rep {s : St} (ho : Ok s) {σ : List Nat} {V : Nat → Bool} {M' : List Blk} {i sz o n : Nat} {v : Value} (h : Rep s (.own i sz o n) v) (hp : pos σ i = none) {d' : D} (e : vwOwn V s.M i sz o n = some d') : d'.nl = true ∧ Rep (vst s σ V M') d' v := by
  simp only [vwOwn] at e
  cases hv : V i with
  | false => rw [hv] at e; cases e
  | true =>
    rw [hv] at e
    simp only [cond_true] at e
    split at e
    · rename_i T sz' m L hM
      cases hs : Nat.beq sz sz' with
      | false => rw [hs] at e; cases e
      | true =>
        rw [hs] at e
        cases e
        refine ⟨rfl, ?_⟩
        obtain rfl := Nat.eq_of_beq_eq_true hs
        cases h with
        | @own _ _ _ _ N cap c b a h ha hN hz hn hc =>
          have hk : s.w.ownsRow 0 T sz _ m L := ho.blk i _ _ hM h
          rcases hk.2 with ⟨e1, e2⟩ | ⟨g, cap', cur, e1, e2, e3, e4, e5, e6, e7⟩
          · cases e1
          · cases e1
            have hlen : ((L.drop (o * sz)).take (n * sz)).length = n * sz := by
              rw [List.length_take, List.length_drop, hk.1, ← Nat.mul_sub_right_distrib]
              exact Nat.min_eq_left (Nat.mul_le_mul_right _ (by omega))
            refine .slf hlen hn hc hz ?_
            rcases ha with rfl | rfl
            · left; simp
            · right
              refine ⟨b, o * sz, rfl, .inr ⟨i, _, _, hv, pos_none σ i hp, hM, rfl, h, rfl⟩, ?_⟩
              have hc0 := cellsAt_sub (cellsAt_block e3 0) 0 (m * sz)
              have hc1 : cellsAt s.w b 0 L := by simpa [e7] using hc0
              show cellsAt s.w b (o * sz) _
              simpa using cellsAt_sub hc1 (o * sz) (n * sz)
        | ownnil h => exact .slf (by simp) (Nat.le_refl _) (Nat.zero_le _) (fun _ => rfl) (.inl (by simp))
    · cases e
theorem vw1_rep {s : St} (ho : Ok s) {σ : List Nat} {V : Nat → Bool} {M' : List Blk} {d : D} {v : Value} (h : Rep s d v) {d' : D} (e : vw1 σ V s.M d = some d') : Rep (vst s σ V M') d' v := by
  have up : ∀ b, s.I b → (vst s σ V M').I b := fun b hb => .inl hb
  have imm : ∀ b, s.I b → (vst s σ V M').w.heap[b]? = s.w.heap[b]? := fun _ _ => rfl
  have oth : ∀ {d : D}, Rep s d v → (bif d.nl then some d else none) = some d' → Rep (vst s σ V M') d' v := fun {d} h e => by
    cases hnl : d.nl with
    | false => rw [hnl] at e; cases e
    | true => rw [hnl] at e; cases e; exact h.nl up imm hnl
  unfold vw1 at e
  split at e
  · split at e
    · cases e
    · rename_i hp
      cases h with
      | arr h => exact (vwArr0_rep ho h hp e).2
  · split at e
    · cases e
    · rename_i hp
      exact (vwOwn_rep ho h hp e).2
  · split at e
    · cases e
    · rename_i hp
      cases h with
      | farr h hk => exact (vwFarr_rep ho h hk hp e).2
  · split at e
    · cases e
    · rename_i hp
      cases h with
      | floc h hk => exact (vwFloc_rep ho h hk hp e).2
  · exact oth h e
theorem vw1_nl {σ : List Nat} {V : Nat → Bool} {M : List Blk} {d d' : D} (e : vw1 σ V M d = some d') : d'.nl = true := by
  unfold vw1 at e
  split at e
  · split at e
    · cases e
    · rename_i i _ _
      simp only [vwArr0] at e
      cases hv : V i with
      | false => rw [hv] at e; cases e
      | true => rw [hv] at e; simp only [cond_true] at e; split at e <;> cases e; rfl
  · split at e
    · cases e
    · rename_i i sz _ _ _ _
      simp only [vwOwn] at e
      cases hv : V i with
      | false => rw [hv] at e; cases e
      | true =>
        rw [hv] at e
        simp only [cond_true] at e
        split at e
        · rename_i T sz' m L _
          cases hs : Nat.beq sz sz' with
          | false => rw [hs] at e; cases e
          | true => rw [hs] at e; cases e; rfl
        · cases e
  · split at e
    · cases e
    · rename_i i _ _ _
      simp only [vwFarr] at e
      cases hv : V i with
      | false => rw [hv] at e; cases e
      | true =>
        rw [hv] at e; simp only [cond_true] at e
        split at e
        · split at e <;> cases e; rfl
        · cases e
  · split at e
    · cases e
    · rename_i i _ _ _ _
      simp only [vwFloc] at e
      cases hv : V i with
      | false => rw [hv] at e; cases e
      | true =>
        rw [hv] at e; simp only [cond_true] at e
        split at e
        · split at e <;> cases e; rfl
        · cases e
  · have aux : ∀ d : D, (bif d.nl then some d else none) = some d' → d'.nl = true := fun d e => by
      cases hnl : d.nl with
      | false => rw [hnl] at e; cases e
      | true => rw [hnl] at e; cases e; exact hnl
    exact aux _ e
theorem vw1L_spec {σ : List Nat} {V : Nat → Bool} {M : List Blk} : ∀ (l l' : List D), vw1L σ V M l = some l' → l'.length = l.length ∧ D.nlL l' = true ∧ ∀ (j : Nat) d', l'[j]? = some d' → ∃ d, l[j]? = some d ∧ vw1 σ V M d = some d'
  | [], l', h => by unfold vw1L at h; cases h; exact ⟨rfl, rfl, fun j d h => by simp at h⟩
  | d :: l, l', h => by
    unfold vw1L at h
    cases e1 : vw1 σ V M d with
    | none => rw [e1] at h; simp at h
    | some d1 =>
      cases e2 : vw1L σ V M l with
      | none => rw [e1, e2] at h; simp at h
      | some l1 =>
        rw [e1, e2] at h
        obtain rfl := Option.some.inj h
        obtain ⟨h1, h3, h2⟩ := vw1L_spec l l1 e2
        refine ⟨by simp [h1], by unfold D.nlL; rw [vw1_nl e1, h3]; rfl, fun j d' hj => ?_⟩
        cases j with
        | zero => simp at hj; subst hj; exact ⟨d, rfl, e1⟩
        | succ j => simpa using h2 j d' (by simpa using hj)

theorem vw_rep {s : St} (ho : Ok s) {σ : List Nat} {V : Nat → Bool} {M' : List Blk} {d : D} {v : Value} (h : Rep s d v) : ∀ d', vw σ V s.M d = some d' → Rep (vst s σ V M') d' v := by
  have up : ∀ b, s.I b → (vst s σ V M').I b := fun b hb => .inl hb
  have imm : ∀ b, s.I b → (vst s σ V M').w.heap[b]? = s.w.heap[b]? := fun _ _ => rfl
  have lists : ∀ {l l' : List D} {vs : List Value}, vwL σ V s.M l = some l' → vs.length = l.length → (∀ (j : Nat) d v, l[j]? = some d → vs[j]? = some v → ∀ d', vw σ V s.M d = some d' → Rep (vst s σ V M') d' v) →
      vs.length = l'.length ∧ ∀ (j : Nat) d v, l'[j]? = some d → vs[j]? = some v → Rep (vst s σ V M') d v := by
    intro l l' vs e hl ih
    obtain ⟨h1, h2⟩ := vwL_spec l l' e
    refine ⟨by omega, fun j d v hj hv => ?_⟩
    obtain ⟨x, hx, hx2⟩ := h2 j d hj
    exact ih j x v hx hv d hx2
  induction h with
  | val v => intro d' e; unfold vw at e; cases e; exact .val v
  | @loc i o b h =>
    intro d' e
    unfold vw at e
    cases hp : pos σ i with
    | some j => rw [hp] at e; cases e; exact .loc (vst_hnd (pos_spec σ i j hp) h)
    | none =>
      rw [hp] at e
      simp only [vwLoc] at e
      cases hv : V i with
      | false => rw [hv] at e; cases e
      | true =>
        rw [hv] at e
        simp only [cond_true] at e
        split at e
        · rename_i T L hM
          cases e
          obtain ⟨b', e1, e2⟩ := ho.blk i _ _ hM h
          cases e1
          exact .dpf (.inr ⟨i, _, _, hv, pos_none σ i hp, hM, rfl, h, rfl⟩) (show cellsAt s.w b o (L.drop o) by simpa using cellsAt_block e2 o)
        · rename_i T l hM
          cases hnl : D.nlL l with
          | false => rw [hnl] at e; cases e
          | true =>
            rw [hnl] at e
            cases e
            obtain ⟨b', vs, e1, e2, e3, e4⟩ := ho.blk i _ _ hM h
            cases e1
            refine .dpm (vs := vs.drop o) (nlL_drop o hnl) (.inr ⟨i, _, _, hv, pos_none σ i hp, hM, rfl, h, rfl⟩) (show cellsAt s.w b o (vs.drop o) by simpa using cellsAt_block e2 o) (by simp [e3]) fun j d v hj hv => ?_
            rw [List.getElem?_drop] at hj hv
            exact (e4 _ d v hj hv).nl up imm (nlL_mem hnl hj)
        · cases e
  | @arr i a n c h =>
    intro d' e
    unfold vw at e
    cases hp : pos σ i with
    | some j => rw [hp] at e; cases e; exact .arr (vst_hnd (pos_spec σ i j hp) h)
    | none =>
      rw [hp] at e
      simp only [vwArr] at e
      cases hv : V i with
      | false => rw [hv] at e; cases e
      | true =>
        rw [hv] at e
        simp only [cond_true] at e
        split at e
        · rename_i T sz m L hM
          cases e
          have hk : s.w.ownsRow 0 T sz _ m L := ho.blk i _ _ hM h
          rcases hk.2 with ⟨e1, e2⟩ | ⟨g, cap, cur, e1, e2, e3, e4, e5, e6, e7⟩
          · cases e1; subst e2
            exact .slf hk.1 (Nat.le_refl _) (Nat.zero_le _) (fun _ => rfl) (.inl (List.eq_nil_of_length_eq_zero (by simpa using hk.1)))
          · cases e1
            refine .slf hk.1 e4 e5 (fun e => by cases e) (.inr ⟨g, 0, rfl, .inr ⟨i, _, _, hv, pos_none σ i hp, hM, rfl, h, rfl⟩, ?_⟩)
            have hc := cellsAt_sub (cellsAt_block e3 0) 0 (n * sz)
            show cellsAt s.w g 0 L
            simpa [e7] using hc
        · rename_i T sz m l hM
          simp only [Option.map_eq_some_iff] at e
          obtain ⟨l', e, rfl⟩ := e
          obtain ⟨hll, hnl, hsp⟩ := vw1L_spec l l' e
          obtain ⟨vs, hk, q3, q4⟩ := ho.blk i _ _ hM h
          have hel : ∀ (j : Nat) d v, l'[j]? = some d → vs[j]? = some v → Rep (vst s σ V M') d v := fun j d v hj hv => by
            obtain ⟨x, hx, hx2⟩ := hsp j d hj
            exact vw1_rep ho (q4 j x v hx hv) hx2
          have q5 : vs.length = l'.length := q3.trans hll.symm
          rcases hk.2 with ⟨e1, e2⟩ | ⟨g, cap, cur, e1, e2, e3, e4, e5, e6, e7⟩
          · cases e1; subst e2
            have hl0 : l' = [] := List.eq_nil_of_length_eq_zero (by rw [← q5, hk.1, Nat.zero_mul])
            exact .slm hnl (by rw [← q5]; exact hk.1) (Nat.le_refl _) (Nat.zero_le _) (fun _ => rfl) q5 hel (.inl hl0)
          · cases e1
            refine .slm hnl (by rw [← q5]; exact hk.1) e4 e5 (fun e => by cases e) q5 hel (.inr ⟨g, 0, rfl, .inr ⟨i, _, _, hv, pos_none σ i hp, hM, rfl, h, rfl⟩, ?_⟩)
            have hc := cellsAt_sub (cellsAt_block e3 0) 0 (n * sz)
            show cellsAt s.w g 0 vs
            simpa [e7] using hc
        · cases e
  | @aloc i o n c b h =>
    intro d' e
    unfold vw at e
    cases hp : pos σ i with
    | some j => rw [hp] at e; cases e; exact .aloc (vst_hnd (pos_spec σ i j hp) h)
    | none =>
      rw [hp] at e
      simp only [vwAloc] at e
      cases hv : V i with
      | false => rw [hv] at e; cases e
      | true =>
        rw [hv] at e
        simp only [cond_true] at e
        split at e
        · rename_i T sz m L hM
          cases e
          have hk : s.w.ownsRow 0 T sz _ m L := ho.blk i _ _ hM h
          rcases hk.2 with ⟨e1, e2⟩ | ⟨g, cap, cur, e1, e2, e3, e4, e5, e6, e7⟩
          · cases e1
          · cases e1
            refine .dpf (.inr ⟨i, _, _, hv, pos_none σ i hp, hM, rfl, h, rfl⟩) ?_
            show cellsAt s.w b o (L.drop o)
            have hc0 := cellsAt_sub (cellsAt_block e3 0) 0 (n * sz)
            have hc1 : cellsAt s.w b 0 L := by simpa [e7] using hc0
            have hc2 := cellsAt_sub hc1 o L.length
            rw [List.take_of_length_le (by simp)] at hc2
            simpa using hc2
        · rename_i T sz m l hM
          cases hnl : D.nlL l with
          | false => rw [hnl] at e; cases e
          | true =>
            rw [hnl] at e
            cases e
            obtain ⟨vs, hk, q3, q4⟩ := ho.blk i _ _ hM h
            rcases hk.2 with ⟨e1, e2⟩ | ⟨g, cap, cur, e1, e2, e3, e4, e5, e6, e7⟩
            · cases e1
            · cases e1
              refine .dpm (vs := vs.drop o) (nlL_drop o hnl) (.inr ⟨i, _, _, hv, pos_none σ i hp, hM, rfl, h, rfl⟩) ?_ (by simp [q3]) fun j d v hj hv => ?_
              · show cellsAt s.w b o (vs.drop o)
                have hc0 := cellsAt_sub (cellsAt_block e3 0) 0 (n * sz)
                have hc1 : cellsAt s.w b 0 vs := by simpa [e7] using hc0
                have hc2 := cellsAt_sub hc1 o vs.length
                rw [List.take_of_length_le (by simp)] at hc2
                simpa using hc2
              · rw [List.getElem?_drop] at hj hv
                exact (q4 _ d v hj hv).nl up imm (nlL_mem hnl hj)
        · cases e
  | @own i sz o n N cap c b a h ha hN hz hn hc =>
    intro d' e
    unfold vw at e
    cases hp : pos σ i with
    | some j => rw [hp] at e; cases e; exact .own (vst_hnd (pos_spec σ i j hp) h) ha hN hz hn hc
    | none =>
      rw [hp] at e
      simp only [vwOwn] at e
      cases hv : V i with
      | false => rw [hv] at e; cases e
      | true =>
        rw [hv] at e
        simp only [cond_true] at e
        split at e
        · rename_i T sz' m L hM
          cases hs : Nat.beq sz sz' with
          | false => rw [hs] at e; cases e
          | true =>
            rw [hs] at e
            cases e
            obtain rfl := Nat.eq_of_beq_eq_true hs
            have hk : s.w.ownsRow 0 T sz _ m L := ho.blk i _ _ hM h
            rcases hk.2 with ⟨e1, e2⟩ | ⟨g, cap', cur, e1, e2, e3, e4, e5, e6, e7⟩
            · cases e1
            · cases e1
              have hlen : ((L.drop (o * sz)).take (n * sz)).length = n * sz := by
                rw [List.length_take, List.length_drop, hk.1, ← Nat.mul_sub_right_distrib]
                exact Nat.min_eq_left (Nat.mul_le_mul_right _ (by omega))
              refine .slf hlen hn hc hz ?_
              rcases ha with rfl | rfl
              · left; simp
              · right
                refine ⟨b, o * sz, rfl, .inr ⟨i, _, _, hv, pos_none σ i hp, hM, rfl, h, rfl⟩, ?_⟩
                have hc0 := cellsAt_sub (cellsAt_block e3 0) 0 (N * sz)
                have hc1 : cellsAt s.w b 0 L := by simpa [e7] using hc0
                show cellsAt s.w b (o * sz) _
                simpa using cellsAt_sub hc1 (o * sz) (n * sz)
        · cases e
  | @ownnil i sz h =>
    intro d' e
    unfold vw at e
    cases hp : pos σ i with
    | some j => rw [hp] at e; cases e; exact .ownnil (vst_hnd (pos_spec σ i j hp) h)
    | none =>
      rw [hp] at e
      simp only [vwOwn] at e
      cases hv : V i with
      | false => rw [hv] at e; cases e
      | true =>
        rw [hv] at e
        simp only [cond_true] at e
        split at e
        · rename_i T sz' m L hM
          cases hs : Nat.beq sz sz' with
          | false => rw [hs] at e; cases e
          | true =>
            rw [hs] at e
            cases e
            exact .slf (by simp) (Nat.le_refl _) (Nat.zero_le _) (fun _ => rfl) (.inl (by simp))
        · cases e
  | dpf hI h => intro d' e; unfold vw at e; cases e; exact .dpf (up _ hI) h
  | slf hl hn hc ha h => intro d' e; unfold vw at e; cases e; exact .slf hl hn hc ha (h.imp id fun ⟨b, o, e, hI, h⟩ => ⟨b, o, e, up _ hI, h⟩)
  | slc hl hc ha h => intro d' e; unfold vw at e; cases e; exact .slc hl hc ha (h.imp id fun ⟨b, o, e, hI, h⟩ => ⟨b, o, e, up _ hI, h⟩)
  | tup hl _ ih =>
    intro d' e
    unfold vw at e
    simp only [Option.map_eq_some_iff] at e
    obtain ⟨l', e, rfl⟩ := e
    obtain ⟨h1, h2⟩ := lists e hl ih
    exact .tup h1 h2
  | agg hl _ ih =>
    intro d' e
    unfold vw at e
    simp only [Option.map_eq_some_iff] at e
    obtain ⟨l', e, rfl⟩ := e
    obtain ⟨h1, h2⟩ := lists e hl ih
    exact .agg h1 h2
  | dpm hnl hI hc hl h _ => intro d' e; unfold vw at e; cases e; exact .dpm hnl (up _ hI) hc hl fun j d v hj hv => (h j d v hj hv).nl up imm (nlL_mem hnl hj)
  | slm hnl hl hn hc ha hv h hm _ => intro d' e; unfold vw at e; cases e; exact .slm hnl hl hn hc ha hv (fun j d v hj hv => (h j d v hj hv).nl up imm (nlL_mem hnl hj)) (hm.imp id fun ⟨b, o, e, hI, h⟩ => ⟨b, o, e, up _ hI, h⟩)
  | @fn f l k vs us hl hk _ _ ih ih' =>
    intro d' e
    unfold vw at e
    cases e1 : vwL σ V s.M l with
    | none => rw [e1] at e; simp at e
    | some a' =>
      cases e2 : vwL σ V s.M k with
      | none => rw [e1, e2] at e; simp at e
      | some b' =>
        rw [e1, e2] at e
        cases e
        obtain ⟨h1, h2⟩ := lists e1 hl ih
        obtain ⟨g1, g2⟩ := lists e2 hk ih'
        exact .fn h1 g1 h2 g2
  | ifc _ ih =>
    intro d' e
    unfold vw at e
    simp only [Option.map_eq_some_iff] at e
    obtain ⟨x, e, rfl⟩ := e
    exact .ifc (ih x e)
  | opt _ hu ih =>
    intro d' e
    unfold vw at e
    simp only [Option.map_eq_some_iff] at e
    obtain ⟨x, e, rfl⟩ := e
    exact .opt (fun hb => ih hb x e) hu
  | @hnd i v h hn ht =>
    intro d' e
    unfold vw at e
    cases hp : pos σ i with
    | some j => rw [hp] at e; cases e; exact .hnd (vst_hnd (pos_spec σ i j hp) h) hn ht
    | none => rw [hp] at e; cases e
  | @yld i l h =>
    intro d' e
    unfold vw at e
    cases hp : pos σ i with
    | some j => rw [hp] at e; cases e; exact .yld (vst_hnd (pos_spec σ i j hp) h)
    | none => rw [hp] at e; cases e
  | @floc i k o b hs h hk =>
    intro d' e
    unfold vw at e
    cases hp : pos σ i with
    | some j => rw [hp] at e; cases e; exact .floc (vst_hnd (pos_spec σ i j hp) h) hk
    | none => rw [hp] at e; exact (vwFloc_rep ho h hk hp e).2
  | @farr i k a n c hs h hk =>
    intro d' e
    unfold vw at e
    cases hp : pos σ i with
    | some j => rw [hp] at e; cases e; exact .farr (vst_hnd (pos_spec σ i j hp) h) hk
    | none => rw [hp] at e; exact (vwFarr_rep ho h hk hp e).2
  | @faloc i k o n c b hs h hk =>
    intro d' e
    unfold vw at e
    cases hp : pos σ i with
    | some j => rw [hp] at e; cases e; exact .faloc (vst_hnd (pos_spec σ i j hp) h) hk
    | none => rw [hp] at e; exact vwFaloc_rep ho h hk hp e
  | junk v => intro d' e; unfold vw at e; cases e; exact .junk v
end Go.Proofs.Ytgomklemldldiaa
