/- Maps from flat keys to ints: made, looked up, set, counted up. Conditions: what the key's type is, by the kernel. -/
import Derived.Test.YtgomklemldldiaaLt
namespace Go.Proofs.Ytgomklemldldiaa
set_option linter.unusedVariables false
set_option linter.unusedSimpArgs false
open Go.RowKit

section
variable {α : Type} [DecidableEq α]
def getM (k : α) : List (α × Int) → Int
  | [] => 0
  | (a, v) :: r => if k = a then v else getM k r
def setM (k : α) (v : Int) : List (α × Int) → List (α × Int)
  | [] => [(k, v)]
  | (a, w) :: r => if k = a then (a, v) :: r else (a, w) :: setM k v r
def posM (k : α) : List (α × Int) → Nat
  | [] => 0
  | (a, _) :: r => if k = a then 0 else posM k r + 1
def hasM (k : α) : List (α × Int) → Bool
  | [] => false
  | (a, _) :: r => if k = a then true else hasM k r
def ents (en : α → List Value) : Nat → List (α × Int) → List MapEntry
  | _, [] => []
  | o, (a, v) :: r => { key := .agg (en a).toArray, val := .int .i64 v, born := o } :: ents en (o + 1) r
def mapO (en : α → List Value) (m : List (α × Int)) : Obj := .map (ents en 0 m).toArray m.length

theorem setM_no {k : α} {v : Int} : ∀ {m : List (α × Int)}, hasM k m = false → setM k v m = m ++ [(k, v)]
  | [], _ => rfl
  | (a, w) :: r, h => by
    unfold hasM at h
    split at h
    · cases h
    · rename_i hn; rw [setM, if_neg hn, setM_no h]; rfl
theorem posM_no {k : α} : ∀ {m : List (α × Int)}, hasM k m = false → posM k m = m.length
  | [], _ => rfl
  | (a, w) :: r, h => by
    unfold hasM at h
    split at h
    · cases h
    · rename_i hn; rw [posM, if_neg hn, posM_no h]; rfl
theorem getM_no {k : α} : ∀ {m : List (α × Int)}, hasM k m = false → getM k m = 0
  | [], _ => rfl
  | (a, w) :: r, h => by
    unfold hasM at h
    split at h
    · cases h
    · rename_i hn; rw [getM, if_neg hn, getM_no h]
theorem posM_lt {k : α} : ∀ {m : List (α × Int)}, hasM k m = true → posM k m < m.length
  | [], h => by cases h
  | (a, w) :: r, h => by
    unfold hasM at h
    rw [posM]
    split
    · simp
    · rename_i hn; rw [if_neg hn] at h; have := posM_lt h; simp; omega
theorem setM_len {k : α} {v : Int} : ∀ (m : List (α × Int)), (setM k v m).length = if hasM k m then m.length else m.length + 1
  | [] => rfl
  | (a, w) :: r => by
    rw [setM, hasM]
    split
    · simp
    · rw [List.length_cons, setM_len r]
      cases hasM k r <;> simp
theorem setM_self {k : α} : ∀ {m : List (α × Int)}, hasM k m = true → setM k (getM k m) m = m
  | [], h => by cases h
  | (a, w) :: r, h => by
    unfold hasM at h
    rw [setM, getM]
    split
    · rfl
    · rename_i hn; rw [if_neg hn] at h; rw [setM_self h]
theorem hasM_set {k : α} {v : Int} : ∀ (m : List (α × Int)), hasM k (setM k v m) = true
  | [] => by simp [setM, hasM]
  | (a, w) :: r => by
    rw [setM]
    split
    · rename_i h; simp [hasM, h]
    · rename_i h; rw [hasM, if_neg h]; exact hasM_set r
theorem posM_set {k : α} {v : Int} : ∀ (m : List (α × Int)), posM k (setM k v m) = posM k m
  | [] => by simp [setM, posM]
  | (a, w) :: r => by
    rw [setM]
    split
    · rename_i h; simp [posM, h]
    · rename_i h; rw [posM, if_neg h, posM, if_neg h, posM_set r]
theorem setM_set {k : α} {v v' : Int} : ∀ (m : List (α × Int)), setM k v (setM k v' m) = setM k v m
  | [] => by simp [setM]
  | (a, w) :: r => by
    rw [setM, setM]
    split
    · rename_i h; simp [setM, h]
    · rename_i h; rw [setM, if_neg h, setM_set r]

omit [DecidableEq α] in
theorem ents_len (en : α → List Value) : ∀ (m : List (α × Int)) (o : Nat), (ents en o m).length = m.length
  | [], _ => rfl
  | (a, v) :: r, o => by simp [ents, ents_len en r]
omit [DecidableEq α] in
theorem ents_app (en : α → List Value) (k : α) (v : Int) : ∀ (m : List (α × Int)) (o : Nat), ents en o (m ++ [(k, v)]) = ents en o m ++ [{ key := .agg (en k).toArray, val := .int .i64 v, born := o + m.length }]
  | [], o => by simp [ents]
  | (a, w) :: r, o => by simp [ents, ents_app en k v r, Nat.add_assoc, Nat.add_comm 1]
theorem ents_mod (en : α → List Value) (k : α) (v : Int) : ∀ (m : List (α × Int)) (o : Nat), hasM k m = true → (ents en o m).modify (posM k m) (fun e => { e with key := .agg (en k).toArray, val := .int .i64 v }) = ents en o (setM k v m)
  | [], o, h => by cases h
  | (a, w) :: r, o, h => by
    unfold hasM at h
    rw [posM, setM]
    split
    · rename_i e; subst e; simp [ents]
    · rename_i hn
      rw [if_neg hn] at h
      simp [ents, ents_mod en k v r (o + 1) h]
theorem ents_modv (en : α → List Value) (k : α) (v : Int) : ∀ (m : List (α × Int)) (o : Nat), hasM k m = true → (ents en o m).modify (posM k m) (fun e => { e with val := .int .i64 v }) = ents en o (setM k v m)
  | [], o, h => by cases h
  | (a, w) :: r, o, h => by
    unfold hasM at h
    rw [posM, setM]
    split
    · rename_i e; subst e; simp [ents]
    · rename_i hn
      rw [if_neg hn] at h
      simp [ents, ents_modv en k v r (o + 1) h]
theorem ents_modk (en : α → List Value) (k : α) : ∀ (m : List (α × Int)) (o : Nat), hasM k m = true → (ents en o m).modify (posM k m) (fun e => { e with key := .agg (en k).toArray }) = ents en o m
  | [], o, h => by cases h
  | (a, w) :: r, o, h => by
    unfold hasM at h
    rw [posM]
    split
    · rename_i e; subst e; simp [ents]
    · rename_i hn
      rw [if_neg hn] at h
      simp [ents, ents_modk en k r (o + 1) h]
theorem ents_at (en : α → List Value) (k : α) : ∀ (m : List (α × Int)) (o : Nat), hasM k m = true → (ents en o m)[posM k m]? = some { key := .agg (en k).toArray, val := .int .i64 (getM k m), born := o + posM k m }
  | [], o, h => by cases h
  | (a, w) :: r, o, h => by
    unfold hasM at h
    rw [posM, getM]
    split
    · rename_i e; subst e; simp [ents]
    · rename_i hn
      rw [if_neg hn] at h
      simp [ents, ents_at en k r (o + 1) h, Nat.add_assoc, Nat.add_comm 1]
omit [DecidableEq α] in
theorem ents_born (en : α → List Value) : ∀ (m : List (α × Int)) (o p : Nat), p < m.length → (ents en o m).findIdx? (fun e => (e.born : Int) == ((o + p : Nat) : Int)) = some p
  | [], o, p, h => by simp at h
  | (a, w) :: r, o, 0, h => by simp [ents, List.findIdx?_cons]
  | (a, w) :: r, o, p + 1, h => by
    rw [ents, List.findIdx?_cons, if_neg (by simp; omega)]
    have := ents_born en r (o + 1) p (by simpa using h)
    rw [show o + 1 + p = o + (p + 1) by omega] at this
    rw [this]; rfl

/-- what is asked of a key's type -/
structure KeyT (P : Program) (T : TypeId) (en : α → List Value) : Prop where
  row : ∃ d, P.underlying T = some d ∧ d.isRow = true
  eq : ∀ (a b : α) (w : World), (Op.equal T (.agg (en a).toArray) (.agg (en b).toArray)).run P w = .ok (decide (a = b)) w
  chk : ∀ (b : Bool) (a : α) (w : World), (Instr.checkKey b 10000 T (.agg (en a).toArray)).run P w = .ok () w
  bits : ∀ a : α, Instr.sameBits 10000 (.agg (en a).toArray) (.agg (en a).toArray) = true

variable {P : Program} {T : TypeId} {en : α → List Value}
theorem run_asking (hk : KeyT P T en) (k : α) (w : World) : ∀ (m : List (α × Int)) (o i : Nat), (Instr.findAsking T (.agg (en k).toArray) (ents en o m) i).run P w = .ok (if hasM k m then some (i + posM k m, .int .i64 (getM k m)) else none) w
  | [], o, i => by simp [Instr.findAsking, ents, hasM]
  | (a, v) :: r, o, i => by
    rw [ents, Instr.findAsking, Sem.run_bind, hk.eq, Result.andThen_ok, hasM, posM, getM]
    by_cases h : k = a
    · simp [h]
    · simp only [h, decide_false, if_false, Bool.false_eq_true]
      rw [run_asking hk k w r (o + 1) (i + 1), show i + 1 + posM k r = i + (posM k r + 1) by omega]
theorem run_findKey (hk : KeyT P T en) (k : α) (m : List (α × Int)) (w : World) : (Instr.findKey T (.agg (en k).toArray) (ents en 0 m)).run P w = .ok (if hasM k m then some (posM k m, .int .i64 (getM k m)) else none) w := by
  obtain ⟨d, hd, hr⟩ := hk.row
  unfold Instr.findKey
  rw [Sem.run_bind, run_underlying hd, Result.andThen_ok]
  cases m with
  | nil => simp [ents, Instr.findNow, hasM]
  | cons p r =>
    obtain ⟨a, v⟩ := p
    have : Instr.findNow d (.agg (en k).toArray) (ents en 0 ((a, v) :: r)) 0 = none := by
      simp only [ents, Instr.findNow]
      cases d <;> first | rfl | cases hr
    rw [this]
    have := run_asking hk k w ((a, v) :: r) 0 0
    simpa using this
end

section
variable {α : Type} [DecidableEq α] {P : Program} {K E T : TypeId} {en : α → List Value} {pc : Bool} {o : Oper} {F : Fr} {M : List Blk} {x y z : Operand}
def mpT (P : Program) (T : TypeId) : Option (TypeId × TypeId) := match P.underlying T with
  | some (.map k e) => some (k, e)
  | _ => none
theorem mpT_spec (h : mpT P T = some (K, E)) : P.underlying T = some (.map K E) := by
  unfold mpT at h
  split at h
  · rename_i k e hk; cases h; exact hk
  · cases h
omit [DecidableEq α] in
theorem tr_map {s : St} (ho : Ok s) {i b : Nat} {ob ob' : Obj} (hmh : mapH ob' (.map (some b))) (hM : s.M[i]? = some (.obj ob)) (hβ : s.β[i]? = some (.map (some b))) : s.w.heap[b]? = some ob ∧ Tr s ⟨s.β, s.I, s.M.set i (.obj ob'), s.w.putObj b ob'⟩ := by
  obtain ⟨b', e1, e2, _⟩ := ho.blk i _ _ hM hβ
  cases e1
  refine ⟨e2, ?_⟩
  have hil : i < s.M.length := (List.getElem?_eq_some_iff.1 hM).1
  have hlv : Live s b := live_of hM rfl hβ rfl
  have hbl := (ho.lt b hlv).1
  have := step_set ho i s.M (.map (some b)) (.obj ob') (s.w.putObj b ob') rfl (fun _ _ h => .inl h) hil (.inr (.inl hβ)) (by simp)
    ⟨b, rfl, World.putObj_heap_same hbl, hmh⟩
    (fun c hc j k h hne h1 h2 h3 h4 => by
      cases hc
      exact hne (ho.inj j i k _ h _ b h1 h2 h3 h4 hM rfl hβ rfl))
    (fun c hc => by cases hc; exact .inr hlv) (fun c hc => by cases hc; simpa using hbl) (fun _ => False) (fun _ h => h.elim)
    (fun c hc hne _ => World.putObj_heap_other (fun e => hne (by rw [e]; rfl))) rfl rfl rfl (by simp)
  have hil' : i < s.β.length := (List.getElem?_eq_some_iff.1 hβ).1
  have e : s.β.set i (.map (some b)) = s.β := by
    have : s.β[i] = .map (some b) := (List.getElem?_eq_some_iff.1 hβ).2
    rw [← this, List.set_getElem_self]
  rwa [e] at this
omit [DecidableEq α] in
/-- a new map -/
theorem op_mkm (en : α → List Value) (j : Nat) (ho : o.op = .makeMap T none) (hj : M[j]? = some .hole) : DOp P pc o F M [j] (.hnd j) [(j, .obj (mapO en []))] := by
  intro hp a s hok hops hfp
  have hj' : s.M[j]? = some .hole := by rw [hfp j (by simp)]; exact hj
  have hjl : j < s.β.length := by rw [hok.len]; exact (List.getElem?_eq_some_iff.1 hj').1
  have ht : Tr s ⟨s.β.set j (.map (some s.w.heap.size)), s.I, s.M.set j (.obj (mapO en [])), s.w.alloc (mapO en [])⟩ := by
    refine tr_new hok hj' _ _ _ (by simp) (fun b hb => by simpa [hb] using (Option.some.inj hb).symm) (fun b h => Below.heap_alloc _ _ _ h) (fun b hb => ?_) (by simp) rfl rfl rfl ⟨_, rfl, by simpa using heap_alloc_new s.w _, ⟨_, rfl⟩⟩
    cases hb; simp
  refine dg_step (v := .map (some s.w.heap.size)) ?_ ht rfl (.hnd (by simp [hjl]) (by simp) (by simp))
  unfold execOp
  simp only [ho]
  refine run_v ?_
  simp [Instr.makeMap, mapO, ents]
omit [DecidableEq α] in
theorem map_at {s : St} (hok : Ok s) {i : Nat} {m : List (α × Int)} {v : Value} (hM : s.M[i]? = some (.obj (mapO en m))) (hr : Rep s (.hnd i) v) : ∃ b, v = .map (some b) ∧ s.β[i]? = some (.map (some b)) ∧ s.w.heap[b]? = some (mapO en m) := by
  cases hr with
  | hnd hβ hn =>
    obtain ⟨b, e1, e2, b', e3⟩ := hok.blk i _ _ hM hβ
    subst e3
    cases e1
    exact ⟨b, rfl, hβ, e2⟩
theorem op_lkp {i : Nat} {k : α} {m : List (α × Int)} (hT : mpT P T = some (K, E)) (hE : zrV P E = some (.int .i64 0)) (hk : KeyT P K en) (ho : o.op = .lookup T x y false) (hx : Ev pc F x (.hnd i)) (hy : Ev pc F y (.val (.agg (en k).toArray))) (hM : M[i]? = some (.obj (mapO en m))) : DOp P pc o F M [i] (.val (.int .i64 (getM k m))) [] := by
  intro hp a s hok hops hfp
  have hM' : s.M[i]? = some (.obj (mapO en m)) := by rw [hfp i (by simp)]; exact hM
  obtain ⟨b, hv, hβ, hob⟩ := map_at hok hM' (ev_at hp hx (by simp [ho, Op.operands]) hops)
  have hry := (ev_at hp hy (by simp [ho, Op.operands]) hops).val_eq
  refine dg_val hok ?_ (.val _)
  unfold execOp
  simp only [ho, hv, hry]
  refine run_v ?_
  have hf := run_findKey hk k m s.w
  have hz : (zeroValue E).run P s.w = .ok (.int .i64 0) s.w := by
    unfold zrV at hE
    rw [Option.bind_eq_some_iff] at hE
    obtain ⟨inf, h1, h2⟩ := hE
    simp [zeroValue, typeInfo, h1, h2]
  unfold Instr.lookup
  rw [Sem.run_bind, run_underlying (mpT_spec hT), Result.andThen_ok]
  simp only [Sem.run_bind, getObj, Sem.run, hob, mapO, Result.andThen, hk.chk, hf]
  cases h : hasM k m with
  | true => simp [hk.chk, hf, h]
  | false => simp [hk.chk, hf, h, hz, getM_no h]
/-- an entry set -/
theorem op_mup {i : Nat} {k : α} {m : List (α × Int)} {v : Int} (hT : mpT P T = some (K, E)) (hk : KeyT P K en) (ho : o.op = .mapUpdate T x y z) (hx : Ev pc F x (.hnd i)) (hy : Ev pc F y (.val (.agg (en k).toArray))) (hz : Ev pc F z (.val (.int .i64 v))) (hM : M[i]? = some (.obj (mapO en m))) : DOp P pc o F M [i] .junk [(i, .obj (mapO en (setM k v m)))] := by
  intro hp a s hok hops hfp
  have hM' : s.M[i]? = some (.obj (mapO en m)) := by rw [hfp i (by simp)]; exact hM
  obtain ⟨b, hv, hβ, hob⟩ := map_at hok hM' (ev_at hp hx (by simp [ho, Op.operands]) hops)
  have hry := (ev_at hp hy (by simp [ho, Op.operands]) hops).val_eq
  have hrz := (ev_at hp hz (by simp [ho, Op.operands]) hops).val_eq
  obtain ⟨_, ht⟩ := tr_map (ob' := mapO en (setM k v m)) hok ⟨b, rfl⟩ hM' hβ
  refine dg_skip ?_ ht rfl
  have hf := run_findKey hk k m s.w
  unfold execOp
  simp only [ho, hv, hry, hrz]
  refine run_u ?_
  unfold Instr.mapUpdate
  rw [Sem.run_bind, run_underlying (mpT_spec hT), Result.andThen_ok]
  simp only [Sem.run_bind, getObj, Sem.run, hob, mapO, Result.andThen, hk.chk, hf]
  cases h : hasM k m with
  | true =>
    have hat := ents_at en k m 0 h
    have hmo := ents_mod en k v m 0 h
    simp [hf, h, Instr.keyThatStays, hat, hk.bits, setObj, Sem.run, World.putObj, setM_len, hmo, hob, mapO]
  | false => simp [hf, h, setObj, Sem.run, World.putObj, setM_no h, ents_app, hob, mapO]
/-- an entry looked for, and made -/
theorem op_men {i : Nat} {k : α} {m : List (α × Int)} (hT : mpT P T = some (K, E)) (hE : zrV P E = some (.int .i64 0)) (hk : KeyT P K en) (ho : o.op = .mapEntry T x y) (hx : Ev pc F x (.hnd i)) (hy : Ev pc F y (.val (.agg (en k).toArray))) (hM : M[i]? = some (.obj (mapO en m))) :
    DOp P pc o F M [i] (.tup [.val (.int .i64 (getM k m)), .val (.int .i64 (posM k m))]) [(i, .obj (mapO en (setM k (getM k m) m)))] := by
  intro hp a s hok hops hfp
  have hM' : s.M[i]? = some (.obj (mapO en m)) := by rw [hfp i (by simp)]; exact hM
  obtain ⟨b, hv, hβ, hob⟩ := map_at hok hM' (ev_at hp hx (by simp [ho, Op.operands]) hops)
  have hry := (ev_at hp hy (by simp [ho, Op.operands]) hops).val_eq
  obtain ⟨_, ht⟩ := tr_map (ob' := mapO en (setM k (getM k m) m)) hok ⟨b, rfl⟩ hM' hβ
  have hf := run_findKey hk k m s.w
  have hz : ∀ w, (zeroValue E).run P w = .ok (.int .i64 0) w := fun w => by
    unfold zrV at hE
    rw [Option.bind_eq_some_iff] at hE
    obtain ⟨inf, h1, h2⟩ := hE
    simp [zeroValue, typeInfo, h1, h2]
  refine dg_step (v := .tuple #[.int .i64 (getM k m), .int .i64 (posM k m)]) ?_ ht rfl (Rep.tup (vs := [_, _]) rfl fun j d v hj hv => by
    match j with
    | 0 => simp at hj hv; subst hj hv; exact .val _
    | 1 => simp at hj hv; subst hj hv; exact .val _
    | j + 2 => simp at hj)
  unfold execOp
  simp only [ho, hv, hry]
  refine run_v ?_
  unfold Instr.mapEntry
  rw [Sem.run_bind, run_underlying (mpT_spec hT), Result.andThen_ok]
  simp only [Sem.run_bind, getObj, Sem.run, hob, mapO, Result.andThen, hk.chk, hf]
  cases h : hasM k m with
  | true =>
    have hat := ents_at en k m 0 h
    have hmo := ents_modk en k m 0 h
    simp [hf, h, Instr.keyThatStays, hat, hk.bits, setObj, Sem.run, World.putObj, setM_self h, hmo, hob, mapO, goInt]
  | false => simp [hf, h, hz, setObj, Sem.run, World.putObj, getM_no h, setM_no h, posM_no h, ents_app, hob, mapO, goInt]
theorem op_est {i : Nat} {k : α} {m : List (α × Int)} {v : Int} (hh : pc = true → hasM k m = true) (ho : o.op = .entryStore T x y z) (hx : Ev pc F x (.hnd i)) (hy : Ev pc F y (.val (.int .i64 (posM k m)))) (hz : Ev pc F z (.val (.int .i64 v))) (hM : M[i]? = some (.obj (mapO en m))) : DOp P pc o F M [i] .junk [(i, .obj (mapO en (setM k v m)))] := by
  intro hp a s hok hops hfp
  have hM' : s.M[i]? = some (.obj (mapO en m)) := by rw [hfp i (by simp)]; exact hM
  obtain ⟨b, hv, hβ, hob⟩ := map_at hok hM' (ev_at hp hx (by simp [ho, Op.operands]) hops)
  have hry := (ev_at hp hy (by simp [ho, Op.operands]) hops).val_eq
  have hrz := (ev_at hp hz (by simp [ho, Op.operands]) hops).val_eq
  obtain ⟨_, ht⟩ := tr_map (ob' := mapO en (setM k v m)) hok ⟨b, rfl⟩ hM' hβ
  refine dg_skip ?_ ht rfl
  have h := hh hp
  have hb := ents_born en m 0 (posM k m) (posM_lt h)
  have hmo := ents_modv en k v m 0 h
  simp only [Nat.zero_add] at hb
  unfold execOp
  simp only [ho, hv, hry, hrz]
  refine run_u ?_
  unfold Instr.entryStore
  simp [Sem.run_bind, getObj, Sem.run, hob, mapO, Result.andThen, asInt, asIntOf, hb, hmo, setObj, World.putObj, setM_len, h]
end
end Go.Proofs.Ytgomklemldldiaa
