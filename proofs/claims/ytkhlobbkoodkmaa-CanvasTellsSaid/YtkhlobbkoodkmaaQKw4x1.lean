/- Operations: numbers, bools, structs, memory that is read and written. Conditions: what a type is, by the kernel; Operations on slices: made, cut, grown; tuples; function values; structs. Conditions: what a type is, by the kernel; Ends of calls; structs built; bools and strings compared; least and greatest; slices taken over, and given up. Conditions: what a type is, by the kernel; Codes within a function; a loop's rounds one by one; strings; Maps from flat keys to ints: made, looked up, set, counted up. Conditions: what the key's type is, by the kernel; Arrays as values, indexed; slice variables that begin as nil; appended to a row that is nil; loops begun by hand; A region that draws its order, where one operation looks at what a later one may turn before it (m[k] += x: the entry may be made first). Conditions: the kernel's look at its edges; Rows made by make, and copied into; parts of. No condition. -/
import Derived.Test.YtkhlobbkoodkmaaQ4
import Derived.Test.YtkhlobbkoodkmaaRows
namespace Go.Proofs.Ytkhlobbkoodkmaa
theorem ya {p : Prop} [Decidable p] : decide p = false ↔ ¬p := _root_.decide_eq_false_iff_not
theorem yb {α : Type _} [BEq α] [LawfulBEq α] {a b : α} : (a == b) = false ↔ a ≠ b := _root_.beq_eq_false_iff_ne
theorem yc {α : Type _} [BEq α] [LawfulBEq α] {a b : α} : (a != b) = false ↔ a = b := _root_.bne_eq_false_iff_eq
theorem yd {x y : Bool} : (x || y) = false ↔ x = false ∧ y = false := _root_.Bool.or_eq_false_iff
theorem ye {b : Bool} : ((!b) = false) = (b = true) := by cases b <;> simp
theorem yf {b : Bool} : ((!b) = true) = (b = false) := by cases b <;> simp
theorem yg {p : Prop} [Decidable p] : (decide p = true) = p := _root_.decide_eq_true_eq
theorem yh {a b : Bool} : ((a && b) = true) = (a = true ∧ b = true) := _root_.Bool.and_eq_true a b
theorem yi {a b : Bool} : ((a || b) = true) = (a = true ∨ b = true) := _root_.Bool.or_eq_true a b
theorem yj {p : Prop} [Decidable p] : ¬¬p ↔ p := _root_.Decidable.not_not
set_option linter.unusedVariables false
set_option linter.unusedSimpArgs false
open Go.RowKit

/-! ### what a type is -/
section
variable {P : Program} {pc : Bool} {o : Oper} {F : Fr} {M : List Blk}
section
variable {T T' : TypeId} {x y : Operand} {k : IntKind} {p q : Int}
theorem op_sub (ho : o.op = .binOp .sub T x y T') (hx : Ev pc F x (.val (.int k p))) (hy : Ev pc F y (.val (.int k q))) : DOp P pc o F M [] (.val (.int k (k.wrap (p - q)))) [] := int_bin ho hx hy fun w => ⟨guard_int .., by simp [binOp, Op.intArith]⟩
theorem op_sub' (ho : o.op = .binOp .sub T x y T') (hx : Ev pc F x (.val (.int k p))) (hy : Ev pc F y (.val (.int k q))) (h : pc = true → k.wrap (p - q) = p - q) : DOp P pc o F M [] (.val (.int k (p - q))) [] := fun hp => by
  have := op_sub (P := P) (M := M) ho hx hy hp; rwa [h hp] at this
end
section
variable {T : TypeId} {x : Operand} {i p k : Nat} {L R : List Value} {v : Value}
theorem arr_cells {s : St} (hok : Ok s) {T' : TypeId} {sz n n' c b : Nat} (h1 : s.M[i]? = some (.arr T' sz n L)) (h2 : s.β[i]? = some (.slice (some ⟨b, 0, none⟩) n' c)) : n' = n ∧ L.length = n * sz ∧ n ≤ c ∧ c ≤ maxLen ∧ cellsAt s.w b 0 L ∧ ∃ cur, s.w.heap[b]? = some (.cells cur T' (0, 0)) ∧ L.length ≤ cur.size ∧ cur.toList.take L.length = L := by
  have hk : s.w.ownsRow 0 T' sz _ n L := hok.blk i _ _ h1 h2
  rcases hk.2 with ⟨e1, e2⟩ | ⟨g, cap, cur, e1, e2, e3, e4, e5, e6, e7⟩
  · cases e1
  · cases e1
    have hc0 := cellsAt_sub (cellsAt_block e3 0) 0 (n * sz)
    have hle := Nat.mul_le_mul_right sz e4
    exact ⟨rfl, hk.1, e4, e5, by simpa [e7] using hc0, cur, e3, by rw [hk.1, e6]; exact hle, by rw [hk.1]; exact e7⟩
end
section
variable {T : TypeId} {x y : Operand} {i p n sz : Nat} {k : IntKind} {z : Int} {L : List Value}
variable {e : TypeId} {by' m : Nat}
end
end
section
variable {P : Program} {pc : Bool} {o : Oper} {F : Fr} {M : List Blk}
section
variable {T e : TypeId} {sz by' n : Nat} {ps : List (Nat × Operand)} {vs Z : List Value}
end

/-! ### append -/
theorem src_arr {i m sz : Nat} {T' : TypeId} {L2 : List Value} (hM : M[i]? = some (.arr T' sz m L2)) : SrcD M [i] (.arr i) m sz L2 := by
  intro s v hok hfp hr
  cases hr with
  | @arr _ ad n' c h =>
    have hM' : s.M[i]? = some (.arr T' sz m L2) := by rw [hfp i (by simp)]; exact hM
    have hk : s.w.ownsRow 0 T' sz _ m L2 := hok.blk i _ _ hM' h
    refine ⟨hk.1, ad, c, ?_, ?_⟩
    · rcases hk.2 with ⟨e1, e2⟩ | ⟨g, cap, cur, e1, _⟩
      · cases e1; rw [e2]
      · cases e1; rfl
    · rcases hk.2 with ⟨e1, e2⟩ | ⟨g, cap, cur, e1, _⟩
      · cases e1
        subst e2
        exact .inl ⟨rfl, rfl, rfl, List.eq_nil_of_length_eq_zero (by simpa using hk.1)⟩
      · cases e1
        obtain ⟨_, _, _, _, hc, _⟩ := arr_cells hok (by rw [hfp i (by simp)]; exact hM) h
        exact .inr ⟨_, rfl, fun j u hj => by rw [Addr.add_mid]; simpa using hc j u hj⟩
end
section
variable {P : Program} {fn : Func} {F : Fr} {M : List Blk} {t u v : Tmp} {d d' e f dr : D}
end
section
variable {P : Program} {pc : Bool} {o : Oper} {F : Fr} {M : List Blk}

/-! ### structs built -/
theorem op_eqb {T T' : TypeId} {x y : Operand} {p q : Bool} (ho : o.op = .binOp .eql T x y T') (hT : P.underlying T = some .bool) (hx : Ev pc F x (.val (.bool p))) (hy : Ev pc F y (.val (.bool q))) : DOp P pc o F M [] (.val (.bool (p == q))) [] :=
  op_eqv ho hx hy (fun w => by unfold eqGuard; rfl) fun w => by
    have h : ∀ d, (Op.equalIn (d + 1) T (.bool p) (.bool q)).run P w = .ok (p == q) w := fun d => by simp [Op.equalIn, run_underlying hT]
    show (do pure (Value.bool (← Op.equalIn (9999 + 1) T (.bool p) (.bool q))) : Sem Value).run P w = _
    rw [Sem.run_bind, h 9999]; rfl
end
section
variable {P : Program} {s0 : St} {n : Cx}
end
theorem arr_eq {T : TypeId} {sz n n' : Nat} {L L' : List Value} (h : n = n') (h' : L = L') : some (Blk.arr T sz n L) = some (Blk.arr T sz n' L') := by rw [h, h']
section
variable {P : Program} {s0 : St} {n : Cx}
end
section
variable {α : Type} [DecidableEq α]
def getM (k : α) : List (α × Int) → Int
  | [] => 0
  | (a, v) :: r => if k = a then v else getM k r
def setM (k : α) (v : Int) : List (α × Int) → List (α × Int)
  | [] => [(k, v)]
  | (a, w) :: r => if k = a then (a, v) :: r else (a, w) :: setM k v r
def posM (k : α) : List (α × Int) → Nat
  | [] => 0
  | (a, _) :: r => if k = a then 0 else posM k r + 1
def hasM (k : α) : List (α × Int) → Bool
  | [] => false
  | (a, _) :: r => if k = a then true else hasM k r
def ents (en : α → List Value) : Nat → List (α × Int) → List MapEntry
  | _, [] => []
  | o, (a, v) :: r => { key := .agg (en a).toArray, val := .int .i64 v, born := o } :: ents en (o + 1) r
def mapO (en : α → List Value) (m : List (α × Int)) : Obj := .map (ents en 0 m).toArray m.length
theorem setM_no {k : α} {v : Int} : ∀ {m : List (α × Int)}, hasM k m = false → setM k v m = m ++ [(k, v)]
  | [], _ => rfl
  | (a, w) :: r, h => by
    unfold hasM at h
    split at h
    · cases h
    · rename_i hn; rw [setM, if_neg hn, setM_no h]; rfl
theorem posM_no {k : α} : ∀ {m : List (α × Int)}, hasM k m = false → posM k m = m.length
  | [], _ => rfl
  | (a, w) :: r, h => by
    unfold hasM at h
    split at h
    · cases h
    · rename_i hn; rw [posM, if_neg hn, posM_no h]; rfl
theorem getM_no {k : α} : ∀ {m : List (α × Int)}, hasM k m = false → getM k m = 0
  | [], _ => rfl
  | (a, w) :: r, h => by
    unfold hasM at h
    split at h
    · cases h
    · rename_i hn; rw [getM, if_neg hn, getM_no h]
theorem posM_lt {k : α} : ∀ {m : List (α × Int)}, hasM k m = true → posM k m < m.length
  | [], h => by cases h
  | (a, w) :: r, h => by
    unfold hasM at h
    rw [posM]
    split
    · simp
    · rename_i hn; rw [if_neg hn] at h; have := posM_lt h; simp; omega
theorem setM_len {k : α} {v : Int} : ∀ (m : List (α × Int)), (setM k v m).length = if hasM k m then m.length else m.length + 1
  | [] => rfl
  | (a, w) :: r => by
    rw [setM, hasM]
    split
    · simp
    · rw [List.length_cons, setM_len r]
      cases hasM k r <;> simp
theorem setM_self {k : α} : ∀ {m : List (α × Int)}, hasM k m = true → setM k (getM k m) m = m
  | [], h => by cases h
  | (a, w) :: r, h => by
    unfold hasM at h
    rw [setM, getM]
    split
    · rfl
    · rename_i hn; rw [if_neg hn] at h; rw [setM_self h]
theorem hasM_set {k : α} {v : Int} : ∀ (m : List (α × Int)), hasM k (setM k v m) = true
  | [] => by simp [setM, hasM]
  | (a, w) :: r => by
    rw [setM]
    split
    · rename_i h; simp [hasM, h]
    · rename_i h; rw [hasM, if_neg h]; exact hasM_set r
theorem posM_set {k : α} {v : Int} : ∀ (m : List (α × Int)), posM k (setM k v m) = posM k m
  | [] => by simp [setM, posM]
  | (a, w) :: r => by
    rw [setM]
    split
    · rename_i h; simp [posM, h]
    · rename_i h; rw [posM, if_neg h, posM, if_neg h, posM_set r]
theorem setM_set {k : α} {v v' : Int} : ∀ (m : List (α × Int)), setM k v (setM k v' m) = setM k v m
  | [] => by simp [setM]
  | (a, w) :: r => by
    rw [setM, setM]
    split
    · rename_i h; simp [setM, h]
    · rename_i h; rw [setM, if_neg h, setM_set r]

omit [DecidableEq α] in
theorem ents_len (en : α → List Value) : ∀ (m : List (α × Int)) (o : Nat), (ents en o m).length = m.length
  | [], _ => rfl
  | (a, v) :: r, o => by simp [ents, ents_len en r]
omit [DecidableEq α] in
theorem ents_app (en : α → List Value) (k : α) (v : Int) : ∀ (m : List (α × Int)) (o : Nat), ents en o (m ++ [(k, v)]) = ents en o m ++ [{ key := .agg (en k).toArray, val := .int .i64 v, born := o + m.length }]
  | [], o => by simp [ents]
  | (a, w) :: r, o => by simp [ents, ents_app en k v r, Nat.add_assoc, Nat.add_comm 1]
theorem ents_modv (en : α → List Value) (k : α) (v : Int) : ∀ (m : List (α × Int)) (o : Nat), hasM k m = true → (ents en o m).modify (posM k m) (fun e => { e with val := .int .i64 v }) = ents en o (setM k v m)
  | [], o, h => by cases h
  | (a, w) :: r, o, h => by
    unfold hasM at h
    rw [posM, setM]
    split
    · rename_i e; subst e; simp [ents]
    · rename_i hn
      rw [if_neg hn] at h
      simp [ents, ents_modv en k v r (o + 1) h]
theorem ents_modk (en : α → List Value) (k : α) : ∀ (m : List (α × Int)) (o : Nat), hasM k m = true → (ents en o m).modify (posM k m) (fun e => { e with key := .agg (en k).toArray }) = ents en o m
  | [], o, h => by cases h
  | (a, w) :: r, o, h => by
    unfold hasM at h
    rw [posM]
    split
    · rename_i e; subst e; simp [ents]
    · rename_i hn
      rw [if_neg hn] at h
      simp [ents, ents_modk en k r (o + 1) h]
theorem ents_at (en : α → List Value) (k : α) : ∀ (m : List (α × Int)) (o : Nat), hasM k m = true → (ents en o m)[posM k m]? = some { key := .agg (en k).toArray, val := .int .i64 (getM k m), born := o + posM k m }
  | [], o, h => by cases h
  | (a, w) :: r, o, h => by
    unfold hasM at h
    rw [posM, getM]
    split
    · rename_i e; subst e; simp [ents]
    · rename_i hn
      rw [if_neg hn] at h
      simp [ents, ents_at en k r (o + 1) h, Nat.add_assoc, Nat.add_comm 1]
omit [DecidableEq α] in
theorem ents_born (en : α → List Value) : ∀ (m : List (α × Int)) (o p : Nat), p < m.length → (ents en o m).findIdx? (fun e => (e.born : Int) == ((o + p : Nat) : Int)) = some p
  | [], o, p, h => by simp at h
  | (a, w) :: r, o, 0, h => by simp [ents, List.findIdx?_cons]
  | (a, w) :: r, o, p + 1, h => by
    rw [ents, List.findIdx?_cons, if_neg (by simp; omega)]
    have := ents_born en r (o + 1) p (by simpa using h)
    rw [show o + 1 + p = o + (p + 1) by omega] at this
    rw [this]; rfl
/-- what is asked of a key's type -/
structure KeyT (P : Program) (T : TypeId) (en : α → List Value) : Prop where
  row : ∃ d, P.underlying T = some d ∧ d.isRow = true
  eq : ∀ (a b : α) (w : World), (Op.equal T (.agg (en a).toArray) (.agg (en b).toArray)).run P w = .ok (decide (a = b)) w
  chk : ∀ (b : Bool) (a : α) (w : World), (Instr.checkKey b 10000 T (.agg (en a).toArray)).run P w = .ok () w
  bits : ∀ a : α, Instr.sameBits 10000 (.agg (en a).toArray) (.agg (en a).toArray) = true
variable {P : Program} {T : TypeId} {en : α → List Value}
theorem run_asking (hk : KeyT P T en) (k : α) (w : World) : ∀ (m : List (α × Int)) (o i : Nat), (Instr.findAsking T (.agg (en k).toArray) (ents en o m) i).run P w = .ok (if hasM k m then some (i + posM k m, .int .i64 (getM k m)) else none) w
  | [], o, i => by simp [Instr.findAsking, ents, hasM]
  | (a, v) :: r, o, i => by
    rw [ents, Instr.findAsking, Sem.run_bind, hk.eq, Result.andThen_ok, hasM, posM, getM]
    by_cases h : k = a
    · simp [h]
    · simp only [h, decide_false, if_false, Bool.false_eq_true]
      rw [run_asking hk k w r (o + 1) (i + 1), show i + 1 + posM k r = i + (posM k r + 1) by omega]
theorem run_findKey (hk : KeyT P T en) (k : α) (m : List (α × Int)) (w : World) : (Instr.findKey T (.agg (en k).toArray) (ents en 0 m)).run P w = .ok (if hasM k m then some (posM k m, .int .i64 (getM k m)) else none) w := by
  obtain ⟨d, hd, hr⟩ := hk.row
  unfold Instr.findKey
  rw [Sem.run_bind, run_underlying hd, Result.andThen_ok]
  cases m with
  | nil => simp [ents, Instr.findNow, hasM]
  | cons p r =>
    obtain ⟨a, v⟩ := p
    have : Instr.findNow d (.agg (en k).toArray) (ents en 0 ((a, v) :: r)) 0 = none := by
      simp only [ents, Instr.findNow]
      cases d <;> first | rfl | cases hr
    rw [this]
    have := run_asking hk k w ((a, v) :: r) 0 0
    simpa using this
end
section
variable {α : Type} [DecidableEq α] {P : Program} {K E T : TypeId} {en : α → List Value} {pc : Bool} {o : Oper} {F : Fr} {M : List Blk} {x y z : Operand}
theorem tr_map {s : St} (ho : Ok s) {i b : Nat} {ob ob' : Obj} (hmh : mapH ob' (.map (some b))) (hM : s.M[i]? = some (.obj ob)) (hβ : s.β[i]? = some (.map (some b))) : s.w.heap[b]? = some ob ∧ Tr s ⟨s.β, s.I, s.M.set i (.obj ob'), s.w.putObj b ob'⟩ := by
  obtain ⟨b', e1, e2, _⟩ := ho.blk i _ _ hM hβ
  cases e1
  refine ⟨e2, ?_⟩
  have hil : i < s.M.length := (List.getElem?_eq_some_iff.1 hM).1
  have hlv : Live s b := live_of hM rfl hβ rfl
  have hbl := (ho.lt b hlv).1
  have := step_set ho i s.M (.map (some b)) (.obj ob') (s.w.putObj b ob') rfl (fun _ _ h => .inl h) hil (.inr (.inl hβ)) (by simp)
    ⟨b, rfl, World.putObj_heap_same hbl, hmh⟩
    (fun c hc j k h hne h1 h2 h3 h4 => by
      cases hc
      exact hne (ho.inj j i k _ h _ b h1 h2 h3 h4 hM rfl hβ rfl))
    (fun c hc => by cases hc; exact .inr hlv) (fun c hc => by cases hc; simpa using hbl) (fun _ => False) (fun _ h => h.elim)
    (fun c hc hne _ => World.putObj_heap_other (fun e => hne (by rw [e]; rfl))) rfl rfl rfl (by simp)
  have hil' : i < s.β.length := (List.getElem?_eq_some_iff.1 hβ).1
  have e : s.β.set i (.map (some b)) = s.β := by
    have : s.β[i] = .map (some b) := (List.getElem?_eq_some_iff.1 hβ).2
    rw [← this, List.set_getElem_self]
  rwa [e] at this
omit [DecidableEq α] in
/-- a new map -/
theorem op_mkm (en : α → List Value) (j : Nat) (ho : o.op = .makeMap T none) (hj : M[j]? = some .hole) : DOp P pc o F M [j] (.hnd j) [(j, .obj (mapO en []))] := by
  intro hp a s hok hops hfp
  have hj' : s.M[j]? = some .hole := by rw [hfp j (by simp)]; exact hj
  have hjl : j < s.β.length := by rw [hok.len]; exact (List.getElem?_eq_some_iff.1 hj').1
  have ht : Tr s ⟨s.β.set j (.map (some s.w.heap.size)), s.I, s.M.set j (.obj (mapO en [])), s.w.alloc (mapO en [])⟩ := by
    refine tr_new hok hj' _ _ _ (by simp) (fun b hb => by simpa [hb] using (Option.some.inj hb).symm) (fun b h => Below.heap_alloc _ _ _ h) (fun b hb => ?_) (by simp) rfl rfl rfl ⟨_, rfl, by simpa using heap_alloc_new s.w _, ⟨_, rfl⟩⟩
    cases hb; simp
  refine dg_step (v := .map (some s.w.heap.size)) ?_ ht rfl (.hnd (by simp [hjl]) (by simp) (by simp))
  unfold execOp
  simp only [ho]
  refine run_v ?_
  simp [Instr.makeMap, mapO, ents]
omit [DecidableEq α] in
theorem map_at {s : St} (hok : Ok s) {i : Nat} {m : List (α × Int)} {v : Value} (hM : s.M[i]? = some (.obj (mapO en m))) (hr : Rep s (.hnd i) v) : ∃ b, v = .map (some b) ∧ s.β[i]? = some (.map (some b)) ∧ s.w.heap[b]? = some (mapO en m) := by
  cases hr with
  | hnd hβ hn =>
    obtain ⟨b, e1, e2, b', e3⟩ := hok.blk i _ _ hM hβ
    subst e3
    cases e1
    exact ⟨b, rfl, hβ, e2⟩
theorem op_lkp {i : Nat} {k : α} {m : List (α × Int)} (hT : mpT P T = some (K, E)) (hE : zrV P E = some (.int .i64 0)) (hk : KeyT P K en) (ho : o.op = .lookup T x y false) (hx : Ev pc F x (.hnd i)) (hy : Ev pc F y (.val (.agg (en k).toArray))) (hM : M[i]? = some (.obj (mapO en m))) : DOp P pc o F M [i] (.val (.int .i64 (getM k m))) [] := by
  intro hp a s hok hops hfp
  have hM' : s.M[i]? = some (.obj (mapO en m)) := by rw [hfp i (by simp)]; exact hM
  obtain ⟨b, hv, hβ, hob⟩ := map_at hok hM' (ev_at hp hx (by simp [ho, Op.operands]) hops)
  have hry := (ev_at hp hy (by simp [ho, Op.operands]) hops).val_eq
  refine dg_val hok ?_ (.val _)
  unfold execOp
  simp only [ho, hv, hry]
  refine run_v ?_
  have hf := run_findKey hk k m s.w
  have hz : (zeroValue E).run P s.w = .ok (.int .i64 0) s.w := by
    unfold zrV at hE
    rw [Option.bind_eq_some_iff] at hE
    obtain ⟨inf, h1, h2⟩ := hE
    simp [zeroValue, typeInfo, h1, h2]
  unfold Instr.lookup
  rw [Sem.run_bind, run_underlying (mpT_spec hT), Result.andThen_ok]
  simp only [Sem.run_bind, getObj, Sem.run, hob, mapO, Result.andThen, hk.chk, hf]
  cases h : hasM k m with
  | true => simp [hk.chk, hf, h]
  | false => simp [hk.chk, hf, h, hz, getM_no h]
/-- an entry looked for, and made -/
theorem op_men {i : Nat} {k : α} {m : List (α × Int)} (hT : mpT P T = some (K, E)) (hE : zrV P E = some (.int .i64 0)) (hk : KeyT P K en) (ho : o.op = .mapEntry T x y) (hx : Ev pc F x (.hnd i)) (hy : Ev pc F y (.val (.agg (en k).toArray))) (hM : M[i]? = some (.obj (mapO en m))) :
    DOp P pc o F M [i] (.tup [.val (.int .i64 (getM k m)), .val (.int .i64 (posM k m))]) [(i, .obj (mapO en (setM k (getM k m) m)))] := by
  intro hp a s hok hops hfp
  have hM' : s.M[i]? = some (.obj (mapO en m)) := by rw [hfp i (by simp)]; exact hM
  obtain ⟨b, hv, hβ, hob⟩ := map_at hok hM' (ev_at hp hx (by simp [ho, Op.operands]) hops)
  have hry := (ev_at hp hy (by simp [ho, Op.operands]) hops).val_eq
  obtain ⟨_, ht⟩ := tr_map (ob' := mapO en (setM k (getM k m) m)) hok ⟨b, rfl⟩ hM' hβ
  have hf := run_findKey hk k m s.w
  have hz : ∀ w, (zeroValue E).run P w = .ok (.int .i64 0) w := fun w => by
    unfold zrV at hE
    rw [Option.bind_eq_some_iff] at hE
    obtain ⟨inf, h1, h2⟩ := hE
    simp [zeroValue, typeInfo, h1, h2]
  refine dg_step (v := .tuple #[.int .i64 (getM k m), .int .i64 (posM k m)]) ?_ ht rfl (Rep.tup (vs := [_, _]) rfl fun j d v hj hv => by
    match j with
    | 0 => simp at hj hv; subst hj hv; exact .val _
    | 1 => simp at hj hv; subst hj hv; exact .val _
    | j + 2 => simp at hj)
  unfold execOp
  simp only [ho, hv, hry]
  refine run_v ?_
  unfold Instr.mapEntry
  rw [Sem.run_bind, run_underlying (mpT_spec hT), Result.andThen_ok]
  simp only [Sem.run_bind, getObj, Sem.run, hob, mapO, Result.andThen, hk.chk, hf]
  cases h : hasM k m with
  | true =>
    have hat := ents_at en k m 0 h
    have hmo := ents_modk en k m 0 h
    simp [hf, h, Instr.keyThatStays, hat, hk.bits, setObj, Sem.run, World.putObj, setM_self h, hmo, hob, mapO, goInt]
  | false => simp [hf, h, hz, setObj, Sem.run, World.putObj, getM_no h, setM_no h, posM_no h, ents_app, hob, mapO, goInt]
theorem op_est {i : Nat} {k : α} {m : List (α × Int)} {v : Int} (hh : pc = true → hasM k m = true) (ho : o.op = .entryStore T x y z) (hx : Ev pc F x (.hnd i)) (hy : Ev pc F y (.val (.int .i64 (posM k m)))) (hz : Ev pc F z (.val (.int .i64 v))) (hM : M[i]? = some (.obj (mapO en m))) : DOp P pc o F M [i] .junk [(i, .obj (mapO en (setM k v m)))] := by
  intro hp a s hok hops hfp
  have hM' : s.M[i]? = some (.obj (mapO en m)) := by rw [hfp i (by simp)]; exact hM
  obtain ⟨b, hv, hβ, hob⟩ := map_at hok hM' (ev_at hp hx (by simp [ho, Op.operands]) hops)
  have hry := (ev_at hp hy (by simp [ho, Op.operands]) hops).val_eq
  have hrz := (ev_at hp hz (by simp [ho, Op.operands]) hops).val_eq
  obtain ⟨_, ht⟩ := tr_map (ob' := mapO en (setM k v m)) hok ⟨b, rfl⟩ hM' hβ
  refine dg_skip ?_ ht rfl
  have h := hh hp
  have hb := ents_born en m 0 (posM k m) (posM_lt h)
  have hmo := ents_modv en k v m 0 h
  simp only [Nat.zero_add] at hb
  unfold execOp
  simp only [ho, hv, hry, hrz]
  refine run_u ?_
  unfold Instr.entryStore
  simp [Sem.run_bind, getObj, Sem.run, hob, mapO, Result.andThen, asInt, asIntOf, hb, hmo, setObj, World.putObj, setM_len, h]
end
section
variable {P : Program} {pc : Bool} {o : Oper} {F : Fr} {M : List Blk} {T : TypeId} {x y : Operand} {n sz : Nat} {k : IntKind} {z : Int} {α : Type} {en : α → List Value} {l : List α} {j : Nat}
end
section
variable {P : Program} {s0 : St} {n : Cx}
end
section
variable {α : Type} [DecidableEq α] {P : Program} {K E T : TypeId} {en : α → List Value} {pc : Bool} {o : Oper} {F : Fr} {M : List Blk} {x y z : Operand}
theorem op_men2 {i : Nat} {k : α} {m : List (α × Int)} (hT : mpT P T = some (K, E)) (hE : zrV P E = some (.int .i64 0)) (hk : KeyT P K en) (ho : o.op = .mapEntry T x y) (hx : Ev pc F x (.hnd i)) (hy : Ev pc F y (.val (.agg (en k).toArray))) (hM : M[i]? = some (.obj (mapO en m))) :
    DOp P pc o F M [i] (.tup [.val (.int .i64 (getM k m)), .val (.int .i64 (posM k (setM k (getM k m) m)))]) [(i, .obj (mapO en (setM k (getM k m) m)))] := by
  rw [posM_set]
  exact op_men hT hE hk ho hx hy hM
theorem op_est2 {i : Nat} {k : α} {m : List (α × Int)} {v v0 : Int} (ho : o.op = .entryStore T x y z) (hx : Ev pc F x (.hnd i)) (hy : Ev pc F y (.val (.int .i64 (posM k (setM k v0 m))))) (hz : Ev pc F z (.val (.int .i64 v))) (hM : M[i]? = some (.obj (mapO en (setM k v0 m)))) : DOp P pc o F M [i] .junk [(i, .obj (mapO en (setM k v m)))] := by
  have h := op_est (P := P) (en := en) (fun _ => hasM_set (v := v0) (k := k) m) ho hx hy hz hM
  rwa [setM_set] at h
theorem getM_set {k k' : α} {v : Int} : ∀ (m : List (α × Int)), getM k' (setM k v m) = if k' = k then v else getM k' m
  | [] => by
    rw [setM, getM]
    rfl
  | (a, w) :: r => by
    rw [setM]
    by_cases h : k = a
    · subst h
      rw [if_pos rfl, getM, getM]
      by_cases h2 : k' = k
      · rw [if_pos h2, if_pos h2]
      · rw [if_neg h2, if_neg h2, if_neg h2]
    · rw [if_neg h, getM, getM, getM_set r]
      by_cases h2 : k' = a
      · rw [if_pos h2, if_pos h2, if_neg (fun e => h (by rw [← e, h2]))]
      · rw [if_neg h2, if_neg h2]
end
def pairOkS (ops : Array Oper) (bj : Nat) (si sj i j : Nat) (oi oj : Oper) (fi fj : List Nat × List Nat) : Bool :=
  bj.testBit i || !(meet oi.dst.toList (namesOf ops oj) || meet (namesOf ops oi) oj.dst.toList || meet fi.2 fj.1 || (meet fi.1 fj.2 && !(i == si && j == sj)))
def drawOkS (si sj n : Nat) (l : List Oper) (fps : List (List Nat × List Nat)) : Bool :=
  let bs := befL l []
  (fps.length == l.length && (List.range l.length).all fun j =>
    match l[j]?, fps[j]? with
    | some oj, some fj => oj.after.all (fun e => !Region.binds .any e || Nat.blt e.on j) && dstB n oj.dst && noDef oj.op && fj.2.all (fun x => fj.1.contains x) && (List.range j).all fun i =>
      match l[i]?, fps[i]? with
      | some oi, some fi => pairOkS l.toArray (bs.getD j 0) si sj i j oi oj fi fj
      | _, _ => false
    | _, _ => false) && ((List.range l.length).all fun j => match fps[si]?, fps[j]? with
      | some fi, some fj => !(Nat.blt si j && Nat.blt j sj) || !(meet fi.1 fj.2)
      | _, _ => false) && Nat.blt si sj && Nat.blt sj l.length
/-- the walk in the text's order; operation si reads the same when sj has been done -/
def LexS (P : Program) (ops : Array Oper) (si sj : Nat) (fpi : List Nat) (M' : List Blk) : Nat → List Oper → List (List Nat × List Nat) → Fr → List Blk → (Fr → List Blk → Prop) → Prop
  | _, [], _, F, M, Q => Q F M
  | _, _ :: _, [], _, _, _ => False
  | k, o :: rest, (fp, wi) :: fps, F, M, Q => ∃ pc d wr, Gd ops o F pc ∧ DOp P pc o F M fp d wr ∧ wr.map (·.1) = wi ∧ (o.guard.isSome = true → wr = []) ∧ ((k = si → fp = fpi ∧ wr = [] ∧ DOp P pc o F M' fp d []) ∧ (k = sj → ∀ x ∈ fpi, (upd M wr)[x]? = M'[x]?)) ∧ LexS P ops si sj fpi M' (k + 1) rest fps (putF o.dst (gdd o pc d) F) (upd M wr) Q
theorem lex_recsS {P : Program} {ops : Array Oper} {si sj : Nat} {fpi : List Nat} {M' : List Blk} {Q : Fr → List Blk → Prop} : ∀ (l : List Oper) (fps : List (List Nat × List Nat)) (F : Fr) (M : List Blk) (b : Nat), fps.length = l.length → LexS P ops si sj fpi M' b l fps F M Q →
    ∃ E : List Rc, E.length = l.length ∧ Q (Fup l E F l.length) (Mup E M l.length) ∧ ∀ (k : Nat) o f, l[k]? = some o → fps[k]? = some f → ∃ pc d r, E[k]? = some r ∧ r.d = gdd o pc d ∧ Gd ops o (Fup l E F k) pc ∧ DOp P pc o (Fup l E F k) (Mup E M k) f.1 d r.wr ∧ r.wr.map (·.1) = f.2 ∧ (o.guard.isSome = true → r.wr = []) ∧
      (b + k = si → f.1 = fpi ∧ r.wr = [] ∧ DOp P pc o (Fup l E F k) M' f.1 d []) ∧ (b + k = sj → ∀ x ∈ fpi, (Mup E M (k + 1))[x]? = M'[x]?)
  | [], [], F, M, b, _, h => ⟨[], rfl, h, fun k o f hk => by simp at hk⟩
  | o :: l, (fp, wi) :: fps, F, M, b, hl, h => by
    obtain ⟨pc, d, wr, h1, h2, h3, h4, ⟨g1, g2⟩, h5⟩ := h
    obtain ⟨E, e1, e2, e3⟩ := lex_recsS l fps _ _ (b + 1) (by simpa using hl) h5
    have fup : ∀ k, Fup (o :: l) (⟨gdd o pc d, wr⟩ :: E) F (k + 1) = Fup l E (putF o.dst (gdd o pc d) F) k := by
      intro k
      induction k with
      | zero => rfl
      | succ k ih =>
        rw [Fup]
        simp only [List.getElem?_cons_succ]
        rw [ih]
        conv => rhs; rw [Fup]
    have mup : ∀ k, Mup (⟨gdd o pc d, wr⟩ :: E) M (k + 1) = Mup E (upd M wr) k := by
      intro k
      induction k with
      | zero => rfl
      | succ k ih =>
        rw [Mup]
        simp only [List.getElem?_cons_succ]
        rw [ih]
        conv => rhs; rw [Mup]
    refine ⟨⟨gdd o pc d, wr⟩ :: E, by simp [e1], by rw [List.length_cons, fup, mup]; exact e2, fun k p f hk hf => ?_⟩
    cases k with
    | zero =>
      simp at hk hf
      subst hk; subst hf
      exact ⟨pc, d, _, rfl, rfl, h1, h2, h3, h4, g1, fun e => by rw [mup]; exact g2 e⟩
    | succ k =>
      rw [fup, mup, mup, show b + (k + 1) = b + 1 + k by omega]
      simpa using e3 k p f (by simpa using hk) (by simpa using hf)
  | [], _ :: _, _, _, _, hl, _ => by simp at hl
  | _ :: _, [], _, _, _, hl, _ => by simp at hl
section
variable {P : Program} {ops : Array Oper} {si sj k : Nat} {fpi : List Nat} {M' : List Blk} {o : Oper} {rest : List Oper} {fp wi : List Nat} {fps : List (List Nat × List Nat)} {F : Fr} {M M1 : List Blk} {Q : Fr → List Blk → Prop} {d : D} {wr : List (Nat × Blk)} {t : Nat}
theorem lexS_op (hk : (k == si || k == sj) = false) (hg : o.guard = none) (h : DOp P true o F M fp d wr) (hw : wr.map (·.1) = wi)
    (hq : LexS P ops si sj fpi M' (k + 1) rest fps (putF o.dst d F) (upd M wr) Q) : LexS P ops si sj fpi M' k (o :: rest) ((fp, wi) :: fps) F M Q := by
  simp only [Bool.or_eq_false_iff, beq_eq_false_iff_ne] at hk
  unfold LexS
  refine ⟨true, d, wr, gd_n hg, h, hw, fun h => ?_, ⟨fun e => absurd e hk.1, fun e => absurd e hk.2⟩, ?_⟩
  · rw [hg] at h; cases h
  · unfold gdd; rw [hg]; exact hq
theorem lexS_r (hk : (k == si || k == sj) = false) (hg : o.guard = none) (hd : o.dst = some t) (h : DOp P true o F M fp d [])
    (hq : LexS P ops si sj fpi M' (k + 1) rest fps ((t, d) :: F) M Q) : LexS P ops si sj fpi M' k (o :: rest) ((fp, []) :: fps) F M Q := lexS_op hk hg h rfl (by rw [hd]; exact hq)
theorem lexS_s (hk : (k == si || k == sj) = false) (hg : o.guard = none) (hd : o.dst = none) (h : DOp P true o F M fp d wr) (hw : wr.map (·.1) = wi) (hM : upd M wr = M1)
    (hq : LexS P ops si sj fpi M' (k + 1) rest fps F M1 Q) : LexS P ops si sj fpi M' k (o :: rest) ((fp, wi) :: fps) F M Q := lexS_op hk hg h hw (by rw [hd, hM]; exact hq)
theorem lexS_i (hk : (k == si && !(k == sj)) = true) (hf : fp = fpi) (hg : o.guard = none) (hd : o.dst = some t) (h : DOp P true o F M fp d []) (h' : DOp P true o F M' fp d [])
    (hq : LexS P ops si sj fpi M' (k + 1) rest fps ((t, d) :: F) M Q) : LexS P ops si sj fpi M' k (o :: rest) ((fp, []) :: fps) F M Q := by
  simp only [Bool.and_eq_true, Bool.not_eq_true', beq_iff_eq, beq_eq_false_iff_ne] at hk
  unfold LexS
  refine ⟨true, d, [], gd_n hg, h, rfl, fun _ => rfl, ⟨fun _ => ⟨hf, rfl, h'⟩, fun e => absurd e hk.2⟩, ?_⟩
  unfold gdd; rw [hg, hd]; exact hq
theorem lexS_j (hk : (k == sj && !(k == si)) = true) (hg : o.guard = none) (hd : o.dst = some t) (h : DOp P true o F M fp d wr) (hw : wr.map (·.1) = wi) (hM : upd M wr = M1) (hM' : ∀ x ∈ fpi, M1[x]? = M'[x]?)
    (hq : LexS P ops si sj fpi M' (k + 1) rest fps ((t, d) :: F) M1 Q) : LexS P ops si sj fpi M' k (o :: rest) ((fp, wi) :: fps) F M Q := by
  simp only [Bool.and_eq_true, Bool.not_eq_true', beq_iff_eq, beq_eq_false_iff_ne] at hk
  unfold LexS
  refine ⟨true, d, wr, gd_n hg, h, hw, fun h => ?_, ⟨fun e => absurd e hk.2, fun _ => by rw [hM]; exact hM'⟩, ?_⟩
  · rw [hg] at h; cases h
  · unfold gdd; rw [hg, hd, hM]; exact hq
theorem lexS_nil (h : Q F M) : LexS P ops si sj fpi M' k [] [] F M Q := h
end
theorem op_lkp2 {α : Type} [DecidableEq α] {P : Program} {K E T : TypeId} {en : α → List Value} {pc : Bool} {o : Oper} {F : Fr} {M : List Blk} {x y : Operand} {i : Nat} {k : α} {m : List (α × Int)} (hT : mpT P T = some (K, E)) (hE : zrV P E = some (.int .i64 0)) (hk : KeyT P K en) (ho : o.op = .lookup T x y false) (hx : Ev pc F x (.hnd i)) (hy : Ev pc F y (.val (.agg (en k).toArray))) (hM : M[i]? = some (.obj (mapO en (setM k (getM k m) m)))) : DOp P pc o F M [i] (.val (.int .i64 (getM k m))) [] := by
  have h := op_lkp hT hE hk ho hx hy hM
  rwa [getM_set, if_pos rfl] at h
/-- **A region that draws its order**, in which one operation looks at what a later one may turn before it: it reads the same there. -/
theorem dwp_draw2 {P : Program} {s0 : St} {n : Cx} {id : Nat} {l : List Oper} {F : Fr} {M : List Blk} {K : Cont} (si sj : Nat) (fpi : List Nat) (M' : List Blk) (fps : List (List Nat × List Nat)) (hm : P.follows .mixedOrders = true) (hB : drawOkS si sj n.n l fps = true) (h : LexS P l.toArray si sj fpi M' 0 l fps F M (fun F M => K .normal F M)) :
    dwp P s0 n (.region id l.toArray true) F M K := by
  intro a w hi
  refine wpIn_region_any hm ?_
  simp only [drawOkS, Bool.and_eq_true, beq_iff_eq, List.all_eq_true, List.mem_range] at hB
  obtain ⟨⟨⟨⟨hlen, hB⟩, hmid0⟩, hsij⟩, hsj⟩ := hB
  have hsij := Nat.blt_eq.mp hsij
  have hsj := Nat.blt_eq.mp hsj
  obtain ⟨E, e1, e2, e3'⟩ := lex_recsS l fps F M 0 hlen h
  have e3 : ∀ (k : Nat) o f, l[k]? = some o → fps[k]? = some f → ∃ pc d r, E[k]? = some r ∧ r.d = gdd o pc d ∧ Gd l.toArray o (Fup l E F k) pc ∧ DOp P pc o (Fup l E F k) (Mup E M k) f.1 d r.wr ∧ r.wr.map (·.1) = f.2 ∧ (o.guard.isSome = true → r.wr = []) := fun k o f h1 h2 => by
    obtain ⟨pc, d, r, q1, q2, q3, q4, q5, q6, _⟩ := e3' k o f h1 h2
    exact ⟨pc, d, r, q1, q2, q3, q4, q5, q6⟩
  have at_ : ∀ k, k < l.length → ∃ o f, l[k]? = some o ∧ fps[k]? = some f := fun k hk => ⟨l[k], fps[k], List.getElem?_eq_getElem hk, List.getElem?_eq_getElem (by omega)⟩
  have hone : ∀ (j : Nat) o f, l[j]? = some o → fps[j]? = some f → (∀ e ∈ o.after.toList, Region.binds .any e = true → e.on < j) ∧ dstB n.n o.dst = true ∧ noDef o.op = true ∧ (∀ x ∈ f.2, x ∈ f.1) ∧ ∀ (i : Nat) oi fi, i < j → l[i]? = some oi → fps[i]? = some fi → ahead l i j = true ∨ (meet oi.dst.toList (namesOf l.toArray o) = false ∧ meet (namesOf l.toArray oi) o.dst.toList = false ∧ meet fi.2 f.1 = false ∧ (meet fi.1 f.2 = false ∨ (i = si ∧ j = sj))) := by
    intro j o f ho hf
    have hj : j < l.length := (List.getElem?_eq_some_iff.1 ho).1
    have h1 := hB j hj
    rw [ho, hf] at h1
    simp only [Bool.and_eq_true, List.all_eq_true, List.mem_range] at h1
    obtain ⟨⟨⟨⟨h1, h2⟩, hnd⟩, h3⟩, h4⟩ := h1
    refine ⟨fun e he hb => ?_, h2, hnd, fun x hx => by simpa using h3 x hx, fun i oi fi hij hoi hfi => ?_⟩
    · have := Array.all_eq_true_iff_forall_mem.1 h1 e (by simpa using he)
      rw [hb] at this
      exact Nat.blt_eq.mp (by simpa using this)
    · have h5 := h4 i hij
      rw [hoi, hfi] at h5
      simp only [pairOkS, Bool.or_eq_true, Bool.not_eq_true', Bool.or_eq_false_iff] at h5
      rcases h5 with h5 | h5
      · exact .inl h5
      · refine .inr ⟨h5.1.1.1, h5.1.1.2, h5.1.2, ?_⟩
        have h6 := h5.2
        simp only [Bool.and_eq_false_iff, Bool.not_eq_false', Bool.and_eq_true, beq_iff_eq] at h6
        exact h6
  have meet_no : ∀ {x : List Nat} {y : List Nat} {t : Nat}, meet x y = false → t ∈ x → t ∈ y → False := by
    intro x y t hm hx hy
    simp only [meet, List.any_eq_false] at hm
    exact hm t hx (by simpa using hy)
  have hM0 : ∃ s : St, s.M = M := by obtain ⟨_, s, h1, _⟩ := hi; exact ⟨s, h1⟩
  -- the state when some have been done
  have main : ∀ (f : Nat) (listed : Array Bool) (b : Act) (s : St), Ok s0 → listed.size = l.length → unl listed l.length = f → Tr s0 s →
      (∀ t d, lkS l E F (fun k => listed.getD k false) t l.length = some d → Rep s d (slot b t)) → s.M.length = M.length → (∀ i, i < M.length → s.M[i]? = memS E M (fun k => listed.getD k false) i l.length) →
      b.tmps.size = n.n → DfOk s0 s n.mks n.U b.defers → (∀ j i, listed.getD j false = true → j < l.length → ahead l i j = true → listed.getD i false = true) →
      wpAnyIn (wd (n.ρ s0)) 0 P .any l.toArray (PostK s0 n K) f listed b s.w := by
    intro f
    induction f with
    | zero =>
      intro listed b s h0 hs hu ht hF hMl hM hn hd _
      have hall := unl_zero _ hu
      refine ⟨?_, ?_⟩
      · cases hr : Region.ready .any l.toArray listed with
        | nil => rfl
        | cons i r =>
          have hi : i ∈ Region.ready .any l.toArray listed := by rw [hr]; exact List.mem_cons_self ..
          obtain ⟨h1, o, h2, _⟩ := mem_ready.1 hi
          have hil : i < l.length := by simpa using (Array.getElem?_eq_some_iff.1 h2).1
          rw [getD_tf hs hil, hall i hil] at h1
          cases h1
      · refine ⟨_, _, ⟨h0, s, ?_, rfl, ht, ?_, hn, hd⟩, e2⟩
        · refine List.ext_getElem? fun i => ?_
          by_cases hi : i < M.length
          · rw [hM i hi, mup_at i hi]
            exact memS_congr _ fun j r hj _ _ => hall j hj
          · rw [List.getElem?_eq_none (by omega), List.getElem?_eq_none (by rw [Mup_len]; omega)]
        · intro t d hd'
          rw [fup_lk] at hd'
          refine hF t d ?_
          rw [← hd']
          exact lkS_congr _ fun j o hj _ _ => hall j hj
    | succ f ih =>
      intro listed b s h0 hs hu ht hF hMl hM hn hd hcl
      refine ⟨fun hnone => ?_, fun i hi => ?_⟩
      · exfalso
        obtain ⟨i, h1, h2, h3⟩ := unl_some l.length (listed := listed) (by omega)
        obtain ⟨o, fi, ho, hfi⟩ := at_ i h1
        obtain ⟨g1, _⟩ := hone i o fi ho hfi
        have : i ∈ Region.ready .any l.toArray listed := mem_ready.2 ⟨by rw [getD_tf hs h1]; exact h2, o, by simpa using ho, fun e he hb => h3 _ (g1 e (by simpa using he) hb)⟩
        rw [hnone] at this
        cases this
      · obtain ⟨hun, o, ho, hall⟩ := mem_ready.1 hi
        have ho' : l[i]? = some o := by simpa using ho
        have hil : i < l.length := (List.getElem?_eq_some_iff.1 ho').1
        rw [getD_tf hs hil] at hun
        obtain ⟨fi, hfi⟩ : ∃ fi, fps[i]? = some fi := ⟨fps[i], List.getElem?_eq_getElem (by omega)⟩
        obtain ⟨pc, d, r, hr, hrd, hg, hop, hwi, hgw, hsoft, _⟩ := e3' i o fi ho' hfi
        rw [Nat.zero_add] at hsoft
        obtain ⟨g1, g2, hnd, g3, g4⟩ := hone i o fi ho' hfi
        -- what stands ahead of i has been done
        have done : ∀ j, ahead l j i = true → listed.getD j false = true := by
          intro j hj
          obtain ⟨e, he, hb, hcase⟩ := ahead_step ho' hj
          have h1 := hall e (by simpa using he) hb
          rcases hcase with rfl | ⟨h2, h3⟩
          · exact h1
          · exact hcl e.on j h1 (by omega) h3
        have undone : ∀ j, j < l.length → ahead l i j = true → listed.getD j false = false := by
          intro j hj h1
          cases e : listed.getD j false with
          | false => rfl
          | true => rw [hcl j i e hj h1] at hun; cases hun
        have tset : ∀ t, t ∈ namesOf l.toArray o → lkS l E F (fun k => listed.getD k false) t l.length = lkS l E F (fun _ => true) t i := by
          intro t ht
          rw [lkS_cut i l.length (by omega) fun j oj h1 h2 hj hjd => ?_]
          · refine lkS_congr i fun j oj hj hoj hjd => ?_
            obtain ⟨fj, hfj⟩ : ∃ fj, fps[j]? = some fj := ⟨fps[j], List.getElem?_eq_getElem (by omega)⟩
            rcases g4 j oj fj hj hoj hfj with h1 | h1
            · exact done j h1
            · exact (meet_no h1.1 (by simp [hjd]) ht).elim
          · by_cases e : j = i
            · subst e; exact hun
            · obtain ⟨fj, hfj⟩ : ∃ fj, fps[j]? = some fj := ⟨fps[j], List.getElem?_eq_getElem (by omega)⟩
              rcases (hone j oj fj hj hfj).2.2.2.2 i o fi (by omega) ho' hfi with h3 | h3
              · exact undone j h2 h3
              · exact (meet_no h3.2.1 ht (by simp [hjd])).elim
        have wmem0 : ∀ x, x ∈ fi.1 → ∀ (j : Nat) rj fj, E[j]? = some rj → fps[j]? = some fj → j < l.length → (wrAt rj.wr x).isSome = true → x ∈ fj.2 := by
          intro x _ j rj fj hrj hfj hj hw
          obtain ⟨oj, _, hoj, _⟩ := at_ j hj
          obtain ⟨_, _, r', hr', _, _, _, hw', _⟩ := e3 j oj fj hoj hfj
          rw [hrj] at hr'
          obtain rfl := Option.some.inj hr'
          rw [← hw']
          refine Classical.byContradiction fun hno => ?_
          rw [wrAt_none _ _ hno] at hw
          cases hw
        have msetS : i = si → listed.getD sj false = true → ∀ x, x ∈ fi.1 → memS E M (fun k => listed.getD k false) x l.length = memS E M (fun _ => true) x (sj + 1) := by
          intro hisi hsl x hx
          have hwr0 : fi.2 = [] := by rw [← hwi, (hsoft hisi).2.1]; rfl
          rw [memS_cut (sj + 1) l.length (by omega) fun j rj h1 h2 hrj hw => ?_]
          · refine memS_congr (sj + 1) fun j rj hj hrj hw => ?_
            obtain ⟨oj, fj, hoj, hfj⟩ := at_ j (by omega)
            have hxw := wmem0 x hx j rj fj hrj hfj (by omega) hw
            rcases Nat.lt_trichotomy j i with hji | rfl | hji
            · rcases g4 j oj fj hji hoj hfj with h1 | h1
              · exact done j h1
              · exact (meet_no h1.2.2.1 hxw hx).elim
            · rw [hfi] at hfj
              obtain rfl := Option.some.inj hfj
              rw [hwr0] at hxw
              cases hxw
            · by_cases e : j = sj
              · subst e; exact hsl
              · have h7 := hmid0 j (by omega)
                rw [← hisi, hfi, hfj] at h7
                simp only [Bool.or_eq_true, Bool.not_eq_true', Bool.and_eq_false_iff] at h7
                rcases h7 with (h7 | h7) | h7
                · exact absurd (Nat.blt_eq.mpr hji) (by simp [h7])
                · exact absurd (Nat.blt_eq.mpr (show j < sj by omega)) (by simp [h7])
                · exact (meet_no h7 hx hxw).elim
          · obtain ⟨oj, fj, hoj, hfj⟩ := at_ j (by omega)
            rcases (hone j oj fj hoj hfj).2.2.2.2 i o fi (by omega) ho' hfi with h3 | h3
            · exact undone j h2 h3
            · rcases h3.2.2.2 with h4 | h4
              · exact (meet_no h4 hx (wmem0 x hx j rj fj hrj hfj h2 hw)).elim
              · omega
        have mset : (i = si → listed.getD sj false = false) → ∀ x, x ∈ fi.1 → memS E M (fun k => listed.getD k false) x l.length = memS E M (fun _ => true) x i := by
          intro hsf x hx
          have wmem : ∀ (j : Nat) rj fj, E[j]? = some rj → fps[j]? = some fj → j < l.length → (wrAt rj.wr x).isSome = true → x ∈ fj.2 := by
            intro j rj fj hrj hfj hj hw
            obtain ⟨oj, _, hoj, _⟩ := at_ j hj
            obtain ⟨_, _, r', hr', _, _, _, hw', _⟩ := e3 j oj fj hoj hfj
            rw [hrj] at hr'
            obtain rfl := Option.some.inj hr'
            rw [← hw']
            refine Classical.byContradiction fun hno => ?_
            rw [wrAt_none _ _ hno] at hw
            cases hw
          rw [memS_cut i l.length (by omega) fun j rj h1 h2 hrj hw => ?_]
          · refine memS_congr i fun j rj hj hrj hw => ?_
            obtain ⟨oj, fj, hoj, hfj⟩ := at_ j (by omega)
            rcases g4 j oj fj hj hoj hfj with h1 | h1
            · exact done j h1
            · exact (meet_no h1.2.2.1 (wmem j rj fj hrj hfj (by omega) hw) hx).elim
          · by_cases e : j = i
            · subst e; exact hun
            · obtain ⟨oj, fj, hoj, hfj⟩ := at_ j (by omega)
              rcases (hone j oj fj hoj hfj).2.2.2.2 i o fi (by omega) ho' hfi with h3 | h3
              · exact undone j h2 h3
              · rcases h3.2.2.2 with h4 | h4
                · exact (meet_no h4 hx (wmem j rj fj hrj hfj h2 hw)).elim
                · rw [h4.2]; exact hsf h4.1
        have hslot : ∀ t d, t ∈ o.looksAt l.toArray → lk (Fup l E F i) t = some d → Rep s d (slot b t) := by
          intro t d' ht hd'
          refine hF t d' ?_
          rw [tset t (List.mem_append_left _ ht), ← fup_lk]
          exact hd'
        have next : ∀ (s' : St) (v : Value), Tr s s' → s'.M = upd s.M r.wr → Rep s' r.d v → wpAnyIn (wd (n.ρ s0)) 0 P .any l.toArray (PostK s0 n K) f (listed.setIfInBounds i true) (b.put o.dst v) s'.w := by
          intro s' v ht' hM' hrep
          have hset : ∀ k, (listed.setIfInBounds i true).getD k false = if i = k then true else listed.getD k false := fun k => getD_set _ _ _ (by rw [hs]; exact hil)
          refine ih _ _ s' h0 (by simp [hs]) ?_ (ht.trans ht') ?_ (by rw [hM', upd_len, hMl]) ?_ (by rw [put_size]; exact hn) (by rw [put_def]; exact hd.mono ht.ok ht') ?_
          · have := unl_set (by rw [hs]; exact hil) hun l.length
            rw [if_pos hil] at this
            omega
          · intro t d' hd'
            by_cases htd : o.dst = some t
            · have e : lkS l E F (fun k => (listed.setIfInBounds i true).getD k false) t l.length = some r.d := by
                rw [lkS_cut (i + 1) l.length (by omega) fun j oj h1 h2 hj hjd => ?_]
                · unfold lkS
                  rw [ho', hr]
                  simp only
                  rw [if_pos ⟨by rw [hset, if_pos rfl], htd⟩]
                · rw [hset, if_neg (by omega)]
                  obtain ⟨fj, hfj⟩ : ∃ fj, fps[j]? = some fj := ⟨fps[j], List.getElem?_eq_getElem (by omega)⟩
                  rcases (hone j oj fj hj hfj).2.2.2.2 i o fi (by omega) ho' hfi with h3 | h3
                  · exact undone j h2 h3
                  · exact (meet_no (t := t) h3.2.1 (List.mem_append_right _ (by simp [htd])) (by simp [hjd])).elim
              rw [e] at hd'
              obtain rfl := Option.some.inj hd'
              have hsz : t < b.tmps.size := by
                rw [htd] at g2
                rw [hn]
                exact Nat.blt_eq.mp g2
              rw [htd, slot_put, if_pos ⟨rfl, hsz⟩]
              exact hrep
            · have e : slot (b.put o.dst v) t = slot b t := by
                cases hod : o.dst with
                | none => rfl
                | some x => rw [slot_put, if_neg (fun q => htd (by rw [hod, q.1]))]
              rw [e]
              refine (hF t d' ?_).mono ht.ok ht'
              rw [← hd']
              refine lkS_congr _ fun j oj hj hoj hjd => ?_
              rw [hset]
              by_cases ej : i = j
              · subst ej
                rw [ho'] at hoj
                obtain rfl := Option.some.inj hoj
                exact absurd hjd htd
              · rw [if_neg ej]
          · intro x hx
            rw [hM', upd_get _ _ _ (by omega), hM x hx]
            cases hw : wrAt r.wr x with
            | none =>
              rw [Option.none_or]
              refine memS_congr _ fun j rj hj hrj hwj => ?_
              rw [hset]
              by_cases ej : i = j
              · subst ej
                rw [hr] at hrj
                obtain rfl := Option.some.inj hrj
                rw [hw] at hwj; cases hwj
              · rw [if_neg ej]
            | some k =>
              rw [Option.some_or]
              have hxw : x ∈ fi.2 := by
                rw [← hwi]
                refine Classical.byContradiction fun hno => ?_
                rw [wrAt_none _ _ hno] at hw
                cases hw
              rw [memS_cut (i + 1) l.length (by omega) fun j rj h1 h2 hrj hwj => ?_]
              · unfold memS
                rw [hr]
                simp only
                rw [if_pos (by rw [hset, if_pos rfl]), hw, Option.some_or]
              · rw [hset, if_neg (by omega)]
                obtain ⟨oj, fj, hoj, hfj⟩ := at_ j (by omega)
                rcases (hone j oj fj hoj hfj).2.2.2.2 i o fi (by omega) ho' hfi with h3 | h3
                · exact undone j h2 h3
                · rcases h3.2.2.2 with h4 | h4
                  rotate_left
                  · rw [← hwi, (hsoft h4.1).2.1] at hxw
                    cases hxw
                  refine (meet_no h4 (g3 x hxw) ?_).elim
                  obtain ⟨_, _, r', hr', _, _, _, hw', _⟩ := e3 j oj fj hoj hfj
                  rw [hrj] at hr'
                  obtain rfl := Option.some.inj hr'
                  rw [← hw']
                  refine Classical.byContradiction fun hno => ?_
                  rw [wrAt_none _ _ hno] at hwj
                  cases hwj
          · intro j k hj hjl hk
            rw [hset] at hj ⊢
            by_cases e : i = k
            · rw [if_pos e]
            · rw [if_neg e]
              by_cases ej : i = j
              · subst ej; exact done k hk
              · rw [if_neg ej] at hj
                exact hcl j k hj hjl hk
        unfold wpOpIn
        rw [ho]
        simp only
        rw [gd_wanted hg hslot]
        cases pc with
        | true =>
          rw [if_pos rfl]
          have hlook : ∀ x ∈ o.op.operands, ∀ d', ev (Fup l E F i) x = some d' → Rep s d' (b.eval x) := fun x hx d' hd' => by
            cases x with
            | tmp t => exact hslot t d' (List.mem_append_left _ (List.mem_filterMap.2 ⟨.tmp t, by simpa using hx, rfl⟩)) hd'
            | const v => obtain rfl := Option.some.inj hd'; exact .val v
            | func g => obtain rfl := Option.some.inj hd'; exact Rep.fn (vs := []) (us := []) rfl rfl (fun j d v h => by simp at h) (fun j d v h => by simp at h)
            | global g => obtain rfl := Option.some.inj hd'; exact .val _
          have hgive : DGives P s (fun s' v => s'.M = upd s.M r.wr ∧ Rep s' d v) ((execOp b.eval o).run P s.w) := by
            by_cases hsf : i = si ∧ listed.getD sj false = true
            · obtain ⟨hs1, hs2⟩ := hsf
              obtain ⟨hfp, hwr, hop2⟩ := hsoft hs1
              rw [hwr]
              refine hop2 rfl b s ht.ok hlook fun x hx => ?_
              obtain ⟨oj, fj, hoj, hfj⟩ := at_ sj hsj
              obtain ⟨_, _, _, _, _, _, _, _, _, _, hj⟩ := e3' sj oj fj hoj hfj
              have hj := hj (Nat.zero_add _) x (by rw [← hfp]; exact hx)
              rw [← hj]
              by_cases hxl : x < M.length
              · rw [hM x hxl, msetS hs1 hs2 x hx, ← mup_at x hxl]
              · rw [List.getElem?_eq_none (by omega), List.getElem?_eq_none (by rw [Mup_len]; omega)]
            · refine hop rfl b s ht.ok hlook fun x hx => ?_
              by_cases hxl : x < M.length
              · rw [hM x hxl, mup_at x hxl, mset (fun e => by
                  cases h : listed.getD sj false with
                  | false => rfl
                  | true => exact absurd ⟨e, h⟩ hsf) x hx]
              · rw [List.getElem?_eq_none (by omega), List.getElem?_eq_none (by rw [Mup_len]; omega)]
          refine dgives_in hnd hgive fun s' v ht' ⟨q1, q2⟩ => next s' v ht' q1 ?_
          · rw [hrd]
            unfold gdd
            split
            · exact q2
            · exact .opt (fun _ => q2) (fun h => by cases h)
        | false =>
          rw [if_neg (by simp)]
          have hgs : o.guard.isSome = true := by
            unfold Gd at hg
            cases e : o.guard with
            | none => rw [e] at hg; cases hg
            | some x => rfl
          refine ⟨fun _ _ => trivial, next s undef (Tr.refl ht.ok) (by rw [hgw hgs]; rfl) ?_⟩
          rw [hrd]
          unfold gdd
          split
          · rename_i e; rw [e] at hgs; cases hgs
          · exact .opt (fun h => by cases h) (fun _ => rfl)
  obtain ⟨h0, s, h1, h2, h3, h4, h5, h6⟩ := hi
  subst h1 h2
  have hst := step_same h3.ok { s.w with drawn := s.w.drawn + 1 } rfl rfl rfl rfl
  have hno : ∀ k, (Array.replicate l.toArray.size false).getD k false = false := fun k => by
    simp only [Array.getD_eq_getD_getElem?, Array.getElem?_replicate]
    split <;> rfl
  have := main l.length (Array.replicate l.toArray.size false) a ⟨s.β, s.I, s.M, { s.w with drawn := s.w.drawn + 1 }⟩ h0 (by simp) (by
      have := unl_start l.toArray.size l.length (by simp)
      exact this) (h3.trans hst) (fun t d hd => ?_) rfl (fun i hi => ?_) h5 (h6.mono h3.ok hst) (fun j i hj => by rw [hno] at hj; cases hj)
  · simpa using this
  · rw [lkS_cut 0 l.length (by omega) fun j o _ _ _ _ => hno j] at hd
    exact (h4 t d hd).mono h3.ok hst
  · rw [memS_cut 0 l.length (by omega) fun j r _ _ _ _ => hno j]
    rfl
section
variable {P : Program} {pc : Bool} {o : Oper} {F : Fr} {M : List Blk}
end
section
variable {P : Program} {pc : Bool} {o : Oper} {F : Fr} {M : List Blk}
end
section
variable {P : Program} {pc : Bool} {o : Oper} {F : Fr} {M : List Blk} {T e : TypeId} {by' : Nat} {x y : Operand}
/-- make, of length 0 -/
theorem op_mk0 (j n : Nat) {sz : Nat} {k k' : IntKind} {z z' : Int} {Z : List Value} (ho : o.op = .makeSlice T x y) (hT : slE P T = some (e, sz, by')) (hZ : zrC P e = some Z) (hx : Ev pc F x (.val (.int k z))) (hy : Ev pc F y (.val (.int k' z'))) (hz : pc = true → z = 0) (hz' : pc = true → z' = (n : Int)) (hj : M[j]? = some .hole) (hb : pc = true → by' * n ≤ 281474976710656 ∧ n ≤ 9223372036854775807) :
    DOp P pc o F M [j] (.arr j) [(j, .arr e sz 0 [])] := by
  intro hp a s hok hops hfp
  obtain ⟨e1, ti, e2, e3, e4⟩ := slE_spec hT
  obtain ⟨ti', zv, q1, q2, q3⟩ := zrC_spec hZ
  rw [e2] at q1
  obtain rfl := Option.some.inj q1
  have h1 := (ev_at hp hx (by simp [ho, Op.operands]) hops).val_eq
  have h2 := (ev_at hp hy (by simp [ho, Op.operands]) hops).val_eq
  rw [hz hp] at h1
  rw [hz' hp] at h2
  obtain ⟨b1, b2⟩ := hb hp
  have hj' : s.M[j]? = some .hole := by rw [hfp j (by simp)]; exact hj
  have hjl : j < s.β.length := by rw [hok.len]; exact (List.getElem?_eq_some_iff.1 hj').1
  have hb3 : (ti.bytes : Int) * (n : Int) ≤ 281474976710656 := by
    have h : ((ti.bytes * n : Nat) : Int) ≤ 281474976710656 := by rw [e4]; omega
    rwa [Int.natCast_mul] at h
  have hrun := run_make (P := P) s.w T e ti zv e1 e2 q2 k k' 0 n (Int.le_refl _) (by omega) hb3 (by omega)
  simp only [Int.toNat_natCast, Int.toNat_zero] at hrun
  have hrow := World.ownsRow_made (base := 0) (e := e) (size := ti.size) s.w (madeCells zv.cells (n * ti.size)) n (Nat.zero_le _) (by unfold maxLen; omega) (size_madeCells _ _)
  rw [e3] at hrow hrun
  refine dg_step (s' := ⟨s.β.set j (.slice (some ⟨s.w.heap.size, 0, none⟩) 0 n), s.I, s.M.set j (.arr e sz 0 []), _⟩) (v := .slice (some ⟨s.w.heap.size, 0, none⟩) 0 n) ?_ (tr_new hok hj' _ _ _ (by simp) (fun b hb => by cases hb; rfl) (fun b h => Below.heap_alloc _ _ _ h) (fun b hb => by cases hb; simp) (by simp) rfl rfl rfl hrow) rfl (.arr (by simp [hjl]))
  unfold execOp
  simp only [ho, h1, h2]
  exact run_v hrun
end
section
variable {P : Program} {pc : Bool} {o : Oper} {F : Fr} {M : List Blk} {T T' : TypeId} {x y : Operand} {k k' : IntKind} {p q : Int}
end
section
variable {P : Program} {pc : Bool} {o : Oper} {F : Fr} {M : List Blk} {T : TypeId} {x lo hi mx : Operand} {n sz : Nat} {α : Type} {en : α → List Value} {l : List α} {k k1 k2 : IntKind} {lz hz mz : Int}
end
section
variable {P : Program} {pc : Bool} {o : Oper} {F : Fr} {M : List Blk} {T e : TypeId} {by' n : Nat} {ds : List D} {Z : List Value}
end
section
variable {P : Program} {pc : Bool} {o : Oper} {F : Fr} {M : List Blk}
end
section
variable {P : Program} {pc : Bool} {o : Oper} {F : Fr} {M : List Blk}
end
section
variable {P : Program} {pc : Bool} {o : Oper} {F : Fr} {M : List Blk}
end
section
variable {P : Program} {s0 : St} {n : Cx}
end
/-- a field of a struct: where it is, whether it has parts, how many cells -/
def fdP (P : Program) (T : TypeId) (f : Nat) : Option (Nat × Bool × Nat) := match P.underlying T with
  | some (.struct fs) => (fs[f]?).bind fun d => (tyB P d.type).map fun bk => (d.offset, bk.1, bk.2)
  | _ => none
theorem fdP_spec {P : Program} {T : TypeId} {f q k : Nat} {b : Bool} (h : fdP P T f = some (q, b, k)) : ∃ (fs : Array Field) (d : Field), P.underlying T = some (.struct fs) ∧ fs[f]? = some d ∧ d.offset = q ∧ tyB P d.type = some (b, k) := by
  unfold fdP at h
  split at h
  · rename_i fs hu
    rw [Option.bind_eq_some_iff] at h
    obtain ⟨d, hd, h2⟩ := h
    rw [Option.map_eq_some_iff] at h2
    obtain ⟨⟨b', k'⟩, h3, h4⟩ := h2
    simp only [Prod.mk.injEq] at h4
    obtain ⟨e1, e2, e3⟩ := h4
    subst e1 e2 e3
    exact ⟨fs, d, hu, hd, rfl, h3⟩
  · cases h
section
variable {P : Program} {pc : Bool} {o : Oper} {F : Fr} {M : List Blk} {T : TypeId} {x : Operand}
theorem op_fdc {f q : Nat} {ds : List D} {d : D} (ho : o.op = .field T x f) (hT : fdP P T f = some (q, false, 1)) (hx : Ev pc F x (.agg ds)) (hd : ds[q]? = some d) : DOp P pc o F M [] d [] := by
  intro hp a s hok hops _
  have hr := ev_at hp hx (by simp [ho, Op.operands]) hops
  obtain ⟨fs, fd, hu, hf, hoff, he⟩ := fdP_spec hT
  obtain ⟨dd, i, h1, h2, h3, h4⟩ := tyB_spec he
  generalize hv : a.eval x = vx at hr
  cases hr with
  | @agg _ vs hvl hel =>
    have hjl : q < vs.length := by rw [hvl]; exact (List.getElem?_eq_some_iff.1 hd).1
    refine dg_val (v := vs[q]) hok ?_ (hel q _ _ hd (List.getElem?_eq_getElem hjl))
    unfold execOp
    simp only [ho, hv]
    refine run_v ?_
    have hagg : (isAgg fd.type).run P s.w = .ok false s.w := by
      unfold isAgg
      rw [Sem.run_bind, run_underlying h1]
      cases dd <;> first | rfl | cases h3
    unfold Instr.field
    simp only [Sem.run_bind, Result.andThen_ok, run_underlying hu, hf, asAgg, Sem.run_pure, part, hagg, hoff]
    simp [hjl]
end
theorem keptN_le (l r : List TL) : keptN l r ≤ l.length := by
  induction l generalizing r with
  | nil => exact Nat.le_refl _
  | cons a l ih =>
    cases r with
    | nil => exact Nat.zero_le _
    | cons b r =>
      have := ih r
      rw [keptN, List.length_cons]
      split <;> omega
theorem tc_sz (t : TL) : ([Value.agg (tc t).toArray].all fun v => v.cells.size == 256) = true := by
  show ((tc t).toArray.size == 256 && true) = true
  rw [List.size_toArray, tc_len]; rfl
theorem tc_fl (t : TL) : ([Value.agg (tc t).toArray].flatMap fun v => v.cells.toList) = tc t := by rw [List.flatMap_cons]; exact List.append_nil _
theorem tc_oc1 (t : TL) : ([Value.agg (tc t).toArray].flatMap fun v => v.cells.toList).all (·.oneCell') = true := by rw [tc_fl]; exact tc_oc t
theorem tk_add {ts : List TL} {k : Nat} (h : k < ts.length) : (ts.take k).flatMap tc ++ ([Value.agg (tc (ts.getD k zT)).toArray].flatMap fun v => v.cells.toList) = (ts.take (k + 1)).flatMap tc := by
  rw [tc_fl, List.take_succ_eq_append_getElem h, List.flatMap_append, tl_at h]
  congr 1
  exact (List.append_nil _).symm
set_option maxRecDepth 4000 in
set_option maxHeartbeats 1000000 in
theorem show1_d (t : TL) : DFun Try.prog 39 [.dpf (tc t)] [] (tD t) [] := by
  refine dcalls_go (N := 6) 0 (by kernel_rfl) Try.func39 rfl rfl rfl (by simp only [fr0, Nat.zero_add, Nat.reduceAdd]; exact rfl) rfl fun s0 hs0 => ?_
  refine zae ?_
  refine dwp_holes 1 (by simp only [holes, List.cons_append, List.nil_append]; exact rfl) ?_
  refine zad ?_
  refine walk_w rfl rfl rfl (op_alloc 0 rfl zr52 rfl) (by simp only [upd, za, zaa]; exact rfl) ?_
  refine zaf ?_
  refine zae ?_
  refine zad ?_
  refine zab rfl rfl rfl (zac (.inl rfl) (ev1 rfl)) ?_
  refine zab rfl rfl rfl (op_nc rfl (ev1 rfl) (fun s v h => by cases h; exact ⟨_, rfl⟩)) ?_
  refine zab rfl rfl rfl (op_ldwd rfl tb52 (ev1 rfl) (tc_len _)) ?_
  refine walk_s rfl rfl (op_stwa rfl tb52 (ev1 rfl) (ev1 rfl) rfl (tc_len _) (tc_oc _) ((tc_len _).trans (tc_len _).symm)) (by simp only [upd, za, zaa]; exact rfl) ?_
  refine zaf ?_
  refine dwp_ret ?_
  refine kend0 (rs1 rfl (rv_w tb52 rfl rfl (tc_len _))) rfl ?_
  rfl
set_option maxRecDepth 4000 in
set_option maxHeartbeats 1000000 in
theorem each2_d (ds : List D) (ts : List TL) (hr : RowOk ds ts) (hn : ts.length ≤ 5000) : DFun Try.prog 38 [.slm 1 ds.length ds, .fn (.func 39) [] []] [] (.slf 256 ts.length (ts.flatMap tc)) [] := by
  have hlen := hr.len
  refine dcalls_go (N := 25) 0 (by kernel_rfl) Try.func38 rfl rfl rfl (by simp only [fr0, Nat.zero_add, Nat.reduceAdd]; exact rfl) rfl fun s0 hs0 => ?_
  refine dwp_lenm (t := 0) rfl fun hl0 hL0 => ?_
  refine zae ?_
  refine zad ?_
  refine zab rfl rfl rfl (zac (.inr rfl) (ev1 rfl)) ?_
  refine zaf ?_
  refine zae ?_
  refine dwp_holes 1 (by simp only [holes, List.cons_append, List.nil_append]; exact rfl) ?_
  refine zad ?_
  refine zab rfl rfl rfl (zac (.inl rfl) (ev1 rfl)) ?_
  refine zab rfl rfl rfl (op_lenm rfl sl74 (ev1 rfl)) ?_
  refine walk_w rfl rfl rfl (op_mk0 0 (ds.length) rfl sl22 zr52 (ev1 rfl) (ev1 rfl) (fun _ => rfl) (fun _ => by omega) rfl (fun _ => ⟨by omega, by omega⟩)) (by simp only [upd, za, zaa]; exact rfl) ?_
  refine zab rfl rfl rfl (zac (.inr rfl) (ev1 rfl)) ?_
  refine zaf ?_
  refine zae ?_
  refine zae ?_
  refine zad ?_
  refine zab rfl rfl rfl (zac (.inl rfl) (ev1 rfl)) ?_
  refine zab rfl rfl rfl (op_lenm rfl sl74 (ev1 rfl)) ?_
  refine zab rfl rfl rfl (zac (.inl rfl) (ev1 rfl)) ?_
  refine zaf ?_
  refine dwp_block ?_
  refine dwp_loopS ⟨hs0, rfl⟩ (α := Nat) (fun k => [(13, .val (.int .i64 (k : Int)))]) [(1, _), (5, _), (11, _), (12, _)] (fun k => [(0, .arr 52 256 (ts.take k).length ((ts.take k).flatMap tc))]) [.hole] (fun k => k ≤ ts.length) (fun k => ts.length - k) 0 [0] (Nat.zero_le _) rfl ⟨rfl, rfl, rfl, rfl, trivial⟩ ⟨rfl, trivial⟩ ⟨rfl, trivial⟩ ?_
  intro k hx
  simp only [upd, za, zaa, List.cons_append, List.nil_append]
  have hk := hx
  have htl : (ts.take k).length = k := by rw [List.length_take]; omega
  refine zae ?_
  refine zad ?_
  refine zab rfl rfl rfl (op_lss rfl (ev1 rfl) (ev1 rfl)) ?_
  refine zaf ?_
  refine zae ?_
  refine dwp_cond rfl (fun c1 => ?_) (fun c1 => ?_)
  · try simp only [yg, ya, beq_iff_eq, bne_iff_ne, yb, yc, yf, ye, yh, yi, yd, ne_eq, yj, Int.not_lt, Int.not_le] at c1
    refine dwp_skip ?_
    refine zae ?_
    refine dwp_block ?_
    refine zae ?_
    obtain ⟨d, hd, _, hnl, _, hw⟩ := hr.at (q := k) (by omega)
    refine zad ?_
    refine zab rfl rfl rfl (op_ixm (k) rfl sl74 (ev1 rfl) (ev1 rfl) (fun _ => rfl) (hd)) ?_
    refine zab rfl rfl rfl ((op_lddm rfl tb78 (ev1 rfl) rfl).wk (hw)) ?_
    refine zab rfl rfl rfl (zac (.inr rfl) (ev1 rfl)) ?_
    refine zaf ?_
    refine dwp_holes 2 (by simp only [holes, List.cons_append, List.nil_append]; exact rfl) ?_
    refine zad ?_
    refine zab rfl rfl rfl (zac (.inl rfl) (ev1 rfl)) ?_
    refine zab rfl rfl rfl (zac (.inl rfl) (ev1 rfl)) ?_
    refine zab rfl rfl rfl (zac (.inl rfl) (ev1 rfl)) ?_
    refine zab rfl rfl rfl (dop_call [] [] [] rfl (ev1 rfl) (ec (ev1 rfl) en) rfl rfl (show1_d _) rfl rfl rfl rfl rfl rfl) ?_
    refine walk_w rfl rfl rfl (op_bsa (ps := [(0, .tmp 20)]) 1 rfl sl22 zr52 rfl (vc (ev1 rfl) vn) (tc_sz _) (by decide) (by decide) rfl) (by simp only [upd, za, zaa]; exact rfl) ?_
    refine walk_w rfl rfl rfl (op_app (j := 2) rfl sl22 zr52 rfl (ev1 rfl) (ev1 rfl) (src_arr rfl) rfl rfl (fun _ => tc_oc1 _) (fun _ => ⟨by omega, by omega⟩)) (by simp only [upd, za, zaa]; exact rfl) ?_
    refine zab rfl rfl rfl (zac (.inr rfl) (ev1 rfl)) ?_
    refine zaf ?_
    refine zad ?_
    refine zab rfl rfl rfl (op_add' rfl (ev1 rfl) (ev1 rfl) (fun _ => IntWalk.i64_in _ (by omega))) ?_
    refine zab rfl rfl rfl (zac (.inl rfl) (ev1 rfl)) ?_
    refine zaf ?_
    refine ⟨k + 1, [2], by omega, by simp only []; omega, rfl, ⟨rfl, rfl, rfl, rfl, rfl, trivial⟩, ⟨arr_eq (by simp; omega) (tk_add (by omega)), trivial⟩⟩
  · try simp only [yg, ya, beq_iff_eq, bne_iff_ne, yb, yc, yf, ye, yh, yi, yd, ne_eq, yj, Int.not_lt, Int.not_le] at c1
    refine dwp_exit ?_
    refine zae ?_
    refine dwp_giveA 5 rfl rfl (by simp only [za, zaa]; exact rfl) ?_
    refine zad ?_
    refine zab rfl rfl rfl (zac (.inl rfl) (ev1 rfl)) ?_
    refine zab rfl rfl rfl (zac (.inr rfl) (ev1 rfl)) ?_
    refine zaf ?_
    refine dwp_ret ?_
    rw [List.take_of_length_le (by omega)]
    refine kend0 (rs1 rfl (rv_t rfl)) rfl ?_
    rfl
set_option maxRecDepth 4000 in
set_option maxHeartbeats 1000000 in
theorem show_d (w h : Int) (ds : List D) (ts : List TL) (hr : RowOk ds ts) (hc : CvOk w h ts)  : DFun Try.prog 16 [cvD w h ds] [] (shD w h ts) [] := by
  have hle := hc.le
  refine dcalls_go (N := 22) 0 (by kernel_rfl) Try.func16 rfl rfl rfl (by simp only [fr0, Nat.zero_add, Nat.reduceAdd]; exact rfl) rfl fun s0 hs0 => ?_
  refine zae ?_
  refine dwp_holes 1 (by simp only [holes, List.cons_append, List.nil_append]; exact rfl) ?_
  refine zad ?_
  refine walk_w rfl rfl rfl (op_alloc 0 rfl zr24 rfl) (by simp only [upd, za, zaa]; exact rfl) ?_
  refine zaf ?_
  refine zae ?_
  refine zae ?_
  refine zad ?_
  refine zab rfl rfl rfl (zac (.inl rfl) (ev1 rfl)) ?_
  refine zab rfl rfl rfl (op_pnilm rfl pt32 (ev1 rfl)) ?_
  refine zaf ?_
  refine dwp_if_f rfl (rfl) ?_
  refine dwp_skip ?_
  refine zae ?_
  refine dwp_draw [([], []), ([], []), ([], []), ([], []), ([], []), ([], []), ([], []), ([], []), ([], []), ([], []), ([], []), ([], []), ([], []), ([], []), ([], []), ([], []), ([0], [0])] mixed (by kernel_rfl) ?_
  refine zag rfl rfl (zac (.inl rfl) (ev1 rfl)) ?_
  refine zag rfl rfl (op_nc rfl (ev1 rfl) (fun s v h => by cases h; exact ⟨_, rfl⟩)) ?_
  refine zag rfl rfl (op_fadm rfl fo76_0 (ev1 rfl)) ?_
  refine zag rfl rfl (op_fadm rfl fo72_0 (ev1 rfl)) ?_
  refine zag rfl rfl (op_lddm rfl tb3 (ev1 rfl) rfl) ?_
  refine zag rfl rfl (zac (.inl rfl) (ev1 rfl)) ?_
  refine zag rfl rfl (op_nc rfl (ev1 rfl) (fun s v h => by cases h; exact ⟨_, rfl⟩)) ?_
  refine zag rfl rfl (op_fadm rfl fo76_0 (ev1 rfl)) ?_
  refine zag rfl rfl (op_fadm rfl fo72_1 (ev1 rfl)) ?_
  refine zag rfl rfl (op_lddm rfl tb3 (ev1 rfl) rfl) ?_
  refine zag rfl rfl (zac (.inl rfl) (ev1 rfl)) ?_
  refine zag rfl rfl (op_nc rfl (ev1 rfl) (fun s v h => by cases h; exact ⟨_, rfl⟩)) ?_
  refine zag rfl rfl (op_fadm rfl fo76_1 (ev1 rfl)) ?_
  refine zag rfl rfl (op_lddm rfl tb74 (ev1 rfl) rfl) ?_
  refine zag rfl rfl (dop_call [] [] [] rfl (ev1 rfl) (ec (ev1 rfl) (ec (ev1 rfl) en)) rfl rfl (each2_d ds ts hr (by omega)) rfl rfl rfl rfl rfl rfl) ?_
  refine zag rfl rfl (op_bldD (ps := [(0, .tmp 10), (1, .tmp 15), (2, .tmp 20)]) rfl fl24 zr24 (ec (ev1 rfl) (ec (ev1 rfl) (ec (ev1 rfl) en))) rfl rfl rfl) ?_
  refine lex_s rfl rfl (op_stam rfl tb24 (ev1 rfl) (ev1 rfl) rfl rfl rfl rfl) rfl (by simp only [upd, za, zaa]; exact rfl) ?_
  refine lex_nil ?_
  refine dwp_ret ?_
  refine kend0 (rs1 rfl (rv_mw tb24 rfl rfl rfl)) rfl ?_
  rfl
theorem getC_put {w h : Int} {us : List TL} {d : Dt} (hc : CvOk w h us) (ho : onS w h d.x d.y = true) : getC w (putC w h us d) d.x d.y = d.c := by
  have hp := hc.pl ho
  have hq := (on_pl hc.may ho).2.2.2
  unfold getC putC
  rw [if_pos ho, tl_at (by simpa using hp), List.getElem_set_self]
  unfold TL.get TL.set
  rw [List.getD_eq_getElem?_getD, List.getElem?_set_self (by rw [TL.h]; exact hq)]
  rfl
def lastF (x y : Int) (l : List Dt) : C4 × Bool := l.foldl (fun s d => if d.x = x ∧ d.y = y then (d.c, true) else s) (zC4, false)
theorem lastF_add {x y : Int} {l : List Dt} {k : Nat} (h : k < l.length) : lastF x y (l.take (k + 1)) = if l[k].x = x ∧ l[k].y = y then (l[k].c, true) else lastF x y (l.take k) := by
  rw [List.take_succ_eq_append_getElem h, lastF, List.foldl_append]; rfl
theorem pl_inj {w h x y x2 y2 : Int} (hm : mayS w h = true) (ho : onS w h x y = true) (ho2 : onS w h x2 y2 = true) (h1 : plN w x y = plN w x2 y2) : x / 8 = x2 / 8 ∧ y / 8 = y2 / 8 := by
  have hb := mayS_b hm
  have e1 := (on_pl hm ho).1
  have e2 := (on_pl hm ho2).1
  have g1 := onS_iff.1 ho
  have g2 := onS_iff.1 ho2
  rw [h1] at e1
  have hw : w = 1 ∨ w = 2 ∨ w = 3 ∨ w = 4 := by omega
  rcases hw with rfl | rfl | rfl | rfl <;> omega
theorem px_inj {w h x y x2 y2 : Int} (hm : mayS w h = true) (ho : onS w h x y = true) (ho2 : onS w h x2 y2 = true) (h1 : plN w x y = plN w x2 y2) (h2 : pxN x y = pxN x2 y2) : x = x2 ∧ y = y2 := by
  have e1 := (on_pl hm ho).2.2.1
  have e2 := (on_pl hm ho2).2.2.1
  have e3 := pl_inj hm ho ho2 h1
  rw [h2] at e1
  omega
theorem getC_putne {w h x y : Int} {us : List TL} {d : Dt} (hc : CvOk w h us) (ho : onS w h x y = true) (hne : ¬ (d.x = x ∧ d.y = y)) : getC w (putC w h us d) x y = getC w us x y := by
  unfold putC
  split
  · rename_i hd
    unfold getC
    by_cases e : plN w d.x d.y = plN w x y
    · have e2 : pxN d.x d.y ≠ pxN x y := fun e2 => hne (px_inj hc.may hd ho e e2)
      have hp := hc.pl ho
      rw [e, tl_at (by simpa using hp), List.getElem_set_self]
      unfold TL.get TL.set
      rw [List.getD_eq_getElem?_getD, List.getElem?_set_ne e2, ← List.getD_eq_getElem?_getD]
    · rw [List.getD_eq_getElem?_getD, List.getElem?_set_ne e, ← List.getD_eq_getElem?_getD]
  · rfl
theorem getC_puts {w h x y : Int} {us : List TL} (hc : CvOk w h us) (ho : onS w h x y = true) (l : List Dt) : getC w (putsC w h us l) x y = if (lastF x y l).2 = true then (lastF x y l).1 else getC w us x y := by
  have key : ∀ k, k ≤ l.length → getC w (putsC w h us (l.take k)) x y = if (lastF x y (l.take k)).2 = true then (lastF x y (l.take k)).1 else getC w us x y := fun k => by
    induction k with
    | zero => intro _; rfl
    | succ k ih =>
      intro hk
      rw [putsC_take (by omega), lastF_add (by omega)]
      by_cases hd : l[k].x = x ∧ l[k].y = y
      · rw [if_pos hd]
        obtain ⟨rfl, rfl⟩ := hd
        rw [getC_put (hc.puts _) ho]
        rfl
      · rw [if_neg hd, getC_putne (hc.puts _) ho hd, ih (by omega)]
  have := key l.length (Nat.le_refl _)
  rwa [List.take_length] at this
theorem dif_mem {w h : Int} {ts us : List TL} {p : P2} (hp : p ∈ difC w h ts us) : onS w h p.x p.y = true ∧ getC w ts p.x p.y ≠ getC w us p.x p.y := by
  unfold difC difU at hp
  obtain ⟨y, hy, hp⟩ := List.mem_flatMap.1 hp
  unfold difR at hp
  obtain ⟨x, hx, rfl⟩ := List.mem_map.1 hp
  obtain ⟨hx, hne⟩ := List.mem_filter.1 hx
  have h1 := List.mem_range.1 hy
  have h2 := List.mem_range.1 hx
  exact ⟨onS_iff.2 (by dsimp only; omega), by simpa using hne⟩
theorem mem_dif {w h x y : Int} {ts us : List TL} (ho : onS w h x y = true) (hne : getC w ts x y ≠ getC w us x y) : (⟨x, y⟩ : P2) ∈ difC w h ts us := by
  have hb := onS_iff.1 ho
  have ex : ((x.toNat : Nat) : Int) = x := by omega
  have ey : ((y.toNat : Nat) : Int) = y := by omega
  unfold difC difU
  refine List.mem_flatMap.2 ⟨y.toNat, List.mem_range.2 (by omega), ?_⟩
  unfold difR
  refine List.mem_map.2 ⟨x.toNat, List.mem_filter.2 ⟨List.mem_range.2 (by omega), ?_⟩, by rw [ex, ey]⟩
  rw [ex, ey]
  exact decide_eq_true hne
def tilK (p : P2) : P2 := ⟨p.x / 8, p.y / 8⟩
def tilM (l : List P2) : List (P2 × Int) := l.foldl (fun m p => setM (tilK p) (getM (tilK p) m + 1) m) []
theorem tilM_add {l : List P2} {k : Nat} (h : k < l.length) : tilM (l.take (k + 1)) = setM (tilK l[k]) (getM (tilK l[k]) (tilM (l.take k)) + 1) (tilM (l.take k)) := by
  rw [List.take_succ_eq_append_getElem h, tilM, List.foldl_append]; rfl
theorem setM_keys {k : P2} {v : Int} : ∀ (m : List (P2 × Int)), (setM k v m).map (·.1) = if k ∈ m.map (·.1) then m.map (·.1) else m.map (·.1) ++ [k]
  | [] => by simp [setM]
  | (a, u) :: r => by
    rw [setM]
    by_cases e : k = a
    · subst e; simp
    · rw [if_neg e, List.map_cons, setM_keys r, List.map_cons]
      by_cases h : k ∈ r.map (·.1)
      · rw [if_pos h, if_pos (List.mem_cons_of_mem _ h)]
      · rw [if_neg h, if_neg (fun h1 => (List.mem_cons.1 h1).elim (fun h1 => e h1) h)]; rfl
theorem tilM_keys (l : List P2) : ((tilM l).map (·.1)).Nodup ∧ ∀ q, q ∈ (tilM l).map (·.1) ↔ ∃ p ∈ l, tilK p = q := by
  have key : ∀ k, k ≤ l.length → ((tilM (l.take k)).map (·.1)).Nodup ∧ ∀ q, q ∈ (tilM (l.take k)).map (·.1) ↔ ∃ p ∈ l.take k, tilK p = q := fun k => by
    induction k with
    | zero => intro _; exact ⟨List.nodup_nil, fun q => by simp [tilM]⟩
    | succ k ih =>
      intro hk
      obtain ⟨h1, h2⟩ := ih (by omega)
      rw [tilM_add (by omega), setM_keys]
      have hm : ∀ q, (∃ p ∈ l.take (k + 1), tilK p = q) ↔ (∃ p ∈ l.take k, tilK p = q) ∨ tilK l[k] = q := fun q => by
        rw [List.take_succ_eq_append_getElem (by omega)]
        constructor
        · rintro ⟨p, hp, e⟩
          rcases List.mem_append.1 hp with hp | hp
          · exact .inl ⟨p, hp, e⟩
          · rw [List.mem_singleton] at hp; subst hp; exact .inr e
        · rintro (⟨p, hp, e⟩ | e)
          · exact ⟨p, List.mem_append_left _ hp, e⟩
          · exact ⟨_, List.mem_append_right _ (List.mem_singleton_self _), e⟩
      split
      · rename_i hi
        refine ⟨h1, fun q => ?_⟩
        rw [hm, ← h2]
        exact ⟨fun h => .inl h, fun h => h.elim id fun e => e ▸ hi⟩
      · rename_i hi
        refine ⟨List.nodup_append.2 ⟨h1, by simp, fun a ha b hb e => ?_⟩, fun q => ?_⟩
        · rw [List.mem_singleton] at hb; subst hb; exact hi (e ▸ ha)
        · rw [hm, ← h2, List.mem_append, List.mem_singleton]
          exact ⟨fun h => h.imp id Eq.symm, fun h => h.imp id Eq.symm⟩
  have := key l.length (Nat.le_refl _)
  rwa [List.take_length] at this
theorem kept_cnt (ts us : List TL) (hl : us.length = ts.length) : ((List.range ts.length).filter fun i => decide (ts[i]? ≠ us[i]?)).length + keptN ts us = ts.length := by
  have key : ∀ k, k ≤ ts.length → ((List.range k).filter fun i => decide (ts[i]? ≠ us[i]?)).length + keptN (ts.take k) (us.take k) = k := fun k => by
    induction k with
    | zero => intro _; simp [keptN]
    | succ k ih =>
      intro hk
      have := ih (by omega)
      rw [List.range_succ, List.filter_append, List.length_append, keptN_take (by omega) (by omega)]
      by_cases e : ts[k] = us[k]
      · rw [if_pos e, List.filter_cons, if_neg (by rw [List.getElem?_eq_getElem (by omega), List.getElem?_eq_getElem (by omega), e]; simp)]
        simp only [List.filter_nil, List.length_nil]
        omega
      · rw [if_neg e, List.filter_cons, if_pos (by rw [List.getElem?_eq_getElem (by omega), List.getElem?_eq_getElem (by omega)]; simpa using e)]
        simp only [List.filter_nil, List.length_cons, List.length_nil]
        omega
  have := key ts.length (Nat.le_refl _)
  rwa [List.take_length, List.take_of_length_le (by omega)] at this
theorem tile_ne {t u : TL} (h : t ≠ u) : ∃ q, q < 64 ∧ t.get q ≠ u.get q := by
  refine Classical.byContradiction fun hn => h (TL.ext (List.ext_getElem (by rw [TL.h, TL.h]) fun q h1 h2 => ?_))
  have hq : q < 64 := by rw [TL.h] at h1; exact h1
  have e : t.get q = u.get q := Classical.byContradiction fun hne => hn ⟨q, hq, hne⟩
  unfold TL.get at e
  rwa [List.getD_eq_getElem?_getD, List.getD_eq_getElem?_getD, List.getElem?_eq_getElem h1, List.getElem?_eq_getElem h2] at e
theorem tilM_kept {w h : Int} {ts us : List TL} (hc : CvOk w h ts) (hd : CvOk w h us) : (tilM (difC w h ts us)).length + keptN ts us = ts.length := by
  have l1 := hc.len
  have l2 := hd.len
  have hb := mayS_b hc.may
  rw [← kept_cnt ts us (by omega)]
  congr 1
  obtain ⟨hn, hm⟩ := tilM_keys (difC w h ts us)
  have hA : (((tilM (difC w h ts us)).map (·.1)).map fun k : P2 => (k.y * w + k.x).toNat).Nodup := by
    refine List.pairwise_map.2 (hn.imp_of_mem fun {a b} ha hb2 hne e => hne ?_)
    obtain ⟨p, hp, rfl⟩ := (hm a).1 ha
    obtain ⟨q, hq, rfl⟩ := (hm b).1 hb2
    obtain ⟨e1, e2⟩ := pl_inj hc.may (dif_mem hp).1 (dif_mem hq).1 e
    unfold tilK
    rw [e1, e2]
  have hB : ((List.range ts.length).filter fun i => decide (ts[i]? ≠ us[i]?)).Nodup := List.nodup_range.filter _
  have hp := (List.perm_ext_iff_of_nodup hA hB).2 fun i => by
    rw [List.mem_map, List.mem_filter, List.mem_range]
    constructor
    · rintro ⟨k, hk, rfl⟩
      obtain ⟨p, hp, rfl⟩ := (hm k).1 hk
      obtain ⟨ho, hne⟩ := dif_mem hp
      have h1 := hc.pl ho
      have h2 := hd.pl ho
      refine ⟨h1, decide_eq_true fun e => hne ?_⟩
      unfold getC
      rw [List.getD_eq_getElem?_getD, List.getD_eq_getElem?_getD]
      exact congrArg (fun o => TL.get (o.getD zT) _) e
    · rintro ⟨hi, hne⟩
      have hne : ts[i]? ≠ us[i]? := of_decide_eq_true hne
      rw [List.getElem?_eq_getElem hi, List.getElem?_eq_getElem (by omega)] at hne
      obtain ⟨q, hq, hg⟩ := tile_ne (t := ts[i]) (u := us[i]'(by omega)) fun e => hne (by rw [e])
      have ho := on_back (p := i) (q := q) hc.may (by omega) hq
      obtain ⟨e1, e2⟩ := pl_back (w := w) (p := i) (q := q) (by omega) hq
      refine ⟨_, (hm _).2 ⟨_, mem_dif ho ?_, rfl⟩, e1⟩
      unfold getC
      rw [e1, e2, tl_at hi, tl_at (by omega)]
      exact hg
  have := hp.length_eq
  rwa [List.length_map, List.length_map] at this
theorem keptN_all : ∀ {ts us : List TL}, us.length = ts.length → (keptN ts us = ts.length ↔ ts = us)
  | [], [], _ => by simp [keptN]
  | [], _ :: _, h => by simp at h
  | _ :: _, [], h => by simp at h
  | t :: ts, u :: us, h => by
    have h2 : us.length = ts.length := by simpa using h
    have ih := keptN_all h2
    have hle := keptN_le ts us
    rw [keptN, List.length_cons]
    by_cases e : t = u
    · subst e
      rw [if_pos rfl]
      constructor
      · intro h3; rw [ih.1 (by omega)]
      · intro h3; cases h3; have := ih.2 rfl; omega
    · rw [if_neg e]
      constructor
      · intro h3; omega
      · intro h3; cases h3; exact absurd rfl e
theorem tilM_get (q : P2) (l : List P2) : 0 ≤ getM q (tilM l) ∧ getM q (tilM l) ≤ l.length := by
  have key : ∀ k, k ≤ l.length → 0 ≤ getM q (tilM (l.take k)) ∧ getM q (tilM (l.take k)) ≤ k := fun k => by
    induction k with
    | zero => intro _; simp [tilM, getM]
    | succ k ih =>
      intro hk
      have h1 := ih (by omega)
      rw [tilM_add (by omega), getM_set]
      split
      · rename_i e
        rw [← e]
        omega
      · omega
  have := key l.length (Nat.le_refl _)
  rwa [List.take_length] at this
theorem difC_len {w h : Int} (hm : mayS w h = true) (ts us : List TL) : (difC w h ts us).length ≤ 1024 := by
  have hb := mayS_b hm
  have h1 := difU_len w ts us (w * 8).toNat (h * 8).toNat
  have h2 : (h * 8).toNat * (w * 8).toNat ≤ 32 * 32 := Nat.mul_le_mul (by omega) (by omega)
  exact Nat.le_trans h1 h2
theorem op_lenmo {α : Type} [DecidableEq α] {P : Program} {pc : Bool} {o : Oper} {F : Fr} {M : List Blk} {K E T : TypeId} {en : α → List Value} {x : Operand} {i : Nat} {m : List (α × Int)} (ho : o.op = .call { callee := .builtin .len, args := #[x], argTypes := #[T] }) (hT : mpT P T = some (K, E)) (hx : Ev pc F x (.hnd i)) (hM : M[i]? = some (.obj (mapO en m))) : DOp P pc o F M [i] (.val (.int .i64 m.length)) [] := by
  intro hp a s hok hops hfp
  have hM' : s.M[i]? = some (.obj (mapO en m)) := by rw [hfp i (by simp)]; exact hM
  obtain ⟨b, hv, hβ, hob⟩ := map_at hok hM' (ev_at hp hx (by simp [ho, Op.operands, Call.operands]) hops)
  refine dg_val hok (run_builtin ho (fun cs => rfl) ?_) (.val (.int .i64 m.length))
  simp [Builtin.len_, hv, run_underlying (mpT_spec hT), getObj, Sem.run, hob, mapO, Result.andThen, Sem.run_bind, ents_len, goInt]
theorem fp24_2 : fdP Try.prog 24 2 = some (2, false, 1) := by kernel_rfl
theorem mp69 : mpT Try.prog 69 = some (56, 3) := by kernel_rfl
theorem un4 : Try.prog.underlying 4 = some .bool := by kernel_rfl
theorem zv3 : zrV Try.prog 3 = some (.int .i64 0) := by kernel_rfl
def eqP2 (a b : P2) : Bool := (a.x == b.x) && ((a.y == b.y) && true)
theorem eqP2_iff {a b : P2} : eqP2 a b = decide (a = b) := by
  obtain ⟨x, y⟩ := a
  obtain ⟨x', y'⟩ := b
  rw [Bool.eq_iff_iff]
  simp [eqP2]
theorem keyP : KeyT Try.prog 56 p2 where
  row := ⟨_, Try.underlying56, rfl⟩
  eq a b w := by
    have e : eqT Try.prog 9 56 (p2 a) (p2 b) = some (eqP2 a b) := by kernel_rfl
    have := eqT_run (P := Try.prog) 9 9991 56 _ _ _ w e
    rw [row_val tb56, row_val tb56, eqP2_iff] at this
    exact this
  chk b a w := by kernel_rfl
  bits a := by simp [Instr.sameBits, p2]
set_option maxRecDepth 4000 in
set_option maxHeartbeats 1000000 in
theorem tells_d (w h : Int) (ts : List TL) (l : List Dt) : DFun Try.prog 7 [shD w h ts, .slf 6 l.length (l.flatMap dtC)] [] (.val (.bool true)) [] := by
  refine dcalls_go (N := 140) 0 (by kernel_rfl) Try.func7 rfl rfl rfl (by simp only [fr0, Nat.zero_add, Nat.reduceAdd]; exact rfl) rfl fun s0 hs0 => ?_
  refine dwp_len (t := 1) rfl fun hl1 hL1 => ?_
  refine zae ?_
  refine dwp_holes 1 (by simp only [holes, List.cons_append, List.nil_append]; exact rfl) ?_
  refine zad ?_
  refine walk_w rfl rfl rfl (op_boxam 0 rfl (ev1 rfl) rfl) (by simp only [upd, za, zaa]; exact rfl) ?_
  refine zab rfl rfl rfl (zac (.inr rfl) (ev1 rfl)) ?_
  refine zaf ?_
  refine zae ?_
  refine zae ?_
  refine zad ?_
  refine zab rfl rfl rfl (dop_call [] [] [] rfl (ev1 rfl) en rfl rfl (wakes_d) rfl rfl rfl rfl rfl rfl) ?_
  refine zab rfl rfl rfl (op_not rfl (ev1 rfl)) ?_
  refine zaf ?_
  refine dwp_if_f rfl (rfl) ?_
  refine dwp_skip ?_
  refine zae ?_
  by_cases hright : rightB w h (ts.take 17) = true
  · obtain ⟨T, hT⟩ : ∃ T, T = ts.take 17 := ⟨_, rfl⟩
    rw [← hT] at hright
    have hc := rightB_ok hright
    have hle := hc.le
    refine zad ?_
    refine zab rfl rfl rfl (op_ldmw rfl tb24 (ev1 rfl) rfl rfl) ?_
    refine zab rfl rfl rfl (dop_call [] [] [] rfl (ev1 rfl) (ec (ev1 rfl) en) rfl rfl ((by rw [hT]; exact own_d w h ts : DFun Try.prog 9 [shD w h ts] [] (shD w h T) [])) rfl rfl rfl rfl rfl rfl) ?_
    refine walk_i rfl rfl rfl (dop_callI [] [] rfl (ev1 rfl) (ec (ev1 rfl) en) rfl rfl (of_i w h T hc) rfl rfl rfl rfl (fun I d h => h.nl fun e he => he.nl)) (by simp only [upd, za, zaa]; exact rfl) ?_
    rintro I1 _ hI1 hP1 ⟨_, ⟨A1, hA1, hN1, rfl⟩, rfl⟩
    refine zab rfl rfl rfl (zac (.inl rfl) (ev1 rfl)) ?_
    refine zab rfl rfl rfl (op_ext rfl (ev1 rfl) rfl) ?_
    refine zab rfl rfl rfl (op_ext rfl (ev1 rfl) rfl) ?_
    refine zab rfl rfl rfl (zac (.inr rfl) (ev1 rfl)) ?_
    refine zab rfl rfl rfl (zac (.inr rfl) (ev1 rfl)) ?_
    refine zaf ?_
    refine zae ?_
    refine zae ?_
    refine zad ?_
    refine zab rfl rfl rfl (zac (.inl rfl) (ev1 rfl)) ?_
    refine zab rfl rfl rfl (op_neq rfl (ev1 rfl) (ev1 rfl)) ?_
    refine zaf ?_
    refine dwp_if_f rfl (rfl) ?_
    refine dwp_skip ?_
    refine zae ?_
    have hr1 := pinsR_ok hA1
    obtain ⟨L, hL⟩ : ∃ L, L = l.take 30 := ⟨_, rfl⟩
    have hL30 : L.length ≤ 30 := by rw [hL, List.length_take]; omega
    have hcu := hc.puts L
    have hlu : (putsC w h T L).length = T.length := putsC_len ..
    refine zad ?_
    refine zab rfl rfl rfl (zac (.inl rfl) (ev1 rfl)) ?_
    refine zab rfl rfl rfl (dop_call [] [] [] rfl (ev1 rfl) (ec (ev1 rfl) en) rfl rfl ((by rw [hL]; exact few_d l : DFun Try.prog 29 [.slf 6 l.length (l.flatMap dtC)] [] (.slf 6 L.length (L.flatMap dtC)) [])) rfl rfl rfl rfl rfl rfl) ?_
    refine zab rfl rfl rfl (zac (.inr rfl) (ev1 rfl)) ?_
    refine zaf ?_
    refine zae ?_
    refine zad ?_
    refine zab rfl rfl rfl (zac (.inl rfl) (ev1 rfl)) ?_
    refine zab rfl rfl rfl (zac (.inl rfl) (ev1 rfl)) ?_
    refine walk_i rfl rfl rfl (dop_callI [] [] rfl (ev1 rfl) (ec (ev1 rfl) (ec (ev1 rfl) en)) rfl rfl (with_i w h _ _ hr1 hc L) rfl rfl rfl rfl (fun I d hf => by obtain ⟨_, _, rfl⟩ := hf; rfl)) (by simp only [upd, za, zaa]; exact rfl) ?_
    rintro I2 _ hI2 hP2 ⟨ps2, hp2, rfl⟩
    refine zab rfl rfl rfl (zac (.inr rfl) (ev1 rfl)) ?_
    refine zaf ?_
    refine zae ?_
    have hr2 := hp2.ok hr1 hlu
    have hpn1 := pinsR_pins A1 T
    have hpn2 := hp2.pins hpn1 hr1 hlu
    have hk1 := shN_kept hp2 hr1 (fun d hd => hP2 5 _ rfl _ (pins_cv hpn1 d hd)) hlu
    have hn1 := pinsR_len hA1
    have hn2 := hp2.len
    obtain ⟨P, hP⟩ : ∃ P, P = difC w h T (putsC w h T L) := ⟨_, rfl⟩
    refine dwp_holes 1 (by simp only [holes, List.cons_append, List.nil_append]; exact rfl) ?_
    refine zad ?_
    refine walk_w rfl rfl rfl (op_mkm p2 1 rfl rfl) (by simp only [upd, za, zaa]; exact rfl) ?_
    refine zab rfl rfl rfl (zac (.inr rfl) (ev1 rfl)) ?_
    refine zaf ?_
    refine zae ?_
    refine zae ?_
    refine zad ?_
    refine zab rfl rfl rfl (zac (.inl rfl) (ev1 rfl)) ?_
    refine zab rfl rfl rfl (zac (.inl rfl) (ev1 rfl)) ?_
    refine zab rfl rfl rfl (dop_call [] [] [] rfl (ev1 rfl) (ec (ev1 rfl) (ec (ev1 rfl) en)) rfl rfl ((by rw [hP]; exact differ_d w h _ _ _ _ hr1 hr2 hc hcu : DFun Try.prog 23 _ [] (.slf 2 P.length (P.flatMap p2)) [])) rfl rfl rfl rfl rfl rfl) ?_
    refine zab rfl rfl rfl (op_len rfl sl25 (ev1 rfl)) ?_
    refine zab rfl rfl rfl (zac (.inl rfl) (ev1 rfl)) ?_
    refine zaf ?_
    refine dwp_block ?_
    refine dwp_loopS ⟨hs0, rfl⟩ (α := Nat) (fun k => [(42, .val (.int .i64 (k : Int)))]) [(1, _), (5, _), (7, _), (8, _), (40, _), (41, _)] (fun k => [(1, .obj (mapO p2 (tilM (P.take k))))]) [_, .hole] (fun k => k ≤ P.length) (fun k => P.length - k) 0 [0, 1] (Nat.zero_le _) rfl ⟨rfl, rfl, rfl, rfl, rfl, rfl, trivial⟩ ⟨rfl, trivial⟩ ⟨rfl, rfl, trivial⟩ ?_
    intro k hx
    simp only [upd, za, zaa, List.cons_append, List.nil_append]
    have hk := hx
    refine zae ?_
    refine zad ?_
    refine zab rfl rfl rfl (op_lss rfl (ev1 rfl) (ev1 rfl)) ?_
    refine zaf ?_
    refine zae ?_
    refine dwp_cond rfl (fun c3 => ?_) (fun c3 => ?_)
    · try simp only [yg, ya, beq_iff_eq, bne_iff_ne, yb, yc, yf, ye, yh, yi, yd, ne_eq, yj, Int.not_lt, Int.not_le] at c3
      refine dwp_skip ?_
      refine zae ?_
      refine dwp_block ?_
      refine zae ?_
      refine dwp_holes 1 (by simp only [holes, List.cons_append, List.nil_append]; exact rfl) ?_
      refine zad ?_
      refine zab rfl rfl rfl (op_ixsr (j := k) rfl sl25 (ev1 rfl) (ev1 rfl) (fun _ => rfl) (by decide) (by omega) (by omega)) ?_
      refine zab rfl rfl rfl (op_ldwd rfl tb56 (ev1 rfl) rfl) ?_
      refine walk_w rfl rfl rfl (op_alloc 2 rfl zr56 rfl) (by simp only [upd, za, zaa]; exact rfl) ?_
      refine walk_s rfl rfl (op_stwa rfl tb56 (ev1 rfl) (ev1 rfl) rfl rfl rfl rfl) (by simp only [upd, za, zaa]; exact rfl) ?_
      refine zaf ?_
      refine zae ?_
      have hm := dif_mem (w := w) (h := h) (ts := T) (us := (putsC w h T L)) (p := P[k]) (by rw [← hP]; exact List.getElem_mem _)
      have ho := hm.1
      have hxy := onS_iff.1 ho
      have hb := mayS_b hc.may
      have hgm := tilM_get (tilK P[k]) (P.take k)
      have hpl := difC_len hc.may T (putsC w h T L)
      rw [← hP] at hpl
      rw [List.length_take] at hgm
      refine dwp_draw2 8 10 [1] [.hole, .obj (mapO p2 (setM (tilK P[k]) (getM (tilK P[k]) (tilM (P.take k))) (tilM (P.take k))))] [([], []), ([], []), ([2], []), ([], []), ([], []), ([2], []), ([], []), ([], []), ([1], []), ([], []), ([1], [1]), ([], []), ([1], [1])] mixed (by kernel_rfl) ?_
      refine lexS_r rfl rfl rfl (zac (.inl rfl) (ev1 rfl)) ?_
      refine lexS_r rfl rfl rfl (op_fa rfl fo56_0 (ev1 rfl)) ?_
      refine lexS_r rfl rfl rfl (op_ldo rfl tb3 (ev1 rfl) rfl rfl) ?_
      refine lexS_r rfl rfl rfl (op_quo' rfl (ev1 rfl) (ev1 rfl) (fun _ => ⟨by omega, by omega, IntWalk.i64_in _ (by omega)⟩)) ?_
      refine lexS_r rfl rfl rfl (op_fa rfl fo56_1 (ev1 rfl)) ?_
      refine lexS_r rfl rfl rfl (op_ldo rfl tb3 (ev1 rfl) rfl rfl) ?_
      refine lexS_r rfl rfl rfl (op_quo' rfl (ev1 rfl) (ev1 rfl) (fun _ => ⟨by omega, by omega, IntWalk.i64_in _ (by omega)⟩)) ?_
      refine lexS_r rfl rfl rfl ((op_build (ps := [(0, .tmp 49), (1, .tmp 52)]) rfl fl56 zr56 (vc (ev1 rfl) (vc (ev1 rfl) vn)) rfl rfl).cast (d' := .val (.agg (p2 (tilK P[k])).toArray)) (rfl)) ?_
      refine lexS_i rfl rfl rfl rfl (op_lkp mp69 zv3 keyP rfl (ev1 rfl) (ev1 rfl) rfl) (op_lkp2 mp69 zv3 keyP rfl (ev1 rfl) (ev1 rfl) rfl) ?_
      refine lexS_r rfl rfl rfl (op_add' rfl (ev1 rfl) (ev1 rfl) (fun _ => IntWalk.i64_in _ (by omega))) ?_
      refine lexS_j rfl rfl rfl (op_men2 mp69 zv3 keyP rfl (ev1 rfl) (ev1 rfl) rfl) rfl (by simp only [upd, za, zaa]; exact rfl) (by simp only [List.mem_cons, List.not_mem_nil, or_false]; rintro x rfl; rfl) ?_
      refine lexS_r rfl rfl rfl (op_ext rfl (ev1 rfl) rfl) ?_
      refine lexS_s rfl rfl rfl (op_est2 (k := (tilK P[k])) rfl (ev1 rfl) (ev1 rfl) (ev1 rfl) rfl) rfl (by simp only [upd, za, zaa]; exact rfl) ?_
      refine lexS_nil ?_
      refine zae ?_
      refine dwp_holes 1 (by simp only [holes, List.cons_append, List.nil_append]; exact rfl) ?_
      refine zad ?_
      refine zab rfl rfl rfl (zac (.inl rfl) (ev1 rfl)) ?_
      refine zab rfl rfl rfl (op_fa rfl fo56_0 (ev1 rfl)) ?_
      refine zab rfl rfl rfl (op_ldo rfl tb3 (ev1 rfl) rfl rfl) ?_
      refine zab rfl rfl rfl (op_fa rfl fo56_1 (ev1 rfl)) ?_
      refine zab rfl rfl rfl (op_ldo rfl tb3 (ev1 rfl) rfl rfl) ?_
      refine zab rfl rfl rfl (dop_call [] [] [] rfl (ev1 rfl) (ec (ev1 rfl) (ec (ev1 rfl) (ec (ev1 rfl) en))) rfl rfl (at_d w h _ _ hr1 hc P[k].x P[k].y) rfl rfl rfl rfl rfl rfl) ?_
      refine zab rfl rfl rfl (zac (.inl rfl) (ev1 rfl)) ?_
      refine zab rfl rfl rfl (op_ext rfl (ev1 rfl) rfl) ?_
      refine zab rfl rfl rfl (op_ext rfl (ev1 rfl) rfl) ?_
      refine walk_w rfl rfl rfl (op_alloc 3 rfl zr40 rfl) (by simp only [upd, za, zaa]; exact rfl) ?_
      refine walk_s rfl rfl (op_stwa rfl tb40 (ev1 rfl) (ev1 rfl) rfl rfl rfl rfl) (by simp only [upd, za, zaa]; exact rfl) ?_
      refine zab rfl rfl rfl (zac (.inr rfl) (ev1 rfl)) ?_
      refine zaf ?_
      refine zae ?_
      refine dwp_holes 1 (by simp only [holes, List.cons_append, List.nil_append]; exact rfl) ?_
      refine zad ?_
      refine zab rfl rfl rfl (zac (.inl rfl) (ev1 rfl)) ?_
      refine zab rfl rfl rfl (op_fa rfl fo56_0 (ev1 rfl)) ?_
      refine zab rfl rfl rfl (op_ldo rfl tb3 (ev1 rfl) rfl rfl) ?_
      refine zab rfl rfl rfl (op_fa rfl fo56_1 (ev1 rfl)) ?_
      refine zab rfl rfl rfl (op_ldo rfl tb3 (ev1 rfl) rfl rfl) ?_
      refine zab rfl rfl rfl (dop_call [] [] [] rfl (ev1 rfl) (ec (ev1 rfl) (ec (ev1 rfl) (ec (ev1 rfl) en))) rfl rfl (at_d w h _ _ hr2 hcu P[k].x P[k].y) rfl rfl rfl rfl rfl rfl) ?_
      refine zab rfl rfl rfl (zac (.inl rfl) (ev1 rfl)) ?_
      refine zab rfl rfl rfl (op_ext rfl (ev1 rfl) rfl) ?_
      refine zab rfl rfl rfl (op_ext rfl (ev1 rfl) rfl) ?_
      refine walk_w rfl rfl rfl (op_alloc 4 rfl zr40 rfl) (by simp only [upd, za, zaa]; exact rfl) ?_
      refine walk_s rfl rfl (op_stwa rfl tb40 (ev1 rfl) (ev1 rfl) rfl rfl rfl rfl) (by simp only [upd, za, zaa]; exact rfl) ?_
      refine zab rfl rfl rfl (zac (.inr rfl) (ev1 rfl)) ?_
      refine zaf ?_
      refine zae ?_
      refine dwp_holes 1 (by simp only [holes, List.cons_append, List.nil_append]; exact rfl) ?_
      refine zad ?_
      refine zab rfl rfl rfl (op_build0 rfl fl40 zr40) ?_
      refine walk_w rfl rfl rfl (op_alloc 5 rfl zr40 rfl) (by simp only [upd, za, zaa]; exact rfl) ?_
      refine walk_s rfl rfl (op_stwa rfl tb40 (ev1 rfl) (ev1 rfl) rfl rfl rfl rfl) (by simp only [upd, za, zaa]; exact rfl) ?_
      refine zab rfl rfl rfl (zac (.inr rfl) (ev1 rfl)) ?_
      refine zaf ?_
      refine zae ?_
      refine zae ?_
      refine zad ?_
      refine zab rfl rfl rfl (zac (.inl rfl) (ev1 rfl)) ?_
      refine zab rfl rfl rfl (op_len rfl sl60 (ev1 rfl)) ?_
      refine zab rfl rfl rfl (zac (.inl rfl) (ev1 rfl)) ?_
      refine zaf ?_
      refine dwp_block ?_
      refine dwp_loopS ⟨hs0, rfl⟩ (α := Nat) (fun j => [(16, .val (.bool (lastF P[k].x P[k].y (L.take j)).2)), (79, .val (.int .i64 (j : Int)))]) [(1, _), (5, _), (7, _), (8, _), (10, _), (11, _), (12, _), (13, _), (14, _), (15, _), (40, _), (41, _), (42, _), (77, _), (78, _)] (fun j => [(5, .flat 40 (c4 (lastF P[k].x P[k].y (L.take j)).1))]) [_, _, _, _, _, .hole] (fun j => j ≤ L.length) (fun j => L.length - j) 0 [0, 1, 2, 3, 4, 5] (Nat.zero_le _) rfl ⟨rfl, rfl, rfl, rfl, rfl, rfl, rfl, rfl, rfl, rfl, rfl, rfl, rfl, rfl, rfl, trivial⟩ ⟨rfl, rfl, trivial⟩ ⟨rfl, rfl, rfl, rfl, rfl, rfl, trivial⟩ ?_
      intro j hx
      simp only [upd, za, zaa, List.cons_append, List.nil_append]
      have hj := hx
      refine zae ?_
      refine zad ?_
      refine zab rfl rfl rfl (op_lss rfl (ev1 rfl) (ev1 rfl)) ?_
      refine zaf ?_
      refine zae ?_
      refine dwp_cond rfl (fun c4 => ?_) (fun c4 => ?_)
      · try simp only [yg, ya, beq_iff_eq, bne_iff_ne, yb, yc, yf, ye, yh, yi, yd, ne_eq, yj, Int.not_lt, Int.not_le] at c4
        refine dwp_skip ?_
        refine zae ?_
        refine dwp_block ?_
        refine zae ?_
        refine dwp_holes 1 (by simp only [holes, List.cons_append, List.nil_append]; exact rfl) ?_
        refine zad ?_
        refine zab rfl rfl rfl (op_ixsr (j := j) rfl sl60 (ev1 rfl) (ev1 rfl) (fun _ => rfl) (by decide) (by omega) (by omega)) ?_
        refine zab rfl rfl rfl (op_ldwd rfl tb47 (ev1 rfl) rfl) ?_
        refine walk_w rfl rfl rfl (op_alloc 6 rfl zr47 rfl) (by simp only [upd, za, zaa]; exact rfl) ?_
        refine walk_s rfl rfl (op_stwa rfl tb47 (ev1 rfl) (ev1 rfl) rfl rfl rfl rfl) (by simp only [upd, za, zaa]; exact rfl) ?_
        refine zaf ?_
        refine zae ?_
        refine zad ?_
        refine zab rfl rfl rfl (op_fa rfl fo47_0 (ev1 rfl)) ?_
        refine zab rfl rfl rfl (op_ldo rfl tb3 (ev1 rfl) rfl rfl) ?_
        refine zab rfl rfl rfl (op_fa rfl fo56_0 (ev1 rfl)) ?_
        refine zab rfl rfl rfl (op_ldo rfl tb3 (ev1 rfl) rfl rfl) ?_
        refine zab rfl rfl rfl (op_eql rfl (ev1 rfl) (ev1 rfl)) ?_
        refine zab rfl rfl rfl (zac (.inl rfl) (ev1 rfl)) ?_
        refine walk_gr (gd_t rfl rfl rfl) rfl rfl rfl (op_fa rfl fo47_1 (ev1 rfl)) ?_
        refine walk_gr (gd_t rfl rfl rfl) rfl rfl rfl (op_ldo rfl tb3 (ev2 rfl) rfl rfl) ?_
        refine walk_gr (gd_t rfl rfl rfl) rfl rfl rfl (op_fa rfl fo56_1 (ev1 rfl)) ?_
        refine walk_gr (gd_t rfl rfl rfl) rfl rfl rfl (op_ldo rfl tb3 (ev2 rfl) rfl rfl) ?_
        refine walk_gr (gd_t rfl rfl rfl) rfl rfl rfl (op_eql rfl (ev2 rfl) (ev2 rfl)) ?_
        refine zab rfl rfl rfl (op_and rfl (ev1 rfl) (ev3 rfl id)) ?_
        refine zaf ?_
        refine dwp_cond rfl (fun c2 => ?_) (fun c2 => ?_)
        · have c3 : L[j].x = P[k].x ∧ L[j].y = P[k].y := by simpa using c2
          refine zad ?_
          refine zab rfl rfl rfl (op_fa rfl fo47_2 (ev1 rfl)) ?_
          refine zab rfl rfl rfl (op_ldr rfl tb40 (ev1 rfl) rfl rfl rfl) ?_
          refine walk_s rfl rfl (op_stwa rfl tb40 (ev1 rfl) (ev1 rfl) rfl rfl rfl rfl) (by simp only [upd, za, zaa]; exact rfl) ?_
          refine zab rfl rfl rfl (zac (.inr rfl) (ev1 rfl)) ?_
          refine zaf ?_
          refine zad ?_
          refine zab rfl rfl rfl (op_add' rfl (ev1 rfl) (ev1 rfl) (fun _ => IntWalk.i64_in _ (by omega))) ?_
          refine zab rfl rfl rfl (zac (.inl rfl) (ev1 rfl)) ?_
          refine zaf ?_
          refine ⟨j + 1, [0, 1, 2, 3, 4, 5], by omega, by simp only []; omega, rfl, ⟨by rw [lastF_add (by omega), if_pos c3]; rfl, rfl, rfl, rfl, rfl, rfl, rfl, rfl, rfl, rfl, rfl, rfl, rfl, rfl, rfl, rfl, rfl, trivial⟩, ⟨rfl, rfl, rfl, rfl, rfl, by rw [lastF_add (by omega), if_pos c3]; rfl, trivial⟩⟩
        · have c3 : ¬ (L[j].x = P[k].x ∧ L[j].y = P[k].y) := by simpa using c2
          refine dwp_skip ?_
          refine zad ?_
          refine zab rfl rfl rfl (op_add' rfl (ev1 rfl) (ev1 rfl) (fun _ => IntWalk.i64_in _ (by omega))) ?_
          refine zab rfl rfl rfl (zac (.inl rfl) (ev1 rfl)) ?_
          refine zaf ?_
          refine ⟨j + 1, [0, 1, 2, 3, 4, 5], by omega, by simp only []; omega, rfl, ⟨by rw [lastF_add (by omega), if_neg c3]; rfl, rfl, rfl, rfl, rfl, rfl, rfl, rfl, rfl, rfl, rfl, rfl, rfl, rfl, rfl, rfl, rfl, trivial⟩, ⟨rfl, rfl, rfl, rfl, rfl, by rw [lastF_add (by omega), if_neg c3]; rfl, trivial⟩⟩
      · try simp only [yg, ya, beq_iff_eq, bne_iff_ne, yb, yc, yf, ye, yh, yi, yd, ne_eq, yj, Int.not_lt, Int.not_le] at c4
        refine dwp_exit ?_
        refine zae ?_
        have hj2 : L.take j = L := List.take_of_length_le (by omega)
        rw [hj2]
        have hg := getC_puts hc ho L
        have hlt : (lastF P[k].x P[k].y L).2 = true := by
          cases e : (lastF P[k].x P[k].y L).2 with
          | true => rfl
          | false => rw [e] at hg; exact absurd hg.symm hm.2
        have hgv : getC w (putsC w h T L) P[k].x P[k].y = (lastF P[k].x P[k].y L).1 := by rw [hg, if_pos hlt]
        refine zad ?_
        refine zab rfl rfl rfl (zac (.inl rfl) (ev1 rfl)) ?_
        refine zab rfl rfl rfl (op_not rfl (ev1 rfl)) ?_
        refine zab rfl rfl rfl (zac (.inl rfl) (ev1 rfl)) ?_
        refine walk_gr (gd_f rfl rfl rfl) rfl rfl rfl (zac (.inl rfl) (ev1 rfl)) ?_
        refine walk_gr (gd_f rfl rfl rfl) rfl rfl rfl (op_not rfl (ev2 rfl)) ?_
        refine zab rfl rfl rfl (op_or rfl (ev1 rfl) (ev3 rfl id)) ?_
        refine zab rfl rfl rfl (zac (.inl rfl) (ev1 rfl)) ?_
        refine walk_gr (gd_f rfl rfl rfl) rfl rfl rfl (op_ldw rfl tb40 (ev1 rfl) rfl rfl) ?_
        refine walk_gr (gd_f rfl rfl rfl) rfl rfl rfl (op_ldw rfl tb40 (ev1 rfl) rfl rfl) ?_
        refine walk_gr (gd_f rfl rfl rfl) rfl rfl rfl (op_eqr eq40 rfl gd40 tb40 (ev2 rfl) (ev2 rfl)) ?_
        refine zab rfl rfl rfl (op_or rfl (ev1 rfl) (ev3 rfl id)) ?_
        refine zab rfl rfl rfl (zac (.inl rfl) (ev1 rfl)) ?_
        refine walk_gr (gd_f rfl rfl rfl) rfl rfl rfl (zac (.inl rfl) (ev1 rfl)) ?_
        refine walk_gr (gd_f rfl rfl rfl) rfl rfl rfl (op_not rfl (ev2 rfl)) ?_
        refine zab rfl rfl rfl (op_or rfl (ev1 rfl) (ev3 rfl id)) ?_
        refine zab rfl rfl rfl (zac (.inl rfl) (ev1 rfl)) ?_
        refine walk_gr (gd_f rfl rfl rfl) rfl rfl rfl (op_ldw rfl tb40 (ev1 rfl) rfl rfl) ?_
        refine walk_gr (gd_f rfl rfl rfl) rfl rfl rfl (op_ldw rfl tb40 (ev1 rfl) rfl rfl) ?_
        refine walk_gr (gd_f rfl rfl rfl) rfl rfl rfl (op_ner eq40 rfl gd40 tb40 (ev2 rfl) (ev2 rfl)) ?_
        refine zab rfl rfl rfl (op_or rfl (ev1 rfl) (ev3 rfl id)) ?_
        refine zaf ?_
        refine dwp_if_f rfl (by simp [ho, hlt, hgv, hgv ▸ hm.2]) ?_
        refine dwp_skip ?_
        refine zad ?_
        refine zab rfl rfl rfl (op_add' rfl (ev1 rfl) (ev1 rfl) (fun _ => IntWalk.i64_in _ (by omega))) ?_
        refine zab rfl rfl rfl (zac (.inl rfl) (ev1 rfl)) ?_
        refine zaf ?_
        refine ⟨k + 1, [0, 1], by omega, by simp only []; omega, rfl, ⟨rfl, rfl, rfl, rfl, rfl, rfl, rfl, trivial⟩, ⟨rfl, by rw [tilM_add (by omega)]; rfl, trivial⟩⟩
    · try simp only [yg, ya, beq_iff_eq, bne_iff_ne, yb, yc, yf, ye, yh, yi, yd, ne_eq, yj, Int.not_lt, Int.not_le] at c3
      refine dwp_exit ?_
      refine zae ?_
      have hk2 : P.take k = P := List.take_of_length_le (by omega)
      rw [hk2]
      have hq := tilM_kept hc hcu
      rw [← hP] at hq
      have hka := keptN_all hlu
      refine zad ?_
      refine zab rfl rfl rfl (zac (.inl rfl) (ev1 rfl)) ?_
      refine zab rfl rfl rfl (dop_call [] [] [] rfl (ev1 rfl) (ec (ev1 rfl) en) rfl rfl (show_d w h _ _ hr1 hc) rfl rfl rfl rfl rfl rfl) ?_
      refine zab rfl rfl rfl (op_fdc rfl fp24_2 (ev1 rfl) rfl) ?_
      refine zab rfl rfl rfl (op_len rfl sl22 (ev1 rfl)) ?_
      refine zab rfl rfl rfl (zac (.inr rfl) (ev1 rfl)) ?_
      refine zaf ?_
      refine zae ?_
      refine zad ?_
      refine zab rfl rfl rfl (zac (.inl rfl) (ev1 rfl)) ?_
      refine zab rfl rfl rfl (zac (.inl rfl) (ev1 rfl)) ?_
      refine zab rfl rfl rfl (dop_call [] [] [] rfl (ev1 rfl) (ec (ev1 rfl) (ec (ev1 rfl) en)) rfl rfl (shared_d w h _ _ (by omega) (by omega) hpn1 hpn2) rfl rfl rfl rfl rfl rfl) ?_
      refine zab rfl rfl rfl (zac (.inl rfl) (ev1 rfl)) ?_
      refine zab rfl rfl rfl (zac (.inl rfl) (ev1 rfl)) ?_
      refine zab rfl rfl rfl (op_lenmo rfl mp69 (ev1 rfl) rfl) ?_
      refine zab rfl rfl rfl (op_sub' rfl (ev1 rfl) (ev1 rfl) (fun _ => IntWalk.i64_in _ (by omega))) ?_
      refine zab rfl rfl rfl (op_eql rfl (ev1 rfl) (ev1 rfl)) ?_
      refine zab rfl rfl rfl (zac (.inl rfl) (ev1 rfl)) ?_
      refine walk_gr (gd_t rfl rfl rfl) rfl rfl rfl (zac (.inl rfl) (ev1 rfl)) ?_
      refine walk_gr (gd_t rfl rfl rfl) rfl rfl rfl (op_lenmo rfl mp69 (ev2 rfl) rfl) ?_
      refine walk_gr (gd_t rfl rfl rfl) rfl rfl rfl (op_eql rfl (ev2 rfl) (ev1 rfl)) ?_
      refine walk_gr (gd_t rfl rfl rfl) rfl rfl rfl (zac (.inl rfl) (ev1 rfl)) ?_
      refine walk_gr (gd_t rfl rfl rfl) rfl rfl rfl (zac (.inl rfl) (ev1 rfl)) ?_
      refine walk_gr (gd_t rfl rfl rfl) rfl rfl rfl (dop_call [] [] [] rfl (ev1 rfl) (ec (ev2 rfl) (ec (ev2 rfl) en)) rfl rfl (same_cv w h _ _ _ _ hr1 hr2 hc hcu) rfl rfl rfl rfl rfl rfl) ?_
      refine walk_gr (gd_t rfl rfl rfl) rfl rfl rfl (op_eqb rfl un4 (ev2 rfl) (ev2 rfl)) ?_
      refine zab rfl rfl rfl (op_and rfl (ev1 rfl) (ev3 rfl id)) ?_
      refine zab rfl rfl rfl (zac (.inr rfl) (ev1 rfl)) ?_
      refine zaf ?_
      refine dwp_ret ?_
      refine kend0 (rs1 rfl (rv_t rfl)) rfl ?_
      first | rfl | (obtain ⟨N, hN⟩ : ∃ N, N = (tilM P).length := ⟨_, rfl⟩; rw [← hN] at hq ⊢; rw [hk1]; simp; exact ⟨by omega, by rw [Bool.eq_iff_iff]; simp; rw [← hka]; omega⟩) | simp
  · obtain ⟨T, hT⟩ : ∃ T, T = ts.take 17 := ⟨_, rfl⟩
    refine zad ?_
    refine zab rfl rfl rfl (op_ldmw rfl tb24 (ev1 rfl) rfl rfl) ?_
    refine zab rfl rfl rfl (dop_call [] [] [] rfl (ev1 rfl) (ec (ev1 rfl) en) rfl rfl ((by rw [hT]; exact own_d w h ts : DFun Try.prog 9 [shD w h ts] [] (shD w h T) [])) rfl rfl rfl rfl rfl rfl) ?_
    refine zab rfl rfl rfl (dop_call [] [] [] rfl (ev1 rfl) (ec (ev1 rfl) en) rfl rfl (of_0 w h T (by rw [hT]; simpa using hright)) rfl rfl rfl rfl rfl rfl) ?_
    refine zab rfl rfl rfl (zac (.inl rfl) (ev1 rfl)) ?_
    refine zab rfl rfl rfl (op_ext rfl (ev1 rfl) rfl) ?_
    refine zab rfl rfl rfl (op_ext rfl (ev1 rfl) rfl) ?_
    refine zab rfl rfl rfl (zac (.inr rfl) (ev1 rfl)) ?_
    refine zab rfl rfl rfl (zac (.inr rfl) (ev1 rfl)) ?_
    refine zaf ?_
    refine zae ?_
    refine zae ?_
    refine zad ?_
    refine zab rfl rfl rfl (zac (.inl rfl) (ev1 rfl)) ?_
    refine zab rfl rfl rfl (op_neq rfl (ev1 rfl) (ev1 rfl)) ?_
    refine zaf ?_
    refine dwp_if_t rfl (rfl) ?_
    refine zae ?_
    refine zad ?_
    refine zab rfl rfl rfl (zac (.inl rfl) (ev1 rfl)) ?_
    refine zab rfl rfl rfl (op_pnil0 rfl pt32 (ev1 rfl)) ?_
    refine zab rfl rfl rfl (zac (.inr rfl) (ev1 rfl)) ?_
    refine zaf ?_
    refine dwp_ret ?_
    refine kend0 (rs1 rfl (rv_t rfl)) rfl ?_
    first | rfl | (obtain ⟨N, hN⟩ : ∃ N, N = (tilM P).length := ⟨_, rfl⟩; rw [← hN] at hq ⊢; rw [hk1]; simp; exact ⟨by omega, by rw [Bool.eq_iff_iff]; simp; rw [← hka]; omega⟩) | simp
end Go.Proofs.Ytkhlobbkoodkmaa
