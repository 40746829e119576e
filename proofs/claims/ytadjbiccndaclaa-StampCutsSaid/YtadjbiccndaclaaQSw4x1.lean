/- Operations: numbers, bools, structs, memory that is read and written. Conditions: what a type is, by the kernel; Operations that make memory, and write it. Conditions: what a type is, by the kernel; Operations on slices: made, cut, grown; tuples; function values; structs. Conditions: what a type is, by the kernel; Codes within a function; a loop's rounds one by one; strings; From a contract to the statement: a law whose call returns true whatever its arguments read as; with listed variables, too.  but the kernel's look at the program; Rows of one's own that hold data: made, measured, looked into; parts of rows of one's own, measured, looked into; Families, looked into and written; rows of names; appends of what is one's own; Rows of structs with addresses, made by make, and copied into; Variables that stay, named by their addresses; contracts that give one of several things; what is fres. No condition. -/
import Derived.Test.YtadjbiccndaclaaQ5
import Derived.Test.YtadjbiccndaclaaRows
namespace Go.Proofs.Ytadjbiccndaclaa
theorem ya {p : Prop} [Decidable p] : decide p = false ↔ ¬p := _root_.decide_eq_false_iff_not
theorem yb {α : Type _} [BEq α] [LawfulBEq α] {a b : α} : (a == b) = false ↔ a ≠ b := _root_.beq_eq_false_iff_ne
theorem yc {α : Type _} [BEq α] [LawfulBEq α] {a b : α} : (a != b) = false ↔ a = b := _root_.bne_eq_false_iff_eq
theorem yd {x y : Bool} : (x || y) = false ↔ x = false ∧ y = false := _root_.Bool.or_eq_false_iff
theorem ye {b : Bool} : ((!b) = false) = (b = true) := by cases b <;> simp
theorem yf {b : Bool} : ((!b) = true) = (b = false) := by cases b <;> simp
theorem yg {p : Prop} [Decidable p] : (decide p = true) = p := _root_.decide_eq_true_eq
theorem yh {a b : Bool} : ((a && b) = true) = (a = true ∧ b = true) := _root_.Bool.and_eq_true a b
theorem yi {a b : Bool} : ((a || b) = true) = (a = true ∨ b = true) := _root_.Bool.or_eq_true a b
theorem yj {p : Prop} [Decidable p] : ¬¬p ↔ p := _root_.Decidable.not_not
set_option linter.unusedVariables false
set_option linter.unusedSimpArgs false
open Go.RowKit

/-! ### what a type is -/
section
variable {P : Program} {pc : Bool} {o : Oper} {F : Fr} {M : List Blk}
section
variable {T T' : TypeId} {x y : Operand} {k : IntKind} {p q : Int}
end
section
variable {T : TypeId} {x : Operand} {i p k : Nat} {L R : List Value} {v : Value}
theorem arr_cells {s : St} (hok : Ok s) {T' : TypeId} {sz n n' c b : Nat} (h1 : s.M[i]? = some (.arr T' sz n L)) (h2 : s.β[i]? = some (.slice (some ⟨b, 0, none⟩) n' c)) : n' = n ∧ L.length = n * sz ∧ n ≤ c ∧ c ≤ maxLen ∧ cellsAt s.w b 0 L ∧ ∃ cur, s.w.heap[b]? = some (.cells cur T' (0, 0)) ∧ L.length ≤ cur.size ∧ cur.toList.take L.length = L := by
  have hk : s.w.ownsRow 0 T' sz _ n L := hok.blk i _ _ h1 h2
  rcases hk.2 with ⟨e1, e2⟩ | ⟨g, cap, cur, e1, e2, e3, e4, e5, e6, e7⟩
  · cases e1
  · cases e1
    have hc0 := cellsAt_sub (cellsAt_block e3 0) 0 (n * sz)
    have hle := Nat.mul_le_mul_right sz e4
    exact ⟨rfl, hk.1, e4, e5, by simpa [e7] using hc0, cur, e3, by rw [hk.1, e6]; exact hle, by rw [hk.1]; exact e7⟩
theorem op_faa {f q : Nat} (ho : o.op = .fieldAddr T x f) (hT : fdO P T f = some q) (hx : Ev pc F x (.aloc i p)) : DOp P pc o F M [] (.aloc i (p + q)) [] := by
  intro hp a s hok hops hfp
  have hr := ev_at hp hx (by simp [ho, Op.operands]) hops
  generalize hv : a.eval x = vx at hr
  cases hr with
  | @aloc _ _ n' c b h => exact dg_val hok (run_fieldAddr ho hT hv) (.aloc h)
end
section
variable {T : TypeId} {x y : Operand} {i p n sz : Nat} {k : IntKind} {z : Int} {L : List Value}
variable {e : TypeId} {by' m : Nat}
end
end
theorem flat_one {α : Type} {en : α → List Value} {sz : Nat} (hen : ∀ a, (en a).length = sz) {l : List α} {j : Nat} (hj : j < l.length) : ((l.flatMap en).drop (j * sz)).take sz = en l[j] := by
  have := flat_part hen (c := 0) (k := sz) hj (by omega)
  rw [Nat.add_zero] at this
  rw [this, List.drop_zero, List.take_of_length_le (by rw [hen]; exact Nat.le_refl _)]
theorem flat_set_part {α : Type} {en : α → List Value} {sz : Nat} (hen : ∀ a, (en a).length = sz) {l : List α} {j c : Nat} {C : List Value} (hj : j < l.length) (hc : c + C.length ≤ sz) {x : α} (hx : setL (en l[j]) c C = en x) : setL (l.flatMap en) (j * sz + c) C = (l.set j x).flatMap en := by
  rw [← flat_set hen hj, ← hx]
  have h1 : (j + 1) * sz ≤ l.length * sz := Nat.mul_le_mul_right _ hj
  rw [Nat.succ_mul] at h1
  have hl := flat_len hen l
  have e1 : l.flatMap en = (l.flatMap en).take (j * sz) ++ en l[j] ++ (l.flatMap en).drop (j * sz + sz) := by
    have h2 := flat_one hen hj
    rw [← h2, List.append_assoc, ← List.drop_drop, List.take_append_drop, List.take_append_drop]
  have hlen0 : ((l.flatMap en).take (j * sz)).length = j * sz := by rw [List.length_take, hl]; omega
  generalize hA : (l.flatMap en).take (j * sz) = A at e1 hlen0
  generalize hB : (l.flatMap en).drop (j * sz + sz) = B at e1
  generalize l.flatMap en = X at e1 hl
  subst e1
  have he := hen l[j]
  generalize en l[j] = E at *
  have hlE : (setL E c C).length = E.length := setL_len _ _ _
  rw [setL_eq C _ _ (by simp; omega), setL_eq (setL E c C) _ _ (by simp; omega), hlE, setL_eq C E c (by omega)]
  have t1 : (A ++ E ++ B).take (j * sz + c) = A ++ E.take c := by
    rw [List.append_assoc, List.take_append, List.take_of_length_le (by omega), hlen0, show j * sz + c - j * sz = c by omega, List.take_append_of_le_length (by omega)]
  have t2 : (A ++ E ++ B).drop (j * sz + c + C.length) = E.drop (c + C.length) ++ B := by
    rw [List.append_assoc, List.drop_append, List.drop_eq_nil_of_le (by omega), List.nil_append, hlen0, show j * sz + c + C.length - j * sz = c + C.length by omega, List.drop_append_of_le_length (by omega)]
  have t3 : (A ++ E ++ B).take (j * sz) = A := by
    rw [List.append_assoc, List.take_append_of_le_length (by omega), List.take_of_length_le (by omega)]
  have t4 : (A ++ E ++ B).drop (j * sz + E.length) = B := by
    rw [List.drop_append, List.drop_eq_nil_of_le (by simp; omega), List.nil_append]
    simp [hlen0]
  rw [t1, t2, t3, t4]
  simp
section
variable {P : Program} {pc : Bool} {o : Oper} {F : Fr} {M : List Blk}
theorem op_stwb {T T' : TypeId} {x y : Operand} {i : Nat} {rw' : Bool} {z : Bool} {v : Value} (ho : o.op = .store T x y) (hT : tyB P T = some (rw', 1)) (hx : Ev pc F x (.loc i 0)) (hy : Ev pc F y (.val (.bool z))) (hM : M[i]? = some (.flat T' [v])) : DOp P pc o F M [i] .junk [(i, .flat T' [.bool z])] :=
  op_stw ho hT hx hy hM rfl rfl rfl rfl
end
section
variable {P : Program} {pc : Bool} {o : Oper} {F : Fr} {M : List Blk}
theorem op_lena {T T' : TypeId} {x : Operand} {q : TypeId × Nat × Nat} {i sz n : Nat} {L : List Value} (ho : o.op = .call { callee := .builtin .len, args := #[x], argTypes := #[T] }) (hT : slE P T = some q) (hx : Ev pc F x (.arr i)) (hM : M[i]? = some (.arr T' sz n L)) : DOp P pc o F M [i] (.val (.int .i64 n)) [] := by
  intro hp a s hok hops hfp
  obtain ⟨e1, _⟩ := slE_spec hT
  have hr := ev_at hp hx (by simp [ho, Op.operands, Call.operands]) hops
  generalize hv : a.eval x = vx at hr
  cases hr with
  | arr h =>
    have hM' : s.M[i]? = some (.arr T' sz n L) := by rw [hfp i (by simp)]; exact hM
    have hk : s.w.ownsRow 0 T' sz _ n L := hok.blk i _ _ hM' h
    refine dg_val hok (run_builtin ho (fun cs => rfl) ?_) (.val (.int .i64 n))
    rcases hk.2 with ⟨e2, e3⟩ | ⟨g, cap, cur, e2, _⟩
    · cases e2; simp [Builtin.len_, hv, run_underlying e1, goInt, e3]
    · cases e2; simp [Builtin.len_, hv, run_underlying e1, goInt]
/-- a part of an array of its own -/
theorem op_sla {T e T' : TypeId} {sz by' n k : Nat} {x : Operand} {lo hi : Option Operand} {L : List Value} {l h : Int} (ho : o.op = .slice T x lo hi none) (hT : slE P T = some (e, sz, by')) (hx : Ev pc F x (.arr k)) (hM : M[k]? = some (.arr T' sz n L)) (hlo : Bd pc F lo 0 l) (hhi : Bd pc F hi n h)
    (hb : pc = true → 0 ≤ l ∧ l ≤ h ∧ h ≤ n) : DOp P pc o F M [k] (.own k sz l.toNat (h.toNat - l.toNat)) [] := by
  intro hp a s hok hops hfp
  obtain ⟨b1, b2, b3⟩ := hb hp
  have hr := ev_at hp hx (by simp [ho, Op.operands]) hops
  generalize hv : a.eval x = vx at hr
  cases hr with
  | @arr _ ad n' c hβ =>
    have hM' : s.M[k]? = some (.arr T' sz n L) := by rw [hfp k (by simp)]; exact hM
    have hk : s.w.ownsRow 0 T' sz _ n L := hok.blk k _ _ hM' hβ
    have q1 := bd_at hp hlo (fun u e => by subst e; simp [ho, Op.operands]) hops
    have q2 := bd_at hp hhi (fun u e => by subst e; simp [ho, Op.operands]) hops
    rcases hk.2 with ⟨e1, e2⟩ | ⟨g, cap, cur, e1, e2, e3, e4, e5, e6, e7⟩
    · cases e1
      subst e2
      have hl0 : l = 0 := by omega
      have hh0 : h = 0 := by omega
      subst hl0 hh0
      refine dg_val hok (run_slice ho hT hv q1 q2 (by omega) (by omega) (by omega) (Nat.le_refl _)) ?_
      exact .ownnil hβ
    · cases e1
      refine dg_val hok (run_slice ho hT hv q1 q2 b1 b2 b3 e4) ?_
      refine .own hβ ?_ (by omega) (fun e => ?_) (by omega) (by omega)
      · by_cases hz : c = l.toNat
        · left; omega
        · right; rw [if_neg hz, Option.map_some, Addr.add_mid, Nat.zero_add]
      · split at e
        · cases e
        · cases e

/-! ### slices made -/
section
variable {T e : TypeId} {sz by' n : Nat} {ps : List (Nat × Operand)} {vs Z : List Value}
end

/-! ### append -/
theorem src_own {i p m n sz : Nat} {T' : TypeId} {L L2 : List Value} (hM : M[i]? = some (.arr T' sz n L)) (hL : (L.drop (p * sz)).take (m * sz) = L2) : SrcD M [i] (.own i sz p m) m sz L2 := by
  intro s v hok hfp hr
  have hM' : s.M[i]? = some (.arr T' sz n L) := by rw [hfp i (by simp)]; exact hM
  subst hL
  cases hr with
  | @own _ _ _ _ N cap c b ad h ha hN hz hn hc =>
    obtain ⟨e0, e1, _, _, hcl, _⟩ := arr_cells hok hM' h
    subst e0
    have hlen : ((L.drop (p * sz)).take (m * sz)).length = m * sz := by
      rw [List.length_take, List.length_drop, e1, ← Nat.mul_sub_right_distrib]
      exact Nat.min_eq_left (Nat.mul_le_mul_right _ (by omega))
    refine ⟨hlen, ad, c, rfl, ?_⟩
    cases ad with
    | none =>
      have := hz rfl
      exact .inl ⟨rfl, by omega, this, List.eq_nil_of_length_eq_zero (by rw [hlen, show m = 0 by omega]; simp)⟩
    | some ad =>
      refine .inr ⟨ad, rfl, fun j u hj => ?_⟩
      rcases ha with rfl | e
      · simp at hj
      · cases e
        rw [Addr.add_mid]
        have := cellsAt_sub hcl (p * sz) (m * sz) j u hj
        simpa using this
  | @ownnil _ _ h =>
    refine ⟨by simp, none, 0, rfl, .inl ⟨rfl, rfl, rfl, by simp⟩⟩
end
theorem arr_eq {T : TypeId} {sz n n' : Nat} {L L' : List Value} (h : n = n') (h' : L = L') : some (Blk.arr T sz n L) = some (Blk.arr T sz n' L') := by rw [h, h']
section
variable {P : Program} {s0 : St} {n : Cx}
end
open Go.ChangeShapes Go.WideShapes Go.ChangeAt Go.RowKit Go.Joins Go.Deep
set_option maxRecDepth 100000
section
variable {H : Type} {enc : TypeId × Value → H} {w : World} {base b0 : Nat} {r : Reach} {spare : Nat → Bool} {held : Bool} {v : Value} {d : DataW H} {p : List MemPlace}
theorem open_struct {α : Type} {t : TypeId} {fs : Array Field} {ps : List Prim} (f : Nat) (en : α → List Value) (ok : α → Prop) (hP : ∀ cs, fitsP ps cs → ∃ a, ok a ∧ cs = en a) (hu : Try.prog.underlying t = some (.struct fs)) (hf : flatT Try.prog f t = some ps)
    (hv : Value.okWide Try.prog w r b0 t v) (h : DataW.Trod enc Try.prog w base spare held t v d p) : ∃ a, ok a ∧ v = .agg (en a).toArray := by
  obtain ⟨cs, rfl, hsz⟩ := okWide_struct hu hv
  obtain ⟨fuel, hfu⟩ := h
  obtain ⟨a, hr, e⟩ := hP _ (flat_trod f _ _ _ _ _ hf hfu)
  refine ⟨a, hr, ?_⟩
  have e2 : cs.toList = en a := e
  rw [← e2]
end
section
variable {P : Program} {pc : Bool} {o : Oper} {F : Fr} {M : List Blk}
theorem rep_own_cells {s : St} {i sz p n : Nat} {v : Value} (h : Rep s (.own i sz p n) v) : v.cells = #[v] := by cases h <;> rfl
end
section
variable {P : Program} {pc : Bool} {o : Oper} {F : Fr} {M : List Blk}
theorem op_appxx {T e T2 : TypeId} {by' n m i j q : Nat} {x y : Operand} {l l2 : List D} {Z : List Value} (ho : o.op = .call { callee := .builtin .append, args := #[x, y], argTypes := #[T, T] }) (hT : slE P T = some (e, 1, by')) (hZ : zrC P e = some Z) (hZl : Z.length = 1)
    (hx : Ev pc F x (.arr i)) (hy : Ev pc F y (.arr q)) (hMq : M[q]? = some (.arx T2 1 m l2)) (hM : M[i]? = some (.arx e 1 n l)) (hj : M[j]? = some .hole) (h1 : l2.all D.oc2 = true) (hbd : pc = true → (n + m) * by' ≤ 140737488355328 ∧ n + m ≤ 140737488355328) :
    DOp P pc o F M [i, j, q] (.arr j) [(i, .gone), (j, .arx e 1 (n + m) (l ++ l2))] := by
  intro hp a s hok hops hfp
  obtain ⟨e1, ti, e2, e3, e4⟩ := slE_spec hT
  obtain ⟨ti', z, q1, q2, q3⟩ := zrC_spec hZ
  rw [e2] at q1
  obtain rfl := Option.some.inj q1
  obtain ⟨b1, b2⟩ := hbd hp
  have hM' : s.M[i]? = some (.arx e 1 n l) := by rw [hfp i (by simp)]; exact hM
  have hj' : s.M[j]? = some .hole := by rw [hfp j (by simp)]; exact hj
  have hij : i ≠ j := fun h => by subst h; rw [hM'] at hj'; cases hj'
  have hjl : j < s.β.length := by rw [hok.len]; exact (List.getElem?_eq_some_iff.1 hj').1
  have hrx := ev_at hp hx (by simp [ho, Op.operands, Call.operands]) hops
  have hry := ev_at hp hy (by simp [ho, Op.operands, Call.operands]) hops
  generalize hv : a.eval x = vx at hrx
  generalize hvy : a.eval y = vy at hry
  cases hry with
  | @arr _ a2 m2 cap2 hβq =>
  have hMq' : s.M[q]? = some (.arx T2 1 m l2) := by rw [hfp q (by simp)]; exact hMq
  obtain ⟨vs2, hk2, hvl2, hel2⟩ := hok.blk q _ _ hMq' hβq
  have hl2 : l2.length = m * 1 := by rw [← hvl2]; exact hk2.1
  have hso : SrcOk s (.slice a2 m2 cap2) m vs2 := by
    rcases hk2.2 with ⟨e1, e2⟩ | ⟨g, cap, cur, e1, e2, e3, e4, e5, e6, e7⟩
    · cases e1
      exact ⟨none, 0, by rw [e2], .inl ⟨rfl, e2, rfl, List.eq_nil_of_length_eq_zero (by rw [hvl2, hl2, e2])⟩⟩
    · cases e1
      refine ⟨_, _, rfl, .inr ⟨_, rfl, fun k u hk => ?_⟩⟩
      rw [Addr.add_mid]
      have hc0 := cellsAt_sub (cellsAt_block e3 0) 0 (m * 1)
      rw [Nat.mul_one] at e7
      have hc1 : cellsAt s.w g 0 vs2 := by simpa [e7] using hc0
      exact hc1 k u hk
  have hone : ∀ u ∈ vs2, u.oneCell' = true := fun u hu => by
    obtain ⟨k, hk, rfl⟩ := List.getElem_of_mem hu
    have hk2 : k < l2.length := by omega
    exact oc2_one (hel2 k _ _ (List.getElem?_eq_getElem hk2) (List.getElem?_eq_getElem hk)) (List.all_eq_true.1 h1 _ (List.getElem_mem hk2))
  cases hrx with
  | @arr _ ad n' c hβ =>
    obtain ⟨vs, hk, hvl, hel⟩ := hok.blk i _ _ hM' hβ
    obtain ⟨h', w', r1, r2, r3, r4⟩ := run_append_D (P := P) (ty := o.type) (m := m) e1 e2 e3 e4 q2 (by rw [← hZl, ← q3]; simp) hk (by rw [hvl2]; exact hl2) hso hone (by unfold maxLen; omega) b1
    have hs' : (h' = .slice none 0 0) ∨ ∃ a n c, h' = .slice (some a) n c := by
      rcases r2.2 with ⟨q, _⟩ | ⟨g, cap, cur, q, _⟩
      · exact .inl q
      · exact .inr ⟨_, _, _, q⟩
    have hs0 : (Value.slice ad n' c = .slice none 0 0) ∨ ∃ a n k, Value.slice ad n' c = .slice (some a) n k := by
      rcases hk.2 with ⟨q, _⟩ | ⟨g, cap, cur, q, _⟩
      · exact .inl q
      · exact .inr ⟨_, _, _, q⟩
    have o1 := hb_own hs'
    have o0 := hb_own hs0
    have hblk : s.w.heap.size ≤ w'.heap.size := r3.size
    have hβj : s.β[j]? = some .nilFunc := by
      have q : s.β[j]? = some s.β[j] := List.getElem?_eq_getElem hjl
      have : s.β[j] = .nilFunc := hok.blk j .hole _ hj' q
      rw [q, this]
    have from_ : ∀ b, hb h' = some b → s.w.heap.size ≤ b ∨ (hb (Value.slice ad n' c) = some b) := by
      intro b hbb
      rw [o1] at hbb
      rcases r4 b hbb with h | h
      · exact .inr (by rw [o0]; exact h)
      · exact .inl h
    have hnd' : ∀ (k : Nat) h, s.β[k]? = some h → h ≠ .nilFunc → (s.β.set j h')[k]? = some h := fun k h hk' hne => by
      by_cases e : j = k
      · subst e; rw [hβj] at hk'; exact absurd (Option.some.inj hk').symm hne
      · rw [List.getElem?_set_ne e]; exact hk'
    have imm' : ∀ b, s.I b → w'.heap[b]? = s.w.heap[b]? := fun b hI => r3.block b (hok.il b hI) fun h => by
      rw [← o0] at h
      exact (hok.lt b (live_of hM' rfl hβ h.symm)).2 hI
    have hblkx : BlkOk ⟨s.β.set j h', s.I, (s.M.set i .gone).set j (.arx e 1 (n + m) (l ++ l2)), w'⟩ h' (.arx e 1 (n + m) (l ++ l2)) := by
      refine ⟨vs ++ vs2, r2, by simp [hvl, hvl2], fun k d v hk1 hk2 => ?_⟩
      by_cases hlt : k < l.length
      · rw [List.getElem?_append_left hlt] at hk1
        rw [List.getElem?_append_left (by omega)] at hk2
        exact Rep.mono' (s' := ⟨s.β.set j h', s.I, (s.M.set i .gone).set j (.arx e 1 (n + m) (l ++ l2)), w'⟩) hnd' (fun _ h => h) imm' (hel k d v hk1 hk2)
      · rw [List.getElem?_append_right (by omega)] at hk1 hk2
        rw [hvl] at hk2
        exact Rep.mono' (s' := ⟨s.β.set j h', s.I, (s.M.set i .gone).set j (.arx e 1 (n + m) (l ++ l2)), w'⟩) hnd' (fun _ h => h) imm' (hel2 _ d v hk1 hk2)
    have ht : Tr s ⟨s.β.set j h', s.I, (s.M.set i .gone).set j (.arx e 1 (n + m) (l ++ l2)), w'⟩ := by
      refine step_set hok j (s.M.set i .gone) h' _ w' (by simp) (fun k kb hkb => ?_) (by rw [← hok.len]; exact hjl) (.inl hβj) (by rcases hs' with rfl | ⟨_, _, _, rfl⟩ <;> simp) hblkx (fun b hbb k kb hh hne q1 q2 q3 q4 => ?_) (fun b hbb => (from_ b hbb).imp id fun h => live_of hM' rfl hβ h) (fun b hbb => ?_) (fun b => hb (Value.slice ad n' c) = some b) (fun b hdr => ⟨live_of hM' rfl hβ hdr, fun k kb hh hne q1 q2 q3 q4 => ?_⟩) (fun b hlt hne hnd => ?_) r3.os r3.tape r3.output hblk
      · by_cases hki : i = k
        · subst hki
          have hlt : i < s.M.length := (List.getElem?_eq_some_iff.1 hM').1
          rw [List.getElem?_set_self hlt] at hkb
          exact .inr (Option.some.inj hkb).symm
        · rw [List.getElem?_set_ne hki] at hkb; exact .inl hkb
      · have hki : i ≠ k := fun h => by
          subst h
          have hlt : i < s.M.length := (List.getElem?_eq_some_iff.1 hM').1
          rw [List.getElem?_set_self hlt] at q1
          cases q1; cases q2
        rw [List.getElem?_set_ne hki] at q1
        rcases from_ b hbb with h | h
        · exact absurd (hok.lt b (live_of q1 q2 q3 q4)).1 (Nat.not_lt.2 h)
        · exact hki (hok.inj i k _ kb _ hh b hM' rfl hβ h q1 q2 q3 q4)
      · replace hbb : hb h' = some b := hbb
        rw [o1] at hbb
        exact (r2.lt b hbb).2
      · have hki : i ≠ k := fun h => by
          subst h
          have hlt : i < s.M.length := (List.getElem?_eq_some_iff.1 hM').1
          rw [List.getElem?_set_self hlt] at q1
          cases q1; cases q2
        rw [List.getElem?_set_ne hki] at q1
        exact hki (hok.inj i k _ kb _ hh b hM' rfl hβ hdr q1 q2 q3 q4)
      · exact r3.block b hlt fun h => hnd (by rw [o0]; exact h.symm)
    refine dg_step (s' := ⟨s.β.set j h', s.I, (s.M.set i .gone).set j (.arx e 1 (n + m) (l ++ l2)), w'⟩) (run_builtin ho (fun cs => by rfl) (by simpa [hv, hvy] using r1)) ht rfl ?_
    rcases hs' with rfl | ⟨_, _, _, rfl⟩
    · exact .arr (by simp [hjl])
    · exact .arr (by simp [hjl])
end
section
variable {P : Program} {pc : Bool} {o : Oper} {F : Fr} {M : List Blk}
end
section
variable {P : Program} {pc : Bool} {o : Oper} {F : Fr} {M : List Blk} {T e : TypeId} {by' sz : Nat} {x y : Operand}
/-- make, of length 0 -/
theorem op_mk0x (j n : Nat) {k k' : IntKind} {z z' : Int} {Z : List Value} (ho : o.op = .makeSlice T x y) (hT : slE P T = some (e, sz, by')) (hZ : zrC P e = some Z) (hx : Ev pc F x (.val (.int k z))) (hy : Ev pc F y (.val (.int k' z'))) (hz : pc = true → z = 0) (hz' : pc = true → z' = (n : Int)) (hj : M[j]? = some .hole) (hb : pc = true → by' * n ≤ 281474976710656 ∧ n ≤ 9223372036854775807) :
    DOp P pc o F M [j] (.arr j) [(j, .arx e sz 0 [])] := by
  intro hp a s hok hops hfp
  obtain ⟨e1, ti, e2, e3, e4⟩ := slE_spec hT
  obtain ⟨ti', zv, q1, q2, q3⟩ := zrC_spec hZ
  rw [e2] at q1
  obtain rfl := Option.some.inj q1
  have h1 := (ev_at hp hx (by simp [ho, Op.operands]) hops).val_eq
  have h2 := (ev_at hp hy (by simp [ho, Op.operands]) hops).val_eq
  rw [hz hp] at h1
  rw [hz' hp] at h2
  obtain ⟨b1, b2⟩ := hb hp
  have hj' : s.M[j]? = some .hole := by rw [hfp j (by simp)]; exact hj
  have hjl : j < s.β.length := by rw [hok.len]; exact (List.getElem?_eq_some_iff.1 hj').1
  have hb3 : (ti.bytes : Int) * (n : Int) ≤ 281474976710656 := by
    have h : ((ti.bytes * n : Nat) : Int) ≤ 281474976710656 := by rw [e4]; omega
    rwa [Int.natCast_mul] at h
  have hrun := run_make (P := P) s.w T e ti zv e1 e2 q2 k k' 0 n (Int.le_refl _) (by omega) hb3 (by omega)
  simp only [Int.toNat_natCast, Int.toNat_zero] at hrun
  have hrow := World.ownsRow_made (base := 0) (e := e) (size := ti.size) s.w (madeCells zv.cells (n * ti.size)) n (Nat.zero_le _) (by unfold maxLen; omega) (size_madeCells _ _)
  rw [e3] at hrow hrun
  refine dg_step (s' := ⟨s.β.set j (.slice (some ⟨s.w.heap.size, 0, none⟩) 0 n), s.I, s.M.set j (.arx e sz 0 []), _⟩) (v := .slice (some ⟨s.w.heap.size, 0, none⟩) 0 n) ?_ (tr_new hok hj' _ _ _ (by simp) (fun b hb => by cases hb; rfl) (fun b h => Below.heap_alloc _ _ _ h) (fun b hb => by cases hb; simp) (by simp) rfl rfl rfl ⟨[], hrow, rfl, fun p d v g1 g2 => by simp at g1⟩) rfl (.arr (by simp [hjl]))
  unfold execOp
  simp only [ho, h1, h2]
  exact run_v hrun
end
section
variable {P : Program} {s0 : St} {n : Cx}
end
section
variable {P : Program} {pc : Bool} {o : Oper} {F : Fr} {M : List Blk}
end
section
variable {P : Program} {s0 : St} {n : Cx}
/-- the variable that an operation just made joins a family -/
theorem walk_absl {ops : Array Oper} {l : List Oper} {F : Fr} {M M' : List Blk} {K : Cont} (t f : Nat) {j : Nat} {T : TypeId} {L : List Value} {Bs : List Mem} (ht : lk F t = some (.loc j 0)) (hj : M[j]? = some (.flat T L)) (hf : M[f]? = some (.fam Bs)) (hM' : (M.set j .gone).set f (.fam (Bs ++ [.flat T L])) = M') (h : Walk P s0 n ops l ((t, .floc f Bs.length 0) :: F) M' K) : Walk P s0 n ops l F M K := by
  subst hM'
  exact fun a w hi => h a w (inv_absl hi ht hj hf)
end
section
variable {P : Program} {pc : Bool} {o : Oper} {F : Fr} {M : List Blk}
end
theorem putsC_take {w h : Int} {ts : List TL} {l : List Dt} {k : Nat} (hk : k < l.length) : putsC w h ts (l.take (k + 1)) = putC w h (putsC w h ts (l.take k)) l[k] := by
  rw [List.take_succ_eq_append_getElem hk, putsC, List.foldl_append]; rfl
/-- what a canvas shows -/
abbrev shD (w h : Int) (ts : List TL) : D := .agg [.val (.int .i64 w), .val (.int .i64 h), .slf 256 ts.length (ts.flatMap tc)]
theorem rightB_ok {w h : Int} {ts : List TL} (e : rightB w h ts = true) : CvOk w h ts := by
  unfold rightB at e
  simp only [Bool.and_eq_true, decide_eq_true_eq] at e
  exact ⟨e.1, e.2⟩
set_option maxRecDepth 4000
theorem fo55_0 : fdO Try.prog 55 0 = some 0 := by kernel_rfl
theorem fo55_1 : fdO Try.prog 55 1 = some 1 := by kernel_rfl
theorem fo55_2 : fdO Try.prog 55 2 = some 2 := by kernel_rfl
theorem sl53 : slE Try.prog 53 = some (60, 256, 256) := by kernel_rfl
theorem tb53 : tyB Try.prog 53 = some (false, 1) := by kernel_rfl
set_option maxRecDepth 4000 in
set_option maxHeartbeats 1000000 in
theorem check_d (w h : Int) (ts : List TL) : DFun Try.prog 58 [shD w h ts] [] (.val (.int .i64 (errOr (rightB w h ts) 150))) [] := by
  refine dcalls_go (N := 23) 0 (by kernel_rfl) Try.func58 rfl rfl rfl (by simp only [fr0, Nat.zero_add, Nat.reduceAdd]; exact rfl) rfl fun s0 hs0 => ?_
  refine zaf ?_
  refine zai 1 (by simp only [holes, List.cons_append, List.nil_append]; exact rfl) ?_
  refine zad ?_
  refine zak rfl rfl rfl (op_boxam 0 rfl (ev1 rfl) rfl) (by simp only [upd, za, zaa]; exact rfl) ?_
  refine zab rfl rfl rfl (zac (.inr rfl) (ev1 rfl)) ?_
  refine zae ?_
  refine zaf ?_
  refine zaf ?_
  refine zai 1 (by simp only [holes, List.cons_append, List.nil_append]; exact rfl) ?_
  refine zad ?_
  refine zab rfl rfl rfl (op_fa rfl fo55_0 (ev1 rfl)) ?_
  refine zab rfl rfl rfl (op_ldm rfl tb3 (ev1 rfl) rfl rfl) ?_
  refine zab rfl rfl rfl (op_fa rfl fo55_1 (ev1 rfl)) ?_
  refine zab rfl rfl rfl (op_ldm rfl tb3 (ev1 rfl) rfl rfl) ?_
  refine zab rfl rfl rfl (op_build (ps := [(0, .tmp 5), (1, .tmp 7)]) rfl fl101 zr101 (vc (ev1 rfl) (vc (ev1 rfl) vn)) rfl rfl) ?_
  refine zak rfl rfl rfl (zal 1 rfl zr101 rfl) (by simp only [upd, za, zaa]; exact rfl) ?_
  refine walk_s rfl rfl (op_stwa rfl tb101 (ev1 rfl) (ev1 rfl) rfl rfl rfl rfl) (by simp only [upd, za, zaa]; exact rfl) ?_
  refine zae ?_
  refine zaf ?_
  refine zad ?_
  refine zab rfl rfl rfl (op_ldw rfl tb101 (ev1 rfl) rfl rfl) ?_
  refine zab rfl rfl rfl (zaj [] [] [] rfl (ev1 rfl) (ec (ev1 rfl) en) rfl rfl (smay_d _ _) rfl rfl rfl rfl rfl rfl) ?_
  refine zab rfl rfl rfl (op_not rfl (ev1 rfl)) ?_
  refine zab rfl rfl rfl (zac (.inl rfl) (ev1 rfl)) ?_
  refine zah (gd_f rfl rfl rfl) rfl rfl rfl (op_fa rfl fo55_2 (ev1 rfl)) ?_
  refine zah (gd_f rfl rfl rfl) rfl rfl rfl (op_ldm rfl tb53 (ev2 rfl) rfl rfl) ?_
  refine zah (gd_f rfl rfl rfl) rfl rfl rfl (op_len rfl sl53 (ev2 rfl)) ?_
  refine zah (gd_f rfl rfl rfl) rfl rfl rfl (op_fa rfl fo101_0 (ev1 rfl)) ?_
  refine zah (gd_f rfl rfl rfl) rfl rfl rfl (op_ldo rfl tb3 (ev2 rfl) rfl rfl) ?_
  refine zah (gd_f rfl rfl rfl) rfl rfl rfl (op_fa rfl fo101_1 (ev1 rfl)) ?_
  refine zah (gd_f rfl rfl rfl) rfl rfl rfl (op_ldo rfl tb3 (ev2 rfl) rfl rfl) ?_
  refine zah (gd_f rfl rfl rfl) rfl rfl rfl (op_mul rfl (ev2 rfl) (ev2 rfl)) ?_
  refine zah (gd_f rfl rfl rfl) rfl rfl rfl (op_neq rfl (ev2 rfl) (ev2 rfl)) ?_
  refine zab rfl rfl rfl (op_or rfl (ev1 rfl) (ev3 rfl id)) ?_
  refine zae ?_
  refine dwp_cond rfl (fun c1 => ?_) (fun c1 => ?_)
  · have hr : rightB w h ts = false := by
      cases hm : mayS w h with
      | false => unfold rightB; rw [hm]; rfl
      | true =>
        have hb := mul_in hm
        rw [hm, IntWalk.i64_in _ (by omega)] at c1
        simp at c1
        unfold rightB
        rw [decide_eq_false (by omega)]
        exact Bool.and_false _
    refine zaf ?_
    refine zad ?_
    refine zab rfl rfl rfl (zac (.inr rfl) (ev1 rfl)) ?_
    refine zae ?_
    refine dwp_ret ?_
    refine kend0 (rs1 rfl (rv_t rfl)) rfl ?_
    rw [hr]
    rfl
  · have hr : rightB w h ts = true := by
      cases hm : mayS w h with
      | false => rw [hm] at c1; simp at c1
      | true =>
        have hb := mul_in hm
        rw [hm, IntWalk.i64_in _ (by omega)] at c1
        simp at c1
        unfold rightB
        rw [hm, decide_eq_true (by omega)]
        rfl
    refine dwp_skip ?_
    refine zaf ?_
    refine zad ?_
    refine zab rfl rfl rfl (zac (.inr rfl) (ev1 rfl)) ?_
    refine zae ?_
    refine dwp_ret ?_
    refine kend0 (rs1 rfl (rv_t rfl)) rfl ?_
    rw [hr]
    rfl
set_option maxRecDepth 4000
theorem tb55 : tyB Try.prog 55 = some (true, 3) := by kernel_rfl
set_option maxRecDepth 4000 in
set_option maxHeartbeats 1000000 in
theorem of1_d (t : TL) : DFun Try.prog 60 [tD t] [] (.loc 0 0) [.flat 60 (tc t)] := by
  refine dcalls_go (N := 3) 0 (by kernel_rfl) Try.func60 rfl rfl rfl (by simp only [fr0, Nat.zero_add, Nat.reduceAdd]; exact rfl) rfl fun s0 hs0 => ?_
  refine zaf ?_
  refine zai 1 (by simp only [holes, List.cons_append, List.nil_append]; exact rfl) ?_
  refine zad ?_
  refine zak rfl rfl rfl (op_boxa 0 rfl (ev1 rfl) rfl) (by simp only [upd, za, zaa]; exact rfl) ?_
  refine zab rfl rfl rfl (zac (.inr rfl) (ev1 rfl)) ?_
  refine zae ?_
  refine zaf ?_
  refine zad ?_
  refine zab rfl rfl rfl (zac (.inr rfl) (ev1 rfl)) ?_
  refine zae ?_
  refine dwp_ret ?_
  refine kend [0] (rs1 rfl (rv_t rfl)) rfl rfl ?_ ⟨rfl, trivial⟩
  rfl
theorem ptN_fits {σ : List Nat} {V : Nat → Bool} {M : List Blk} {T : TypeId} {f g n : Nat} {l l' : List D} (hl : l = ptN f n) (hl' : l' = ptN g n) (hp : pos σ f = some g) : (vwL σ V M l).map (Blk.arx T 1 n) = some (Blk.arx T 1 n l') := by
  subst hl hl'
  have h : ∀ r : List Nat, vwL σ V M (r.map fun k => D.floc f k 0) = some (r.map fun k => D.floc g k 0) := fun r => by
    induction r with
    | nil => rfl
    | cons a r ih =>
      rw [List.map_cons, vwL, ih]
      have : vw σ V M (.floc f a 0) = some (.floc g a 0) := by unfold vw; rw [hp]
      rw [this]; rfl
  rw [h]; rfl
theorem sb_ptN {τ : List Nat} {T : TypeId} {f g n m : Nat} (hp : τ[f]? = some g) : sbB τ (.arx T 1 m (ptN f n)) = some (.arx T 1 m (ptN g n)) := by
  have h : ∀ r : List Nat, sbL τ (r.map fun k => D.floc f k 0) = some (r.map fun k => D.floc g k 0) := fun r => by
    induction r with
    | nil => rfl
    | cons a r ih =>
      rw [List.map_cons, sbL, ih]
      have : sb τ (.floc f a 0) = some (.floc g a 0) := by unfold sb; rw [hp]; rfl
      rw [this]; rfl
  show (sbL τ _).map _ = _
  rw [h]; rfl
theorem tlM_add {ts : List TL} {k : Nat} (h : k < ts.length) : tlM (ts.take k) ++ [.flat 60 (tc ts[k])] = tlM (ts.take (k + 1)) := by
  rw [List.take_succ_eq_append_getElem h, tlM, tlM, List.map_append]; rfl
theorem ptN_frz (f : Nat) (ad : Nat → Nat) (l : List TL) : (ptN f l.length).map (frz f ad (tlM l)) = pinsR ((List.range l.length).map ad) l := by
  apply List.ext_getElem?
  intro q
  unfold pinsR
  rw [List.getElem?_map, List.getElem?_map, List.getElem?_map]
  by_cases hq : q < l.length
  · have e2 : ((List.range l.length).map ad).zip l = (List.range l.length).zipWith (fun k t => (ad k, t)) l := by rw [List.zip, List.zipWith_map_left]
    rw [e2, List.getElem?_zipWith, List.getElem?_range hq, List.getElem?_eq_getElem hq]
    simp only [Option.map_some, frz, if_pos, List.getElem?_map, List.getElem?_eq_getElem hq]
  · rw [List.getElem?_eq_none (by simpa using hq), List.getElem?_eq_none (by simp; omega)]; rfl
set_option maxRecDepth 4000 in
set_option maxHeartbeats 1000000 in
theorem each1_d (ts : List TL) (hn : ts.length ≤ 5000) : DFun Try.prog 59 [.slf 256 ts.length (ts.flatMap tc), .fn (.func 60) [] []] [] (.arr 0) [.arx 104 1 ts.length (ptN 1 ts.length), .fam (tlM ts)] := by
  refine dcalls_go (N := 25) 0 (by kernel_rfl) Try.func59 rfl rfl rfl (by simp only [fr0, Nat.zero_add, Nat.reduceAdd]; exact rfl) rfl fun s0 hs0 => ?_
  refine dwp_len (t := 0) rfl fun hl0 hL0 => ?_
  refine zaf ?_
  refine zad ?_
  refine zab rfl rfl rfl (zac (.inr rfl) (ev1 rfl)) ?_
  refine zae ?_
  refine zaf ?_
  refine zai 1 (by simp only [holes, List.cons_append, List.nil_append]; exact rfl) ?_
  refine zad ?_
  refine zab rfl rfl rfl (zac (.inl rfl) (ev1 rfl)) ?_
  refine zab rfl rfl rfl (op_len rfl sl53 (ev1 rfl)) ?_
  refine zak rfl rfl rfl (op_mk0x 0 (ts.length) rfl sl102 zr104 (ev1 rfl) (ev1 rfl) (fun _ => rfl) (fun _ => by omega) rfl (fun _ => ⟨by omega, by omega⟩)) (by simp only [upd, za, zaa]; exact rfl) ?_
  refine zab rfl rfl rfl (zac (.inr rfl) (ev1 rfl)) ?_
  refine zae ?_
  refine zaf ?_
  refine zaf ?_
  refine dwp_hole ?_
  refine dwp_fam 1 rfl (by simp only [List.cons_append, List.nil_append, za, zaa]; exact rfl) ?_
  refine zad ?_
  refine zab rfl rfl rfl (zac (.inl rfl) (ev1 rfl)) ?_
  refine zab rfl rfl rfl (op_len rfl sl53 (ev1 rfl)) ?_
  refine zab rfl rfl rfl (zac (.inl rfl) (ev1 rfl)) ?_
  refine zae ?_
  refine dwp_block ?_
  refine dwp_loopS ⟨hs0, rfl⟩ (α := Nat) (fun k => [(13, .val (.int .i64 (k : Int)))]) [(1, _), (5, _), (11, _), (12, _)] (fun k => [(0, .arx 104 1 k (ptN 1 k)), (1, .fam (tlM (ts.take k)))]) [.hole, .hole] (fun k => k ≤ ts.length) (fun k => ts.length - k) 0 [0, 1] (Nat.zero_le _) rfl ⟨rfl, rfl, rfl, rfl, trivial⟩ ⟨rfl, trivial⟩ ⟨rfl, rfl, trivial⟩ ?_
  intro k hx
  simp only [upd, za, zaa, List.cons_append, List.nil_append]
  have hk := hx
  have htl : (tlM (ts.take k)).length = k := by simp; omega
  refine zaf ?_
  refine zad ?_
  refine zab rfl rfl rfl (op_lss rfl (ev1 rfl) (ev1 rfl)) ?_
  refine zae ?_
  refine zaf ?_
  refine dwp_cond rfl (fun c1 => ?_) (fun c1 => ?_)
  · try simp only [yg, ya, beq_iff_eq, bne_iff_ne, yb, yc, yf, ye, yh, yi, yd, ne_eq, yj, Int.not_lt, Int.not_le] at c1
    refine dwp_skip ?_
    refine zaf ?_
    refine dwp_block ?_
    refine zaf ?_
    refine zai 1 (by simp only [holes, List.cons_append, List.nil_append]; exact rfl) ?_
    refine zad ?_
    refine zab rfl rfl rfl (op_ixsr (j := k) rfl sl53 (ev1 rfl) (ev1 rfl) tc_len (by decide) (by omega) (by omega)) ?_
    refine zab rfl rfl rfl (op_ldwd rfl tb60 (ev1 rfl) (tc_len _)) ?_
    refine zak rfl rfl rfl (zal 2 rfl zr60 rfl) (by simp only [upd, za, zaa]; exact rfl) ?_
    refine walk_s rfl rfl (op_stwa rfl tb60 (ev1 rfl) (ev1 rfl) rfl (tc_len _) (tc_oc _) ((tc_len _).trans (tc_len _).symm)) (by simp only [upd, za, zaa]; exact rfl) ?_
    refine zae ?_
    refine zai 3 (by simp only [holes, List.cons_append, List.nil_append]; exact rfl) ?_
    refine zad ?_
    refine zab rfl rfl rfl (zac (.inl rfl) (ev1 rfl)) ?_
    refine zab rfl rfl rfl (zac (.inl rfl) (ev1 rfl)) ?_
    refine zab rfl rfl rfl (op_ldw rfl tb60 (ev1 rfl) rfl (tc_len _)) ?_
    refine zak rfl rfl rfl (zaj [] [] [3] rfl (ev1 rfl) (ec (ev1 rfl) en) rfl rfl (of1_d ts[k]) rfl rfl rfl rfl rfl rfl) (by simp only [upd, za, zaa]; exact rfl) ?_
    refine walk_absl 20 1 rfl rfl rfl (by simp only [za, zaa]; exact rfl) ?_
    refine zak rfl rfl rfl (op_bsx (ps := [(0, .tmp 20)]) 4 (fun s d v hd hr => by simp only [List.mem_cons, List.not_mem_nil, or_false] at hd; subst hd <;> first | exact rep_own_cells hr | (cases hr <;> rfl)) rfl sl102 zr104 rfl (ec (ev1 rfl) en) (by decide) rfl) (by simp only [upd, za, zaa]; exact rfl) ?_
    refine zak rfl rfl rfl (op_appxx (j := 5) rfl sl102 zr104 rfl (ev1 rfl) (ev1 rfl) rfl rfl rfl rfl (fun _ => ⟨by omega, by omega⟩)) (by simp only [upd, za, zaa]; exact rfl) ?_
    refine zab rfl rfl rfl (zac (.inr rfl) (ev1 rfl)) ?_
    refine zae ?_
    refine zad ?_
    refine zab rfl rfl rfl (op_add' rfl (ev1 rfl) (ev1 rfl) (fun _ => IntWalk.i64_in _ (by omega))) ?_
    refine zab rfl rfl rfl (zac (.inl rfl) (ev1 rfl)) ?_
    refine zae ?_
    refine ⟨k + 1, [5, 1], by omega, by simp only []; omega, rfl, ⟨rfl, rfl, rfl, rfl, rfl, trivial⟩, ⟨ptN_fits (by rw [htl]; exact ptN_add 1 k) rfl rfl, by rw [← tlM_add (by omega)]; rfl, trivial⟩⟩
  · try simp only [yg, ya, beq_iff_eq, bne_iff_ne, yb, yc, yf, ye, yh, yi, yd, ne_eq, yj, Int.not_lt, Int.not_le] at c1
    refine dwp_exit ?_
    refine zaf ?_
    refine zad ?_
    refine zab rfl rfl rfl (zac (.inl rfl) (ev1 rfl)) ?_
    refine zab rfl rfl rfl (zac (.inr rfl) (ev1 rfl)) ?_
    refine zae ?_
    refine dwp_ret ?_
    obtain rfl : k = ts.length := by omega
    refine kend [0, 1] (rs1 rfl (rv_t rfl)) rfl rfl ?_ ⟨?_, ?_, trivial⟩
    rfl
    exact ptN_fits rfl rfl rfl
    exact (by rw [List.take_length]; rfl)
set_option maxRecDepth 4000 in
set_option maxHeartbeats 1000000 in
theorem of_0 (w h : Int) (ts : List TL) (hr : rightB w h ts = false) : DFun Try.prog 30 [shD w h ts] [] (.tup [.val (.pointer none), .val (.int .i64 150)]) [] := by
  refine dcalls_go (N := 20) 0 (by kernel_rfl) Try.func30 rfl rfl rfl (by simp only [fr0, Nat.zero_add, Nat.reduceAdd]; exact rfl) rfl fun s0 hs0 => ?_
  refine zaf ?_
  refine zai 1 (by simp only [holes, List.cons_append, List.nil_append]; exact rfl) ?_
  refine zad ?_
  refine zak rfl rfl rfl (op_boxam 0 rfl (ev1 rfl) rfl) (by simp only [upd, za, zaa]; exact rfl) ?_
  refine zab rfl rfl rfl (zac (.inr rfl) (ev1 rfl)) ?_
  refine zab rfl rfl rfl (zac (.inr rfl) (ev1 rfl)) ?_
  refine zae ?_
  refine zaf ?_
  refine zaf ?_
  refine zad ?_
  refine zab rfl rfl rfl (op_ldmw rfl tb55 (ev1 rfl) rfl rfl) ?_
  refine zab rfl rfl rfl (zaj [] [] [] rfl (ev1 rfl) (ec (ev1 rfl) en) rfl rfl (check_d _ _ _) rfl rfl rfl rfl rfl rfl) ?_
  refine zab rfl rfl rfl (zac (.inr rfl) (ev1 rfl)) ?_
  refine zae ?_
  refine zaf ?_
  refine zad ?_
  refine zab rfl rfl rfl (zac (.inl rfl) (ev1 rfl)) ?_
  refine zab rfl rfl rfl (op_neq rfl (ev1 rfl) (ev1 rfl)) ?_
  refine zae ?_
  refine dwp_if_t rfl (by rw [hr]; rfl) ?_
  refine zaf ?_
  refine zad ?_
  refine zab rfl rfl rfl (zac (.inl rfl) (ev1 rfl)) ?_
  refine zab rfl rfl rfl (zac (.inr rfl) (ev1 rfl)) ?_
  refine zab rfl rfl rfl (zac (.inr rfl) (ev1 rfl)) ?_
  refine zae ?_
  refine dwp_ret ?_
  refine kend0 (rs2 rfl (rv_t rfl) (rv_t rfl)) rfl ?_
  rw [hr]; rfl
set_option maxRecDepth 4000 in
set_option maxHeartbeats 1000000 in
theorem of_i (w h : Int) (ts : List TL) (hc : CvOk w h ts) : DFunI Try.prog 30 [shD w h ts] [] (fun I => Okd (NewCv I w h ts)) [] := by
  have hr := hc.right
  have hle := hc.le
  refine dcallsI_go (N := 20) 0 (by kernel_rfl) Try.func30 rfl rfl rfl (by simp only [fr0, Nat.zero_add, Nat.reduceAdd]; exact rfl) rfl fun s0 hs0 => ?_
  refine zaf ?_
  refine zai 1 (by simp only [holes, List.cons_append, List.nil_append]; exact rfl) ?_
  refine zad ?_
  refine zak rfl rfl rfl (op_boxam 0 rfl (ev1 rfl) rfl) (by simp only [upd, za, zaa]; exact rfl) ?_
  refine zab rfl rfl rfl (zac (.inr rfl) (ev1 rfl)) ?_
  refine zab rfl rfl rfl (zac (.inr rfl) (ev1 rfl)) ?_
  refine zae ?_
  refine zaf ?_
  refine zaf ?_
  refine zad ?_
  refine zab rfl rfl rfl (op_ldmw rfl tb55 (ev1 rfl) rfl rfl) ?_
  refine zab rfl rfl rfl (zaj [] [] [] rfl (ev1 rfl) (ec (ev1 rfl) en) rfl rfl (check_d _ _ _) rfl rfl rfl rfl rfl rfl) ?_
  refine zab rfl rfl rfl (zac (.inr rfl) (ev1 rfl)) ?_
  refine zae ?_
  refine zaf ?_
  refine zad ?_
  refine zab rfl rfl rfl (zac (.inl rfl) (ev1 rfl)) ?_
  refine zab rfl rfl rfl (op_neq rfl (ev1 rfl) (ev1 rfl)) ?_
  refine zae ?_
  refine dwp_if_f rfl (by rw [hr]; rfl) ?_
  refine dwp_skip ?_
  refine zaf ?_
  refine zai 3 (by simp only [holes, List.cons_append, List.nil_append]; exact rfl) ?_
  refine dwp_draw [([], []), ([0], []), ([], []), ([0], []), ([], []), ([], []), ([0], []), ([1, 2], [1, 2]), ([], []), ([3], [3]), ([], []), ([], [])] mixed (by kernel_rfl) ?_
  refine zag rfl rfl (op_fa rfl fo55_0 (ev1 rfl)) ?_
  refine zag rfl rfl (op_ldm rfl tb3 (ev1 rfl) rfl rfl) ?_
  refine zag rfl rfl (op_fa rfl fo55_1 (ev1 rfl)) ?_
  refine zag rfl rfl (op_ldm rfl tb3 (ev1 rfl) rfl rfl) ?_
  refine zag rfl rfl (op_build (ps := [(0, .tmp 11), (1, .tmp 13)]) rfl fl101 zr101 (vc (ev1 rfl) (vc (ev1 rfl) vn)) rfl rfl) ?_
  refine zag rfl rfl (op_fa rfl fo55_2 (ev1 rfl)) ?_
  refine zag rfl rfl (op_ldm rfl tb53 (ev1 rfl) rfl rfl) ?_
  refine lex_w rfl rfl (zaj [] [] [1, 2] rfl (ev1 rfl) (ec (ev1 rfl) (ec (ev1 rfl) en)) rfl rfl (each1_d ts (by omega)) rfl rfl rfl (by exact (wrc (sb_ptN rfl) (wrc rfl rfl))) rfl rfl) rfl (by simp only [upd, za, zaa]; exact rfl) ?_
  refine zag rfl rfl (op_bldD (ps := [(0, .tmp 14), (1, .tmp 17)]) rfl fl107 zr107 (ec (ev1 rfl) (ec (ev1 rfl) en)) rfl rfl rfl) ?_
  refine lex_w rfl rfl (op_boxam 3 rfl (ev1 rfl) rfl) rfl (by simp only [upd, za, zaa]; exact rfl) ?_
  refine zag rfl rfl (zac (.inr rfl) (ev1 rfl)) ?_
  refine zag rfl rfl (zac (.inr rfl) (ev1 rfl)) ?_
  refine lex_nil ?_
  refine dwp_frz 2 1 rfl rfl (tlM_flat) fun ad had => ?_
  simp only [za, zaa]
  refine dwp_givem 3 2 ((by rw [ptN_frz]; exact (pinsR_ok (by simp)).nl)) rfl rfl rfl (by simp only [za, zaa]; exact rfl) ?_
  refine dwp_ret ?_
  refine kendI (post := fun I => Okd (NewCv I w h ts)) (I := s0.I) (Mo := []) [] (rs2 rfl (rv_t rfl) (rv_t rfl)) rfl rfl ?_ trivial
  rw [ptN_frz]
  exact ⟨_, ⟨(List.range ts.length).map ad, by simp, fun b hb => by
      obtain ⟨k, hk, rfl⟩ := List.mem_map.1 hb
      exact had k (by simpa using hk), rfl⟩, by rw [cvD, pinsR_len (by simp)]; rfl⟩
set_option maxRecDepth 4000
theorem tb4 : tyB Try.prog 4 = some (false, 1) := by kernel_rfl
theorem zr4 : zrC Try.prog 4 = some [.bool false] := by kernel_rfl
def rowEq (w : Int) (ts us : List TL) (y n : Nat) : Bool := (List.range n).all fun (x : Nat) => decide (getC w ts (x : Int) (y : Int) = getC w us (x : Int) (y : Int))
def allEq (w : Int) (ts us : List TL) (W n : Nat) : Bool := (List.range n).all fun (y : Nat) => rowEq w ts us y W
def sameF (w h : Int) (ts us : List TL) : Bool := allEq w ts us (w * 8).toNat (h * 8).toNat
theorem rowEq_succ (w : Int) (ts us : List TL) (y n : Nat) : rowEq w ts us y (n + 1) = (rowEq w ts us y n && decide (getC w ts (n : Int) (y : Int) = getC w us (n : Int) (y : Int))) := by
  unfold rowEq
  rw [List.range_succ, List.all_append]
  simp
theorem allEq_succ (w : Int) (ts us : List TL) (W n : Nat) : allEq w ts us W (n + 1) = (allEq w ts us W n && rowEq w ts us n W) := by
  unfold allEq
  rw [List.range_succ, List.all_append]
  simp
theorem sameF_no {w h : Int} {ts us : List TL} {x y : Nat} (hx : x < (w * 8).toNat) (hy : y < (h * 8).toNat) (hne : getC w ts (x : Int) (y : Int) ≠ getC w us (x : Int) (y : Int)) : sameF w h ts us = false := by
  rw [← Bool.not_eq_true]
  intro h1
  have h2 := List.all_eq_true.1 h1 y (List.mem_range.2 hy)
  have h3 := List.all_eq_true.1 h2 x (List.mem_range.2 hx)
  exact hne (by simpa using h3)
theorem pl_back {w : Int} {p q : Nat} (hw : 1 ≤ w) (hq : q < 64) : plN w ((p : Int) % w * 8 + (q : Int) % 8) ((p : Int) / w * 8 + (q : Int) / 8) = p ∧ pxN ((p : Int) % w * 8 + (q : Int) % 8) ((p : Int) / w * 8 + (q : Int) / 8) = q := by
  have h1 := Int.emod_nonneg (p : Int) (show w ≠ 0 by omega)
  have h2 : (0 : Int) ≤ (p : Int) / w := Int.ediv_nonneg (by omega) (by omega)
  have e := Int.mul_ediv_add_emod (p : Int) w
  unfold plN pxN
  generalize (p : Int) % w = r at h1 e ⊢
  generalize (p : Int) / w = d at h2 e ⊢
  have e1 : (d * 8 + (q : Int) / 8) / 8 = d := by omega
  have e2 : (r * 8 + (q : Int) % 8) / 8 = r := by omega
  have e3 : (d * 8 + (q : Int) / 8) % 8 = (q : Int) / 8 := by omega
  have e4 : (r * 8 + (q : Int) % 8) % 8 = (q : Int) % 8 := by omega
  rw [e1, e2, e3, e4, Int.mul_comm d w]
  omega
theorem on_back {w h : Int} {p q : Nat} (hm : mayS w h = true) (hp : (p : Int) < w * h) (hq : q < 64) : onS w h ((p : Int) % w * 8 + (q : Int) % 8) ((p : Int) / w * 8 + (q : Int) / 8) = true := by
  have hb := mayS_b hm
  have h1 := Int.emod_nonneg (p : Int) (show w ≠ 0 by omega)
  have h3 := Int.emod_lt_of_pos (p : Int) (show 0 < w by omega)
  have h2 : (0 : Int) ≤ (p : Int) / w := Int.ediv_nonneg (by omega) (by omega)
  have h4 : (p : Int) / w < h := Int.ediv_lt_of_lt_mul (by omega) (by rw [Int.mul_comm h w]; exact hp)
  exact onS_iff.2 ⟨by omega, by omega⟩
theorem sameF_iff {w h : Int} {ts us : List TL} (hc : CvOk w h ts) (hd : CvOk w h us) : sameF w h ts us = decide (ts = us) := by
  rw [Bool.eq_iff_iff]
  have hb := mayS_b hc.may
  have l1 := hc.len
  have l2 := hd.len
  constructor
  · intro h1
    rw [decide_eq_true_eq]
    apply List.ext_getElem (by omega)
    intro p hp hp2
    apply TL.ext
    apply List.ext_getElem (by rw [TL.h, TL.h])
    intro q hq hq2
    rw [TL.h] at hq
    have ho := on_back (p := p) (q := q) hc.may (by omega) hq
    obtain ⟨e1, e2⟩ := pl_back (w := w) (p := p) (q := q) (by omega) hq
    have hxy := onS_iff.1 ho
    generalize hX : (p : Int) % w * 8 + (q : Int) % 8 = X at ho e1 e2 hxy
    generalize hY : (p : Int) / w * 8 + (q : Int) / 8 = Y at ho e1 e2 hxy
    have h2 := List.all_eq_true.1 h1 Y.toNat (List.mem_range.2 (by omega))
    have h3 := List.all_eq_true.1 h2 X.toNat (List.mem_range.2 (by omega))
    rw [decide_eq_true_eq, show ((X.toNat : Nat) : Int) = X by omega, show ((Y.toNat : Nat) : Int) = Y by omega] at h3
    unfold getC at h3
    rw [e1, e2, tl_at hp, tl_at hp2] at h3
    unfold TL.get at h3
    rw [List.getD_eq_getElem?_getD, List.getD_eq_getElem?_getD, List.getElem?_eq_getElem (by rw [TL.h]; exact hq), List.getElem?_eq_getElem (by rw [TL.h]; exact hq)] at h3
    exact h3
  · intro h1
    have h1 : ts = us := by simpa using h1
    subst h1
    exact List.all_eq_true.2 fun y _ => List.all_eq_true.2 fun x _ => by simp
noncomputable def samA : Code := rfA (pth [1, 0, 1, 1, 1, 1, 0, 1, 0] (bodyOf Try.f37))
noncomputable def samB : Code := rfB (pth [1, 0, 1, 1, 1, 1, 0, 1, 0] (bodyOf Try.f37))
set_option maxRecDepth 4000 in
set_option maxHeartbeats 1000000 in
theorem samRound_true (w h : Int) (da db : List D) (ts us : List TL) (ra : RowOk da ts) (rb : RowOk db us) (ca : CvOk w h ts) (cb : CvOk w h us) (x y : Int) (ho : onS w h x y = true) (b : Bool) (h1 : getC w ts x y = getC w us x y) : DRound Try.prog 0 [.val (.agg #[.int .i64 x, .int .i64 y])] [.lp 42 [(2, .loc 1 0), (3, .loc 2 0), (5, .loc 3 0)] #[33] samA samB .ready none, .mix 62 [cvD w h da], .mix 62 [cvD w h db], .flat 4 [.bool b]] true [.lp 42 [(2, .loc 1 0), (3, .loc 2 0), (5, .loc 3 0)] #[33] samA samB .ready none, .mix 62 [cvD w h da], .mix 62 [cvD w h db], .flat 4 [.bool b]] := by
  refine dround_go 4 rfl rfl (by simp) rfl rfl fun s0 hs0 => ?_
  refine zai 1 (by simp only [holes, List.cons_append, List.nil_append]; exact rfl) ?_
  refine zad ?_
  refine zak rfl rfl rfl (zal 4 rfl zr36 rfl) (by simp only [upd, za, zaa]; exact rfl) ?_
  refine walk_s rfl rfl (op_stwa rfl tb36 (ev1 rfl) (ev1 rfl) rfl rfl rfl rfl) (by simp only [upd, za, zaa]; exact rfl) ?_
  refine zae ?_
  refine ⟨rfl, ?_⟩
  simp only [za, zaa]
  refine dwp_block ?_
  refine zaf ?_
  refine dwp_draw [([1], []), ([4], []), ([], []), ([2], []), ([4], []), ([], []), ([], [])] mixed (by kernel_rfl) ?_
  refine zag rfl rfl (op_ldm rfl tb62 (ev1 rfl) rfl rfl) ?_
  refine zag rfl rfl (op_ldw rfl tb36 (ev1 rfl) rfl rfl) ?_
  refine zag rfl rfl (zaj [] [] [] rfl (ev1 rfl) (ec (ev1 rfl) (ec (ev1 rfl) en)) rfl rfl (color_d w h da ts ra ca x y ho) rfl rfl rfl rfl rfl rfl) ?_
  refine zag rfl rfl (op_ldm rfl tb62 (ev1 rfl) rfl rfl) ?_
  refine zag rfl rfl (op_ldw rfl tb36 (ev1 rfl) rfl rfl) ?_
  refine zag rfl rfl (zaj [] [] [] rfl (ev1 rfl) (ec (ev1 rfl) (ec (ev1 rfl) en)) rfl rfl (color_d w h db us rb cb x y ho) rfl rfl rfl rfl rfl rfl) ?_
  refine zag rfl rfl (op_ner eq38 rfl gd38 tb38 (ev1 rfl) (ev1 rfl)) ?_
  refine lex_nil ?_
  refine dwp_if_f rfl (by simpa using h1) ?_
  refine dwp_skip ?_
  refine ⟨by first | rfl | assumption | simp_all, rfl, [0, 1, 2, 3], rfl, ⟨rfl, rfl, rfl, rfl, trivial⟩⟩
set_option maxRecDepth 4000 in
set_option maxHeartbeats 1000000 in
theorem samRound_false (w h : Int) (da db : List D) (ts us : List TL) (ra : RowOk da ts) (rb : RowOk db us) (ca : CvOk w h ts) (cb : CvOk w h us) (x y : Int) (ho : onS w h x y = true) (b : Bool) (h1 : getC w ts x y ≠ getC w us x y) : DRound Try.prog 0 [.val (.agg #[.int .i64 x, .int .i64 y])] [.lp 42 [(2, .loc 1 0), (3, .loc 2 0), (5, .loc 3 0)] #[33] samA samB .ready none, .mix 62 [cvD w h da], .mix 62 [cvD w h db], .flat 4 [.bool b]] false [.lp 42 [(2, .loc 1 0), (3, .loc 2 0), (5, .loc 3 0)] #[33] samA samB .done (some (.exit 0)), .mix 62 [cvD w h da], .mix 62 [cvD w h db], .flat 4 [.bool false]] := by
  refine dround_go 4 rfl rfl (by simp) rfl rfl fun s0 hs0 => ?_
  refine zai 1 (by simp only [holes, List.cons_append, List.nil_append]; exact rfl) ?_
  refine zad ?_
  refine zak rfl rfl rfl (zal 4 rfl zr36 rfl) (by simp only [upd, za, zaa]; exact rfl) ?_
  refine walk_s rfl rfl (op_stwa rfl tb36 (ev1 rfl) (ev1 rfl) rfl rfl rfl rfl) (by simp only [upd, za, zaa]; exact rfl) ?_
  refine zae ?_
  refine ⟨rfl, ?_⟩
  simp only [za, zaa]
  refine dwp_block ?_
  refine zaf ?_
  refine dwp_draw [([1], []), ([4], []), ([], []), ([2], []), ([4], []), ([], []), ([], [])] mixed (by kernel_rfl) ?_
  refine zag rfl rfl (op_ldm rfl tb62 (ev1 rfl) rfl rfl) ?_
  refine zag rfl rfl (op_ldw rfl tb36 (ev1 rfl) rfl rfl) ?_
  refine zag rfl rfl (zaj [] [] [] rfl (ev1 rfl) (ec (ev1 rfl) (ec (ev1 rfl) en)) rfl rfl (color_d w h da ts ra ca x y ho) rfl rfl rfl rfl rfl rfl) ?_
  refine zag rfl rfl (op_ldm rfl tb62 (ev1 rfl) rfl rfl) ?_
  refine zag rfl rfl (op_ldw rfl tb36 (ev1 rfl) rfl rfl) ?_
  refine zag rfl rfl (zaj [] [] [] rfl (ev1 rfl) (ec (ev1 rfl) (ec (ev1 rfl) en)) rfl rfl (color_d w h db us rb cb x y ho) rfl rfl rfl rfl rfl rfl) ?_
  refine zag rfl rfl (op_ner eq38 rfl gd38 tb38 (ev1 rfl) (ev1 rfl)) ?_
  refine lex_nil ?_
  refine dwp_if_t rfl (by simpa using h1) ?_
  refine zaf ?_
  refine zad ?_
  refine walk_s rfl rfl (op_stwb rfl tb4 (ev1 rfl) (ev1 rfl) rfl) (by simp only [upd, za, zaa]; exact rfl) ?_
  refine zae ?_
  refine dwp_exit ?_
  refine ⟨by first | rfl | assumption | simp_all, rfl, [0, 1, 2, 3], rfl, ⟨rfl, rfl, rfl, rfl, trivial⟩⟩
theorem samRound (w h : Int) (da db : List D) (ts us : List TL) (ra : RowOk da ts) (rb : RowOk db us) (ca : CvOk w h ts) (cb : CvOk w h us) (x y : Int) (ho : onS w h x y = true) (b : Bool) : DRound Try.prog 0 [.val (.agg #[.int .i64 x, .int .i64 y])] [.lp 42 [(2, .loc 1 0), (3, .loc 2 0), (5, .loc 3 0)] #[33] samA samB .ready none, .mix 62 [cvD w h da], .mix 62 [cvD w h db], .flat 4 [.bool b]] (decide (getC w ts x y = getC w us x y)) [.lp 42 [(2, .loc 1 0), (3, .loc 2 0), (5, .loc 3 0)] #[33] samA samB (rst (decide (getC w ts x y = getC w us x y))) (rpe (.exit 0) (decide (getC w ts x y = getC w us x y))), .mix 62 [cvD w h da], .mix 62 [cvD w h db], .flat 4 [.bool (b && decide (getC w ts x y = getC w us x y))]] := by
  by_cases h1 : getC w ts x y = getC w us x y
  · rw [decide_eq_true h1, Bool.and_true]
    exact samRound_true w h da db ts us ra rb ca cb x y ho b h1
  · rw [decide_eq_false h1, Bool.and_false]
    exact samRound_false w h da db ts us ra rb ca cb x y ho b h1
set_option maxRecDepth 4000 in
set_option maxHeartbeats 1000000 in
theorem pts_same (w h : Int) (da db : List D) (ts us : List TL) (ra : RowOk da ts) (rb : RowOk db us) (ca : CvOk w h ts) (cb : CvOk w h us) (b : Bool) : DFun Try.prog 85 [.yld 0, .loc 4 0, .loc 5 0] [.lp 42 [(2, .loc 1 0), (3, .loc 2 0), (5, .loc 3 0)] #[33] samA samB .ready none, .mix 62 [cvD w h da], .mix 62 [cvD w h db], .flat 4 [.bool b], .flat 3 [.int .i64 (h * 8)], .flat 3 [.int .i64 (w * 8)]] (.tup []) [.lp 42 [(2, .loc 1 0), (3, .loc 2 0), (5, .loc 3 0)] #[33] samA samB (rst (sameF w h ts us)) (rpe (.exit 0) (sameF w h ts us)), .mix 62 [cvD w h da], .mix 62 [cvD w h db], .flat 4 [.bool (b && (sameF w h ts us))], .flat 3 [.int .i64 (h * 8)], .flat 3 [.int .i64 (w * 8)]] := by
  have hb := mayS_b ca.may
  refine dcalls_go (N := 22) 6 (by kernel_rfl) Try.func85 rfl rfl rfl (by simp only [fr0, Nat.zero_add, Nat.reduceAdd]; exact rfl) rfl fun s0 hs0 => ?_
  refine zaf ?_
  refine zad ?_
  refine zab rfl rfl rfl (op_ldo rfl tb3 (ev1 rfl) rfl rfl) ?_
  refine zab rfl rfl rfl (zac (.inl rfl) (ev1 rfl)) ?_
  refine zae ?_
  refine dwp_block ?_
  refine dwp_loopS ⟨hs0, rfl⟩ (α := Nat) (fun y => [(7, .val (.int .i64 (y : Int)))]) [(0, _), (2, _), (6, _)] (fun y => []) [_, _, _, _, _, _] (fun y => (y : Int) ≤ h * 8 ∧ allEq w ts us (w * 8).toNat y = true) (fun y => (h * 8).toNat - y) 0 [0, 1, 2, 3, 4, 5] (⟨by omega, rfl⟩) rfl ⟨rfl, rfl, rfl, trivial⟩ ⟨rfl, trivial⟩ ⟨rfl, rfl, rfl, rfl, rfl, rfl, trivial⟩ ?_
  intro y hx
  simp only [upd, za, zaa, List.cons_append, List.nil_append]
  obtain ⟨hy, hey⟩ := hx
  refine zaf ?_
  refine zad ?_
  refine zab rfl rfl rfl (op_lss rfl (ev1 rfl) (ev1 rfl)) ?_
  refine zae ?_
  refine zaf ?_
  refine dwp_cond rfl (fun c1 => ?_) (fun c1 => ?_)
  · try simp only [yg, ya, beq_iff_eq, bne_iff_ne, yb, yc, yf, ye, yh, yi, yd, ne_eq, yj, Int.not_lt, Int.not_le] at c1
    refine dwp_skip ?_
    refine zaf ?_
    refine dwp_block ?_
    refine zaf ?_
    refine zad ?_
    refine zab rfl rfl rfl (zac (.inl rfl) (ev1 rfl)) ?_
    refine zab rfl rfl rfl (zac (.inr rfl) (ev1 rfl)) ?_
    refine zae ?_
    refine zaf ?_
    refine zad ?_
    refine zab rfl rfl rfl (op_ldo rfl tb3 (ev1 rfl) rfl rfl) ?_
    refine zab rfl rfl rfl (zac (.inl rfl) (ev1 rfl)) ?_
    refine zae ?_
    refine dwp_block ?_
    refine dwp_loopS ⟨hs0, rfl⟩ (α := Nat) (fun x => [(11, .val (.int .i64 (x : Int)))]) [(0, _), (2, _), (4, _), (6, _), (7, _), (10, _)] (fun x => []) [_, _, _, _, _, _] (fun x => (x : Int) ≤ w * 8 ∧ rowEq w ts us y x = true) (fun x => (w * 8).toNat - x) 0 [0, 1, 2, 3, 4, 5] (⟨by omega, rfl⟩) rfl ⟨rfl, rfl, rfl, rfl, rfl, rfl, trivial⟩ ⟨rfl, trivial⟩ ⟨rfl, rfl, rfl, rfl, rfl, rfl, trivial⟩ ?_
    intro x hx
    simp only [upd, za, zaa, List.cons_append, List.nil_append]
    obtain ⟨hx2, hex⟩ := hx
    refine zaf ?_
    refine zad ?_
    refine zab rfl rfl rfl (op_lss rfl (ev1 rfl) (ev1 rfl)) ?_
    refine zae ?_
    refine zaf ?_
    refine dwp_cond rfl (fun c2 => ?_) (fun c2 => ?_)
    · try simp only [yg, ya, beq_iff_eq, bne_iff_ne, yb, yc, yf, ye, yh, yi, yd, ne_eq, yj, Int.not_lt, Int.not_le] at c2
      refine dwp_skip ?_
      refine zaf ?_
      refine dwp_block ?_
      refine zaf ?_
      refine zad ?_
      refine zab rfl rfl rfl (zac (.inl rfl) (ev1 rfl)) ?_
      refine zab rfl rfl rfl (zac (.inr rfl) (ev1 rfl)) ?_
      refine zae ?_
      refine zaf ?_
      have ho : onS w h (x : Int) (y : Int) = true := onS_iff.2 ⟨by omega, by omega⟩
      refine zad ?_
      refine zab rfl rfl rfl (zac (.inl rfl) (ev1 rfl)) ?_
      refine zab rfl rfl rfl (zac (.inl rfl) (ev1 rfl)) ?_
      refine zab rfl rfl rfl (zac (.inl rfl) (ev1 rfl)) ?_
      refine zab rfl rfl rfl (op_build (ps := [(0, .tmp 15), (1, .tmp 16)]) rfl fl36 zr36 (vc (ev1 rfl) (vc (ev1 rfl) vn)) rfl rfl) ?_
      refine zak rfl rfl rfl (op_y (i := 0) [0, 1, 2, 3] [] [] rfl (ev1 rfl) (ec (ev1 rfl) en) rfl rfl rfl (samRound w h da db ts us ra rb ca cb x y ho b) rfl rfl rfl rfl rfl) (by simp only [upd, za, zaa]; exact rfl) ?_
      refine zab rfl rfl rfl (op_not rfl (ev1 rfl)) ?_
      refine zae ?_
      refine dwp_cond rfl (fun c3 => ?_) (fun c3 => ?_)
      · have e1 : decide (getC w ts (x : Int) (y : Int) = getC w us (x : Int) (y : Int)) = false := by simpa using c3
        refine dwp_ret ?_
        have e2 : sameF w h ts us = false := sameF_no (x := x) (y := y) (by omega) (by omega) (by simpa using e1)
        rw [e2, e1]
        refine kend [0, 1, 2, 3, 4, 5] (res_none rfl) rfl rfl ?_ ⟨rfl, rfl, rfl, rfl, rfl, rfl, trivial⟩
        rfl
      · have e1 : decide (getC w ts (x : Int) (y : Int) = getC w us (x : Int) (y : Int)) = true := by simpa using c3
        refine dwp_skip ?_
        refine zad ?_
        refine zab rfl rfl rfl (op_add' rfl (ev1 rfl) (ev1 rfl) (fun _ => IntWalk.i64_in _ (by omega))) ?_
        refine zab rfl rfl rfl (zac (.inl rfl) (ev1 rfl)) ?_
        refine zae ?_
        rw [e1, Bool.and_true]
        refine ⟨x + 1, [0, 1, 2, 3, 4, 5], ⟨by omega, by rw [rowEq_succ, hex, e1]; rfl⟩, by simp only []; omega, rfl, ⟨rfl, rfl, rfl, rfl, rfl, rfl, rfl, trivial⟩, ⟨rfl, rfl, rfl, rfl, rfl, rfl, trivial⟩⟩
    · try simp only [yg, ya, beq_iff_eq, bne_iff_ne, yb, yc, yf, ye, yh, yi, yd, ne_eq, yj, Int.not_lt, Int.not_le] at c2
      refine dwp_exit ?_
      refine zad ?_
      refine zab rfl rfl rfl (op_add' rfl (ev1 rfl) (ev1 rfl) (fun _ => IntWalk.i64_in _ (by omega))) ?_
      refine zab rfl rfl rfl (zac (.inl rfl) (ev1 rfl)) ?_
      refine zae ?_
      obtain rfl : x = (w * 8).toNat := by omega
      refine ⟨y + 1, [0, 1, 2, 3, 4, 5], ⟨by omega, by rw [allEq_succ, hey, hex]; rfl⟩, by simp only []; omega, rfl, ⟨rfl, rfl, rfl, rfl, trivial⟩, ⟨rfl, rfl, rfl, rfl, rfl, rfl, trivial⟩⟩
  · try simp only [yg, ya, beq_iff_eq, bne_iff_ne, yb, yc, yf, ye, yh, yi, yd, ne_eq, yj, Int.not_lt, Int.not_le] at c1
    refine dwp_exit ?_
    have e2 : sameF w h ts us = true := by rw [sameF, show (h * 8).toNat = y by omega]; exact hey
    rw [e2, Bool.and_true]
    refine kend [0, 1, 2, 3, 4, 5] (res_none rfl) rfl rfl ?_ ⟨rfl, rfl, rfl, rfl, rfl, rfl, trivial⟩
    rfl
set_option maxRecDepth 4000 in
set_option maxHeartbeats 1000000 in
theorem same_cv (w h : Int) (da db : List D) (ts us : List TL) (ra : RowOk da ts) (rb : RowOk db us) (ca : CvOk w h ts) (cb : CvOk w h us)  : DFun Try.prog 37 [cvD w h da, cvD w h db] [] (.val (.bool (decide (ts = us)))) [] := by
  refine dcalls_go (N := 42) 0 (by kernel_rfl) Try.func37 rfl rfl rfl (by simp only [fr0, Nat.zero_add, Nat.reduceAdd]; exact rfl) rfl fun s0 hs0 => ?_
  refine zaf ?_
  refine zai 2 (by simp only [holes, List.cons_append, List.nil_append]; exact rfl) ?_
  refine zad ?_
  refine zak rfl rfl rfl (op_boxm 0 rfl (ev1 rfl) (fun s v h => by cases h <;> rfl) rfl) (by simp only [upd, za, zaa]; exact rfl) ?_
  refine zak rfl rfl rfl (op_boxm 1 rfl (ev1 rfl) (fun s v h => by cases h <;> rfl) rfl) (by simp only [upd, za, zaa]; exact rfl) ?_
  refine zab rfl rfl rfl (zac (.inr rfl) (ev1 rfl)) ?_
  refine zae ?_
  refine dwp_scope ?_
  refine zaf ?_
  refine zaf ?_
  refine zad ?_
  refine zab rfl rfl rfl (op_ldm rfl tb62 (ev1 rfl) rfl rfl) ?_
  refine zab rfl rfl rfl (op_pnilm rfl pt62 (ev1 rfl)) ?_
  refine zab rfl rfl rfl (zac (.inl rfl) (ev1 rfl)) ?_
  refine zah (gd_f rfl rfl rfl) rfl rfl rfl (op_ldm rfl tb62 (ev1 rfl) rfl rfl) ?_
  refine zah (gd_f rfl rfl rfl) rfl rfl rfl (op_pnilm rfl pt62 (ev2 rfl)) ?_
  refine zab rfl rfl rfl (op_or rfl (ev1 rfl) (ev3 rfl id)) ?_
  refine zae ?_
  refine dwp_if_f rfl (by simp) ?_
  refine dwp_skip ?_
  refine zaf ?_
  refine zaf ?_
  refine dwp_draw [([0], []), ([], []), ([], []), ([], []), ([1], []), ([], []), ([], []), ([], []), ([], [])] mixed (by kernel_rfl) ?_
  refine zag rfl rfl (op_ldm rfl tb62 (ev1 rfl) rfl rfl) ?_
  refine zag rfl rfl (op_nc rfl (ev1 rfl) (fun s v h => by cases h; exact ⟨_, rfl⟩)) ?_
  refine zag rfl rfl (op_fadm rfl fo107_0 (ev1 rfl)) ?_
  refine zag rfl rfl (op_lddv [_, _] rfl tb101 (ev1 rfl) rfl rfl) ?_
  refine zag rfl rfl (op_ldm rfl tb62 (ev1 rfl) rfl rfl) ?_
  refine zag rfl rfl (op_nc rfl (ev1 rfl) (fun s v h => by cases h; exact ⟨_, rfl⟩)) ?_
  refine zag rfl rfl (op_fadm rfl fo107_0 (ev1 rfl)) ?_
  refine zag rfl rfl (op_lddv [_, _] rfl tb101 (ev1 rfl) rfl rfl) ?_
  refine zag rfl rfl (op_ner eq101 rfl gd101 tb101 (ev1 rfl) (ev1 rfl)) ?_
  refine lex_nil ?_
  refine dwp_if_f rfl (by simp) ?_
  refine dwp_skip ?_
  refine zaf ?_
  refine zai 1 (by simp only [holes, List.cons_append, List.nil_append]; exact rfl) ?_
  refine zad ?_
  refine zak rfl rfl rfl (zal 2 rfl zr4 rfl) (by simp only [upd, za, zaa]; exact rfl) ?_
  refine walk_s rfl rfl (op_stwb rfl tb4 (ev1 rfl) (ev1 rfl) rfl) (by simp only [upd, za, zaa]; exact rfl) ?_
  refine zae ?_
  refine zaf ?_
  refine dwp_label ?_
  refine zaf ?_
  refine zaf ?_
  refine zai 2 (by simp only [holes, List.cons_append, List.nil_append]; exact rfl) ?_
  refine zad ?_
  refine zab rfl rfl rfl (op_ldm rfl tb62 (ev1 rfl) rfl rfl) ?_
  refine zab rfl rfl rfl (op_nc rfl (ev1 rfl) (fun s v h => by cases h; exact ⟨_, rfl⟩)) ?_
  refine zab rfl rfl rfl (op_fadm rfl fo107_0 (ev1 rfl)) ?_
  refine zab rfl rfl rfl (op_lddv [_, _] rfl tb101 (ev1 rfl) rfl rfl) ?_
  refine zak rfl rfl rfl (zaj [] [] [3, 4] rfl (ev1 rfl) (ec (ev1 rfl) en) rfl rfl (points_d w h ca.may) rfl rfl rfl rfl rfl rfl) (by simp only [upd, za, zaa]; exact rfl) ?_
  refine zae ?_
  refine dwp_block ?_
  refine dwp_hole ?_
  simp only [List.cons_append, List.nil_append]
  refine dwp_rf (FL := [(2, _), (3, _), (5, _)]) (st := (rst (sameF w h ts us))) (pe := (rpe (.exit 0) (sameF w h ts us))) [5, 0, 1, 2, 3, 4] [] [] 5 rfl rfl (ev1 rfl) rfl (subF_lk ⟨rfl, rfl, rfl, trivial⟩) rfl rfl rfl (pts_same w h da db ts us ra rb ca cb _) rfl rfl rfl rfl rfl rfl rfl (rst_busy _) (fun e => ?_) (fun c e => ?_)
  · simp only [upd, za, zaa]
    refine zaf ?_
    refine zad ?_
    refine zab rfl rfl rfl (op_ldo rfl tb4 (ev1 rfl) rfl rfl) ?_
    refine zab rfl rfl rfl (zac (.inr rfl) (ev1 rfl)) ?_
    refine zae ?_
    refine dwp_ret ?_
    refine kend0 (rs1 rfl (rv_t rfl)) rfl ?_
    rw [← sameF_iff ca cb]
    rfl
  · obtain ⟨e1, rfl⟩ : sameF w h ts us = false ∧ c = .exit 0 := by
      cases h : sameF w h ts us <;> simp_all [rpe]
    simp only [upd, za, zaa]
    refine dwp_exit ?_
    refine zaf ?_
    refine zad ?_
    refine zab rfl rfl rfl (op_ldo rfl tb4 (ev1 rfl) rfl rfl) ?_
    refine zab rfl rfl rfl (zac (.inr rfl) (ev1 rfl)) ?_
    refine zae ?_
    refine dwp_ret ?_
    refine kend0 (rs1 rfl (rv_t rfl)) rfl ?_
    rw [← sameF_iff ca cb]
    rfl
set_option maxRecDepth 4000
theorem ext_S {W H : Nat} {l r : List C4} (hl : l.length = W * H) (hr : r.length = W * H) (h : ∀ x y, x < W → y < H → getS W l x y = getS W r x y) : l = r := by
  apply List.ext_getElem (by omega)
  intro k h1 h2
  obtain ⟨g1, g2⟩ := ix_hi (W := W) (H := H) (k := k) (by omega)
  have := h (k % W) (k / W) g2 g1
  unfold getS at this
  rw [ix_back, List.getD_eq_getElem?_getD, List.getD_eq_getElem?_getD, List.getElem?_eq_getElem h1, List.getElem?_eq_getElem h2] at this
  exact this
set_option maxRecDepth 4000
theorem cutB_ok {w h x y a b : Int} (e : cutB w h x y a b = true) : ∃ W H : Nat, a = (W : Int) ∧ b = (H : Int) ∧ CutOk w h x y W H := by
  unfold cutB at e
  simp only [Bool.and_eq_true, sideB_iff, decide_eq_true_eq] at e
  exact ⟨a.toNat, b.toNat, by omega, by omega, ⟨by omega, by omega, by omega, by omega⟩⟩
set_option maxRecDepth 4000
theorem getL_mem {l : List C4} {W x y : Nat} (h : ∀ c ∈ l, c.rng) : (getS W l x y).rng := by
  unfold getS
  rw [List.getD_eq_getElem?_getD]
  by_cases hq : y * W + x < l.length
  · rw [List.getElem?_eq_getElem hq]; exact h _ (List.getElem_mem hq)
  · rw [List.getElem?_eq_none (by omega)]; exact zC4_rng
set_option maxRecDepth 4000
open Go.ChangeShapes Go.WideShapes Go.ChangeAt Go.Joins Go.Deep
theorem fitsP_append : ∀ (a b : List Prim) (cs : List Value), fitsP (a ++ b) cs → ∃ c d, cs = c ++ d ∧ fitsP a c ∧ fitsP b d
  | [], _, cs, h => ⟨[], cs, rfl, trivial, h⟩
  | _ :: _, _, [], h => by cases h
  | p :: a, b, v :: cs, h => by
    obtain ⟨h1, h2⟩ := h
    obtain ⟨c, d, rfl, h3, h4⟩ := fitsP_append a b cs h2
    exact ⟨v :: c, d, rfl, ⟨h1, h3⟩, h4⟩
theorem fits_p2 (cs : List Value) (h : fitsP [.int .i64, .int .i64] cs) : ∃ p : P2, p.rng ∧ cs = p2 p := by
  obtain ⟨x0, r, rfl, h0, g1⟩ := fitsP_cons h
  obtain ⟨x1, r, rfl, h1, g2⟩ := fitsP_cons g1
  obtain rfl := fitsP_nil g2
  obtain ⟨x, wx, rfl⟩ := fits_prim_i64 h0
  obtain ⟨y, wy, rfl⟩ := fits_prim_i64 h1
  exact ⟨⟨x, y⟩, ⟨wx, wy⟩, rfl⟩
theorem fits_cs : ∀ (n : Nat) (cs : List Value), fitsP (List.replicate n [.int .u8, .int .u8, .int .u8, .int .u8]).flatten cs → ∃ l : List C4, l.length = n ∧ (∀ c ∈ l, c.rng) ∧ cs = l.flatMap c4
  | 0, [], _ => ⟨[], rfl, (fun c h => by cases h), rfl⟩
  | 0, _ :: _, h => by cases h
  | n + 1, cs, h => by
    rw [List.replicate_succ, List.flatten_cons] at h
    obtain ⟨a, b, rfl, h1, h2⟩ := fitsP_append _ _ _ h
    obtain ⟨c, hc, rfl⟩ := fits_c4 _ h1
    obtain ⟨l, hl, hr, rfl⟩ := fits_cs n b h2
    exact ⟨c :: l, by rw [List.length_cons, hl], fun d hd => (List.mem_cons.1 hd).elim (fun e => e ▸ hc) (hr d), rfl⟩
theorem fits_tl (cs : List Value) (h : fitsP (List.replicate 64 [.int .u8, .int .u8, .int .u8, .int .u8]).flatten cs) : ∃ t : TL, (∀ c ∈ t.l, c.rng) ∧ cs = tc t := by
  obtain ⟨l, hl, hr, rfl⟩ := fits_cs 64 cs h
  exact ⟨⟨l, hl⟩, hr, rfl⟩
theorem opens_rowz {α : Type} {w : World} {t e : TypeId} {ps : List Prim} {sz : Nat} (f : Nat) (en : α → List Value) (ok : α → Prop) (hP : ∀ cs, fitsP ps cs → ∃ a, ok a ∧ cs = en a) (ht : Try.prog.underlying t = some (.slice e)) (hf : flatT Try.prog f e = some ps) (hz : ps.length = sz) (hc : Try.prog.cellsOf e = sz) (hpos : 0 < sz)
    (hen : ∀ a, (en a).length = sz) : Opens Try.prog w t (fun l : List α => [.slf sz l.length (l.flatMap en)]) (fun l => ∀ a ∈ l, ok a) := by
  subst hz
  exact opens_row f en ok hP ht hf hc hpos hen
abbrev kT : List Prim := (List.replicate 64 [.int .u8, .int .u8, .int .u8, .int .u8]).flatten
theorem kT_len : kT.length = 256 := by kernel_rfl
theorem opens_tls {w : World} : Opens Try.prog w 53 (fun l : List TL => [.slf 256 l.length (l.flatMap tc)]) (fun l => ∀ x ∈ l, ∀ c ∈ x.l, c.rng) :=
  opens_rowz 4 tc (fun t => ∀ c ∈ t.l, c.rng) fits_tl Try.underlying53 (show flatT Try.prog 4 60 = some kT by kernel_rfl) kT_len (by kernel_rfl) (by decide) tc_len
abbrev shL (a : Int × Int × List TL) : List D := [.val (.int .i64 a.1), .val (.int .i64 a.2.1), .slf 256 a.2.2.length (a.2.2.flatMap tc)]
theorem opens_cv {w : World} : Opens Try.prog w 55 shL (fun a => tsRng a.2.2) :=
  opens_map (fun a : Int × Int × List TL × Unit => (a.1, a.2.1, a.2.2.1)) (opens_struct Try.underlying55 (by kernel_rfl) (opensF_cons (k := 1) rfl (by kernel_rfl) opens_i64 (opensF_cons (k := 1) rfl (by kernel_rfl) opens_i64 (opensF_cons (k := 1) rfl (by kernel_rfl) opens_tls opensF_nil)))) (fun _ => rfl) (fun _ h => h.2.2.1)
set_option maxRecDepth 4000
theorem of_d (w h : Int) (ts : List TL) (hc : CvOk w h ts) : DFun Try.prog 30 [shD w h ts] [] (.tup [cvD w h (dpR ts), .val (.int .i64 0)]) [] := (of_i w h ts hc).fun fun I d hf => okd_wk hf
set_option maxRecDepth 4000
theorem getC_put {w h : Int} {us : List TL} {d : Dt} (hc : CvOk w h us) (ho : onS w h d.x d.y = true) : getC w (putC w h us d) d.x d.y = d.c := by
  have hp := hc.pl ho
  have hq := (on_pl hc.may ho).2.2.2
  unfold getC putC
  rw [if_pos ho, tl_at (by simpa using hp), List.getElem_set_self]
  unfold TL.get TL.set
  rw [List.getD_eq_getElem?_getD, List.getElem?_set_self (by rw [TL.h]; exact hq)]
  rfl
def lastF (x y : Int) (l : List Dt) : C4 × Bool := l.foldl (fun s d => if d.x = x ∧ d.y = y then (d.c, true) else s) (zC4, false)
theorem lastF_add {x y : Int} {l : List Dt} {k : Nat} (h : k < l.length) : lastF x y (l.take (k + 1)) = if l[k].x = x ∧ l[k].y = y then (l[k].c, true) else lastF x y (l.take k) := by
  rw [List.take_succ_eq_append_getElem h, lastF, List.foldl_append]; rfl
theorem pl_inj {w h x y x2 y2 : Int} (hm : mayS w h = true) (ho : onS w h x y = true) (ho2 : onS w h x2 y2 = true) (h1 : plN w x y = plN w x2 y2) : x / 8 = x2 / 8 ∧ y / 8 = y2 / 8 := by
  have hb := mayS_b hm
  have e1 := (on_pl hm ho).1
  have e2 := (on_pl hm ho2).1
  have g1 := onS_iff.1 ho
  have g2 := onS_iff.1 ho2
  rw [h1] at e1
  have hw : w = 1 ∨ w = 2 ∨ w = 3 ∨ w = 4 := by omega
  rcases hw with rfl | rfl | rfl | rfl <;> omega
theorem px_inj {w h x y x2 y2 : Int} (hm : mayS w h = true) (ho : onS w h x y = true) (ho2 : onS w h x2 y2 = true) (h1 : plN w x y = plN w x2 y2) (h2 : pxN x y = pxN x2 y2) : x = x2 ∧ y = y2 := by
  have e1 := (on_pl hm ho).2.2.1
  have e2 := (on_pl hm ho2).2.2.1
  have e3 := pl_inj hm ho ho2 h1
  rw [h2] at e1
  omega
theorem getC_putne {w h x y : Int} {us : List TL} {d : Dt} (hc : CvOk w h us) (ho : onS w h x y = true) (hne : ¬ (d.x = x ∧ d.y = y)) : getC w (putC w h us d) x y = getC w us x y := by
  unfold putC
  split
  · rename_i hd
    unfold getC
    by_cases e : plN w d.x d.y = plN w x y
    · have e2 : pxN d.x d.y ≠ pxN x y := fun e2 => hne (px_inj hc.may hd ho e e2)
      have hp := hc.pl ho
      rw [e, tl_at (by simpa using hp), List.getElem_set_self]
      unfold TL.get TL.set
      rw [List.getD_eq_getElem?_getD, List.getElem?_set_ne e2, ← List.getD_eq_getElem?_getD]
    · rw [List.getD_eq_getElem?_getD, List.getElem?_set_ne e, ← List.getD_eq_getElem?_getD]
  · rfl
theorem getC_puts {w h x y : Int} {us : List TL} (hc : CvOk w h us) (ho : onS w h x y = true) (l : List Dt) : getC w (putsC w h us l) x y = if (lastF x y l).2 = true then (lastF x y l).1 else getC w us x y := by
  have key : ∀ k, k ≤ l.length → getC w (putsC w h us (l.take k)) x y = if (lastF x y (l.take k)).2 = true then (lastF x y (l.take k)).1 else getC w us x y := fun k => by
    induction k with
    | zero => intro _; rfl
    | succ k ih =>
      intro hk
      rw [putsC_take (by omega), lastF_add (by omega)]
      by_cases hd : l[k].x = x ∧ l[k].y = y
      · rw [if_pos hd]
        obtain ⟨rfl, rfl⟩ := hd
        rw [getC_put (hc.puts _) ho]
        rfl
      · rw [if_neg hd, getC_putne (hc.puts _) ho hd, ih (by omega)]
  have := key l.length (Nat.le_refl _)
  rwa [List.take_length] at this
theorem dif_mem {w h : Int} {ts us : List TL} {p : P2} (hp : p ∈ difC w h ts us) : onS w h p.x p.y = true ∧ getC w ts p.x p.y ≠ getC w us p.x p.y := by
  unfold difC difU at hp
  obtain ⟨y, hy, hp⟩ := List.mem_flatMap.1 hp
  unfold difR at hp
  obtain ⟨x, hx, rfl⟩ := List.mem_map.1 hp
  obtain ⟨hx, hne⟩ := List.mem_filter.1 hx
  have h1 := List.mem_range.1 hy
  have h2 := List.mem_range.1 hx
  exact ⟨onS_iff.2 (by dsimp only; omega), by simpa using hne⟩
theorem lastG_no {x y : Int} : ∀ {l : List Dt} (s : C4 × Bool), (∀ d ∈ l, ¬ (d.x = x ∧ d.y = y)) → l.foldl (fun s d => if d.x = x ∧ d.y = y then (d.c, true) else s) s = s
  | [], _, _ => rfl
  | d :: l, s, h => by rw [List.foldl_cons, if_neg (h d (by simp))]; exact lastG_no s fun e he => h e (List.mem_cons_of_mem _ he)
theorem lastG_yes {x y : Int} {c : C4} : ∀ {l : List Dt} (s : C4 × Bool), (∃ d ∈ l, d.x = x ∧ d.y = y) → (∀ d ∈ l, d.x = x ∧ d.y = y → d.c = c) → l.foldl (fun s d => if d.x = x ∧ d.y = y then (d.c, true) else s) s = (c, true)
  | [], _, h, _ => by obtain ⟨d, hd, _⟩ := h; cases hd
  | d :: l, s, h, hc => by
    rw [List.foldl_cons]
    by_cases hl : ∃ d ∈ l, d.x = x ∧ d.y = y
    · exact lastG_yes _ hl fun e he => hc e (List.mem_cons_of_mem _ he)
    · rw [lastG_no _ fun e he k => hl ⟨e, he, k⟩]
      obtain ⟨e, he, k⟩ := h
      rcases List.mem_cons.1 he with rfl | he
      · rw [if_pos k, hc e (by simp) k]
      · exact absurd ⟨e, he, k⟩ hl
theorem lastF_no {x y : Int} {l : List Dt} (h : ∀ d ∈ l, ¬ (d.x = x ∧ d.y = y)) : lastF x y l = (zC4, false) := lastG_no _ h
theorem lastF_yes {x y : Int} {c : C4} {l : List Dt} (he : ∃ d ∈ l, d.x = x ∧ d.y = y) (hc : ∀ d ∈ l, d.x = x ∧ d.y = y → d.c = c) : lastF x y l = (c, true) := lastG_yes _ he hc
def covS (X Y : Int) (W H : Nat) (x y : Int) : Prop := (X ≤ x ∧ x < X + (W : Int)) ∧ (Y ≤ y ∧ y < Y + (H : Int))
instance (X Y : Int) (W H : Nat) (x y : Int) : Decidable (covS X Y W H x y) := by unfold covS; exact inferInstance
def colS (w : Int) (ts : List TL) (X Y : Int) (W : Nat) (l : List C4) (x y : Int) : C4 := overC (getC w ts x y) (getS W l (x - X).toNat (y - Y).toNat)
theorem ov_cov {w h : Int} {ts : List TL} {X Y : Int} {W H : Nat} {l : List C4} (hm : mayS w h = true) (hX : -9223372036854775808 ≤ X ∧ X ≤ 9223372036854775807) (hY : -9223372036854775808 ≤ Y ∧ Y ≤ 9223372036854775807) (hs : StOk W H l) {d : Dt} (hd : d ∈ ovL w h ts X Y W l (W * H)) : onS w h d.x d.y = true ∧ covS X Y W H d.x d.y ∧ d.c = colS w ts X Y W l d.x d.y := by
  unfold ovL at hd
  obtain ⟨i, hi, hd⟩ := List.mem_flatMap.1 hd
  rw [List.mem_range] at hi
  obtain ⟨h1, h2⟩ := ix_hi hi
  have hw := hs.w
  have hh := hs.h
  have hb := mayS_b hm
  unfold ovP at hd
  split at hd
  · rename_i ho
    rw [List.mem_singleton] at hd
    have hxy := onS_iff.1 ho
    have hback := ix_back (W := W) i
    generalize i % W = a at hd hxy h2 hback ho
    generalize i / W = b at hd hxy h1 hback ho
    have ex : wr (X + (a : Int)) = X + (a : Int) := by
      have := hxy.1
      unfold wr at this ⊢
      rw [IntKind.wrap_i64] at this ⊢
      omega
    have ey : wr (Y + (b : Int)) = Y + (b : Int) := by
      have := hxy.2
      unfold wr at this ⊢
      rw [IntKind.wrap_i64] at this ⊢
      omega
    rw [ex, ey] at hd ho
    subst hd
    refine ⟨ho, ⟨⟨by show X ≤ X + (a : Int); omega, by show X + (a : Int) < X + (W : Int); omega⟩, ⟨by show Y ≤ Y + (b : Int); omega, by show Y + (b : Int) < Y + (H : Int); omega⟩⟩, ?_⟩
    show overC _ _ = overC _ _
    congr 1
    show _ = getS W l (X + (a : Int) - X).toNat (Y + (b : Int) - Y).toNat
    rw [show (X + (a : Int) - X).toNat = a by omega, show (Y + (b : Int) - Y).toNat = b by omega, getS, hback]
  · cases hd
theorem cov_ov {w h : Int} {ts : List TL} {X Y : Int} {W H : Nat} {l : List C4} (hm : mayS w h = true) {x y : Int} (ho : onS w h x y = true) (hk : covS X Y W H x y) : ∃ d ∈ ovL w h ts X Y W l (W * H), d.x = x ∧ d.y = y := by
  obtain ⟨⟨k1, k2⟩, k3, k4⟩ := hk
  have hb := mayS_b hm
  have hxy := onS_iff.1 ho
  obtain ⟨a, ha⟩ : ∃ a : Nat, x = X + (a : Int) := ⟨(x - X).toNat, by omega⟩
  obtain ⟨b, hbb⟩ : ∃ b : Nat, y = Y + (b : Int) := ⟨(y - Y).toNat, by omega⟩
  have ha2 : a < W := by omega
  have hb2 : b < H := by omega
  have ex : wr (X + (a : Int)) = x := by
    unfold wr
    rw [IntKind.wrap_i64]
    omega
  have ey : wr (Y + (b : Int)) = y := by
    unfold wr
    rw [IntKind.wrap_i64]
    omega
  refine ⟨⟨x, y, colS w ts X Y W l x y⟩, List.mem_flatMap.2 ⟨b * W + a, List.mem_range.2 (ix_lt ha2 hb2), ?_⟩, rfl, rfl⟩
  unfold ovP
  rw [ix_div ha2, ix_mod ha2, ex, ey, if_pos ho, List.mem_singleton]
  congr 1
  unfold colS getS
  rw [show (x - X).toNat = a by omega, show (y - Y).toNat = b by omega]
theorem lay_get {w h : Int} {ts : List TL} (hc : CvOk w h ts) {p : P2} (hp : p.rng) {W H : Nat} {l : List C4} (hs : StOk W H l) {x y : Int} (ho : onS w h x y = true) : getC w (layC w h ts W H l p) x y = if covS p.x p.y W H x y then colS w ts p.x p.y W l x y else getC w ts x y := by
  unfold layC
  rw [getC_puts hc ho]
  by_cases hk : covS p.x p.y W H x y
  · rw [if_pos hk, lastF_yes (c := colS w ts p.x p.y W l x y) (cov_ov hc.may ho hk) fun d hd e => ?_, if_pos rfl]
    obtain ⟨_, _, h3⟩ := ov_cov hc.may hp.1 hp.2 hs hd
    rw [h3, e.1, e.2]
  · rw [if_neg hk, lastF_no fun d hd e => ?_]
    · rfl
    · obtain ⟨_, h2, _⟩ := ov_cov hc.may hp.1 hp.2 hs hd
      rw [e.1, e.2] at h2
      exact hk h2
theorem cv_ext {w h : Int} {ts us : List TL} (hc : CvOk w h ts) (hd : CvOk w h us) (he : ∀ x y, onS w h x y = true → getC w ts x y = getC w us x y) : ts = us := by
  have hb := mayS_b hc.may
  have : sameF w h ts us = true := by
    unfold sameF allEq
    refine List.all_eq_true.2 fun y hy => ?_
    unfold rowEq
    refine List.all_eq_true.2 fun x hx => ?_
    have h1 := List.mem_range.1 hy
    have h2 := List.mem_range.1 hx
    exact decide_eq_true (he _ _ (onS_iff.2 ⟨by omega, by omega⟩))
  rw [sameF_iff hc hd] at this
  simpa using this
section
variable {P : Program} {s0 : St} {n : Cx}
theorem inv_giveAm {F : Fr} {M : List Blk} {a : Act} {w : World} {T e : TypeId} {p q i sz m : Nat} {l : List D} {L : List Value} (h : Inv s0 n F M a w) (hM : M[p]? = some (.mix T l)) (hq : l[q]? = some (.arr i)) (hi : M[i]? = some (.arr e sz m L)) : Inv s0 n F ((M.set i .gone).set p (.mix T (l.set q (.slf sz m L)))) a w := by
  obtain ⟨h0, s, rfl, rfl, h3, h4, h5, h6⟩ := h
  have hpl : p < s.M.length := (List.getElem?_eq_some_iff.1 hM).1
  have hil : i < s.M.length := (List.getElem?_eq_some_iff.1 hi).1
  have hpi : p ≠ i := fun e => by subst e; rw [hM] at hi; cases hi
  have hpl' : p < s.β.length := by rw [h3.ok.len]; exact hpl
  have hil' : i < s.β.length := by rw [h3.ok.len]; exact hil
  have hβi : s.β[i]? = some s.β[i] := List.getElem?_eq_getElem (by rw [h3.ok.len]; exact hil)
  have hβp : s.β[p]? = some s.β[p] := List.getElem?_eq_getElem (by rw [h3.ok.len]; exact hpl)
  obtain ⟨b, vs, e1, e2, e3, e4⟩ := h3.ok.blk p _ _ hM hβp
  have hql : q < l.length := (List.getElem?_eq_some_iff.1 hq).1
  -- the value in that cell is the handle
  have hcell : vs[q]? = some s.β[i] := by
    have hv : vs[q]? = some vs[q] := List.getElem?_eq_getElem (by omega)
    have := e4 q _ _ hq hv
    rw [hv]
    generalize vs[q] = x at this
    cases this with
    | arr h => exact h.symm.trans hβi
  obtain ⟨I', tt, hrep⟩ := tr_giveA h3.ok hi (e4 q _ _ hq hcell)
  have hM2 : (s.M.set i .gone)[p]? = some (.mix T l) := by rw [List.getElem?_set_ne (Ne.symm hpi)]; exact hM
  have hset : s.β.set p s.β[p] = s.β := List.set_getElem_self ..
  have t2 : Tr ⟨s.β, I', s.M.set i .gone, s.w⟩ ⟨s.β, I', (s.M.set i .gone).set p (.mix T (l.set q (.slf sz m L))), s.w⟩ := by
    have hst := step_set tt.ok p (s.M.set i .gone) s.β[p] (.mix T (l.set q (.slf sz m L))) s.w rfl (fun i k h => .inl h) (by simpa using hpl) (.inr (.inl hβp)) (by rw [e1]; simp) ?_ (fun b' hb' j kj hj hne h1 h2 h3' h4' => ?_) (fun b' hb' => .inr (live_of hM2 rfl hβp hb')) (fun b' hb' => (tt.ok.lt b' (live_of hM2 rfl hβp hb')).1) (fun _ => False) (fun _ h => h.elim) (fun b' hlt hne _ => rfl) rfl rfl rfl (Nat.le_refl _)
    · have hst' := hst
      simp only [hset] at hst'
      exact hst'
    · refine ⟨b, vs, e1, e2, by simp [e3], fun j d v g1 g2 => ?_⟩
      have lift : ∀ {d v}, Rep s d v → Rep ⟨s.β.set p s.β[p], I', (s.M.set i .gone).set p (.mix T (l.set q (.slf sz m L))), s.w⟩ d v := fun hr => by
        rw [hset]
        exact Rep.mono' (s := ⟨s.β, I', s.M.set i .gone, s.w⟩) (s' := ⟨s.β, I', (s.M.set i .gone).set p (.mix T (l.set q (.slf sz m L))), s.w⟩) (fun _ _ h _ => h) (fun _ h => h) (fun _ _ => rfl) (hr.mono h3.ok tt)
      by_cases e : q = j
      · subst e
        rw [List.getElem?_set_self hql] at g1
        cases g1
        rw [hcell] at g2
        cases g2
        rw [hset]
        exact Rep.mono' (s := ⟨s.β, I', s.M.set i .gone, s.w⟩) (s' := ⟨s.β, I', (s.M.set i .gone).set p (.mix T (l.set q (.slf sz m L))), s.w⟩) (fun _ _ h _ => h) (fun _ h => h) (fun _ _ => rfl) hrep
      · rw [List.getElem?_set_ne e] at g1
        exact lift (e4 j d v g1 g2)
    · exact hne (tt.ok.inj j p kj _ hj _ b' h1 h2 h3' h4' hM2 rfl hβp hb')
  exact ⟨h0, ⟨s.β, I', (s.M.set i .gone).set p (.mix T (l.set q (.slf sz m L))), s.w⟩, rfl, rfl, (h3.trans tt).trans t2, fun x d hd => ((h4 x d hd).mono h3.ok tt).mono tt.ok t2, h5, (h6.mono h3.ok tt).mono tt.ok t2⟩
/-- a plain row of one's own in a struct's cell is given up: it stays from now on -/
theorem dwp_giveAm {c : Code} {F : Fr} {M M' : List Blk} {K : Cont} (p q : Nat) {T e : TypeId} {i sz m : Nat} {l : List D} {L : List Value} (hM : M[p]? = some (.mix T l)) (hq : l[q]? = some (.arr i)) (hi : M[i]? = some (.arr e sz m L)) (hM' : (M.set i .gone).set p (.mix T (l.set q (.slf sz m L))) = M') (h : dwp P s0 n c F M' K) : dwp P s0 n c F M K := by
  subst hM'
  exact fun a w hj => h a w (inv_giveAm hj hM hq hi)
end
set_option maxRecDepth 4000
def wA (v : Int) (c : C4) : C4 := { c with a := v }
def alA (v : Int) (l : List C4) (k : Nat) : List C4 := (l.take k).map (wA v) ++ l.drop k
theorem alA_len (v : Int) (l : List C4) (k : Nat) : (alA v l k).length = l.length := by rw [alA, List.length_append, List.length_map, List.length_take, List.length_drop]; omega
theorem alA_at {v : Int} {l : List C4} {k : Nat} (h : k < l.length) (h2 : k < (alA v l k).length) : (alA v l k)[k] = l[k] := by
  have e : ((l.take k).map (wA v)).length = k := by rw [List.length_map, List.length_take]; omega
  have h3 : (alA v l k)[k]? = some l[k] := by
    unfold alA
    rw [List.getElem?_append_right (by omega), e, Nat.sub_self, List.getElem?_drop, Nat.add_zero, List.getElem?_eq_getElem h]
  rw [List.getElem?_eq_getElem h2] at h3
  exact Option.some.inj h3
theorem alA_set {v : Int} {l : List C4} {k : Nat} (h : k < l.length) : (alA v l k).set k (wA v l[k]) = alA v l (k + 1) := by
  unfold alA
  have e : ((l.take k).map (wA v)).length = k := by rw [List.length_map, List.length_take]; omega
  rw [List.set_append_right _ _ (by omega), e, Nat.sub_self, List.drop_eq_getElem_cons h, za, List.take_succ_eq_append_getElem h, List.map_append, List.append_assoc]
  rfl
theorem setL_ca {l : List C4} {q : Nat} {v : Int} (hq : q < l.length) : setL ((alA v l q).flatMap c4) (q * 4 + 3) [.int .u8 v] = (alA v l (q + 1)).flatMap c4 := by
  rw [← alA_set hq]
  have h2 : q < (alA v l q).length := by rw [alA_len]; exact hq
  refine flat_set_part (c := 3) c4_len h2 (by show 3 + 1 ≤ 4; decide) ?_
  rw [alA_at hq h2]
  rfl
theorem overC_full {u o : C4} (hu : u.rng) (ho : o.rng) (h : o.a = 255) : overC u o = o := by
  obtain ⟨u1, u2, u3, u4⟩ := hu
  obtain ⟨o1, o2, o3, o4⟩ := ho
  obtain ⟨r, g, b, a⟩ := o
  dsimp only at h o1 o2 o3
  subst h
  unfold overC shU
  simp only [Int.sub_self, Int.mul_zero, Int.add_zero, C4.mk.injEq]
  refine ⟨by omega, by omega, by omega, by omega⟩
theorem overC_none {u o : C4} (hu : u.rng) (ho : o.rng) (h : o.a = 0) : overC u o = u := by
  obtain ⟨u1, u2, u3, u4⟩ := hu
  obtain ⟨ur, ug, ub, ua⟩ := u
  obtain ⟨r, g, b, a⟩ := o
  dsimp only at h u1 u2 u3 u4
  subst h
  unfold overC shU
  simp only [Int.mul_zero, Int.zero_add, Int.sub_zero, Int.zero_mul, Int.add_zero, C4.mk.injEq]
  refine ⟨by omega, by omega, by omega, by omega⟩
theorem all_get {P : C4 → Prop} {W H : Nat} {l : List C4} (hs : StOk W H l) (h : ∀ c ∈ l, P c) {i j : Nat} (hi : i < W) (hj : j < H) : P (getS W l i j) := by
  have h1 := ix_lt hi hj
  unfold getS
  rw [List.getD_eq_getElem?_getD, List.getElem?_eq_getElem (by rw [hs.len]; exact h1)]
  exact h _ (List.getElem_mem _)
theorem cov_ix {X Y : Int} {W H : Nat} {x y : Int} (hk : covS X Y W H x y) : (x - X).toNat < W ∧ (y - Y).toNat < H := by
  obtain ⟨⟨k1, k2⟩, k3, k4⟩ := hk
  omega
theorem lay_none {w h : Int} {ts : List TL} (hc : CvOk w h ts) (hg : tsRng ts) {p : P2} (hp : p.rng) {W H : Nat} {l : List C4} (hs : StOk W H l) (hl : ∀ c ∈ l, c.rng) (ha : ∀ c ∈ l, c.a = 0) : layC w h ts W H l p = ts := by
  refine cv_ext (hc.lay W H l p) hc fun x y ho => ?_
  rw [lay_get hc hp hs ho]
  split
  · rename_i hk
    obtain ⟨h1, h2⟩ := cov_ix hk
    exact overC_none (getC_rng hg _ _ _) (getL_mem hl) (all_get hs ha h1 h2)
  · rfl
theorem lay_cut {w h : Int} {ts : List TL} (hc : CvOk w h ts) (hg : tsRng ts) {p : P2} (hp : p.rng) {W H : Nat} {l : List C4} (hs : StOk W H l) (hl : ∀ c ∈ l, c.rng) (ha : ∀ c ∈ l, c.a = 255) (hk : CutOk w h p.x p.y W H) : cutL w (layC w h ts W H l p) p.x p.y W H = l := by
  refine ext_S (cutL_len ..) hs.len fun i j hi hj => ?_
  have h1 := hk.hx
  have h2 := hk.hy
  have ho : onS w h (p.x + (i : Int)) (p.y + (j : Int)) = true := onS_iff.2 ⟨by omega, by omega⟩
  rw [get_cut hi hj, lay_get hc hp hs ho, if_pos (by unfold covS; omega)]
  unfold colS
  rw [show (p.x + (i : Int) - p.x).toNat = i by omega, show (p.y + (j : Int) - p.y).toNat = j by omega]
  exact overC_full (getC_rng hg _ _ _) (getL_mem hl) (all_get hs ha hi hj)
theorem nodup_le {α : Type} [DecidableEq α] : ∀ {l m : List α}, l.Nodup → (∀ a ∈ l, a ∈ m) → l.length ≤ m.length
  | [], _, _, _ => Nat.zero_le _
  | a :: l, m, hn, hs => by
    have h1 := List.nodup_cons.1 hn
    have h2 := nodup_le (l := l) (m := m.erase a) h1.2 fun b hb => by
      have hne : b ≠ a := fun e => h1.1 (e ▸ hb)
      exact (List.mem_erase_of_ne hne).2 (hs b (List.mem_cons_of_mem _ hb))
    rw [List.length_erase_of_mem (hs a (by simp))] at h2
    have h3 : 0 < m.length := List.length_pos_of_mem (hs a (by simp))
    rw [List.length_cons]
    omega
theorem difC_nodup (w h : Int) (ts us : List TL) : (difC w h ts us).Nodup := by
  unfold difC difU
  refine List.pairwise_flatMap.2 ⟨fun y _ => ?_, ?_⟩
  · unfold difR
    refine List.pairwise_map.2 ((List.nodup_range.filter _).imp fun {a b} hne e => hne ?_)
    have := congrArg P2.x e
    dsimp only at this
    omega
  · refine List.nodup_range.imp fun {a b} hne p hp q hq e => hne ?_
    subst e
    unfold difR at hp hq
    obtain ⟨_, _, rfl⟩ := List.mem_map.1 hp
    obtain ⟨_, _, e2⟩ := List.mem_map.1 hq
    have := congrArg P2.y e2
    dsimp only at this
    omega
theorem dif_lay {w h : Int} {ts : List TL} (hc : CvOk w h ts) {p : P2} (W H : Nat) (l : List C4) : (difC w h ts (layC w h ts W H l p)).length ≤ (ovL w h ts p.x p.y W l (W * H)).length := by
  have h1 := nodup_le (difC_nodup w h ts (layC w h ts W H l p)) (m := (ovL w h ts p.x p.y W l (W * H)).map fun d => (⟨d.x, d.y⟩ : P2)) fun q hq => by
    obtain ⟨ho, hne⟩ := dif_mem hq
    refine Classical.byContradiction fun hn => hne ?_
    unfold layC
    rw [getC_puts hc ho, lastF_no fun d hd e => hn (List.mem_map.2 ⟨d, hd, by obtain ⟨e1, e2⟩ := e; cases q; dsimp only at e1 e2; rw [e1, e2]⟩)]
    rfl
  rwa [List.length_map] at h1
theorem ovL_lt {w h : Int} {ts : List TL} {X Y : Int} {W : Nat} {l : List C4} {i : Nat} (h0 : ovP w h ts X Y W l i = []) : ∀ N, i < N → (ovL w h ts X Y W l N).length < N
  | 0, hi => by omega
  | N + 1, hi => by
    rw [ovL_succ, List.length_append]
    by_cases e : i = N
    · subst e
      rw [h0]
      have := ovL_len w h ts X Y W l i
      simp only [List.length_nil]
      omega
    · have h1 := ovL_lt h0 N (by omega)
      have h2 := ovP_len w h ts X Y W l N
      omega
theorem ov_less {w h : Int} {ts : List TL} {p : P2} (hm : mayS w h = true) (hp : p.rng) {W H : Nat} {l : List C4} (hs : StOk W H l) (hno : cutB w h p.x p.y W H = false) : (ovL w h ts p.x p.y W l (W * H)).length < W * H := by
  have hw := hs.w
  have hh := hs.h
  have hb := mayS_b hm
  obtain ⟨hpx, hpy⟩ := hp
  unfold cutB at hno
  rw [sideB_iff.2 (show 1 ≤ (W : Int) ∧ (W : Int) ≤ 8 by omega), sideB_iff.2 (show 1 ≤ (H : Int) ∧ (H : Int) ≤ 8 by omega)] at hno
  have hoff : ∃ a b : Nat, a < W ∧ b < H ∧ onS w h (wr (p.x + (a : Int))) (wr (p.y + (b : Int))) = false := by
    by_cases h0 : 0 ≤ p.x ∧ 0 ≤ p.y
    · refine ⟨W - 1, H - 1, by omega, by omega, ?_⟩
      rw [onS_no]
      unfold wr
      rw [IntKind.wrap_i64, IntKind.wrap_i64]
      simp at hno
      omega
    · refine ⟨0, 0, by omega, by omega, ?_⟩
      rw [onS_no]
      unfold wr
      rw [IntKind.wrap_i64, IntKind.wrap_i64]
      omega
  obtain ⟨a, b, ha, hb2, ho⟩ := hoff
  refine ovL_lt (i := b * W + a) ?_ _ (ix_lt ha hb2)
  unfold ovP
  rw [ix_div ha, ix_mod ha, if_neg (by rw [ho]; decide)]
theorem wear_all {l : List C4} (h : ∀ c ∈ l, 0 < c.a) : wearN l = l.length := by
  unfold wearN
  rw [List.filter_eq_self.2 fun c hc => decide_eq_true (h c hc)]
theorem wear_none {l : List C4} (h : ∀ c ∈ l, c.a = 0) : wearN l = 0 := by
  unfold wearN
  rw [List.filter_eq_nil_iff.2 fun c hc => by rw [h c hc]; decide]
  rfl
theorem alA_end (v : Int) (l : List C4) : alA v l l.length = l.map (wA v) := by rw [alA, List.take_length, List.drop_length, List.append_nil]
theorem op_nilo {P : Program} {pc : Bool} {o : Oper} {F : Fr} {M : List Blk} {T T' e : TypeId} {sz sz' by' i q m : Nat} {x : Operand} (hm : 0 < m) (ho : o.op = .binOp .eql T x (.const (.slice none 0 0)) T') (hT : slE P T = some (e, sz', by')) (hx : Ev pc F x (.own i sz q m)) : DOp P pc o F M [] (.val (.bool false)) [] := by
  intro hp a s hok hops _
  have hr := ev_at hp hx (by simp [ho, Op.operands]) hops
  obtain ⟨hu, _⟩ := slE_spec hT
  generalize hvx : a.eval x = vx at hr
  have key : ∀ (ad : Addr) (k c : Nat), vx = .slice (some ad) k c → (execOp a.eval o).run P s.w = .ok (.value (.bool false)) s.w := fun ad k c e => by
    subst e
    unfold execOp
    simp only [ho]
    have hv : a.eval (.const (.slice none 0 0)) = .slice none 0 0 := rfl
    rw [hv, hvx]
    refine run_v ?_
    simp only [eqGuard, binOp, Sem.run_bind]
    have heq : ∀ d, (Op.equalIn (d + 1) T (.slice (some ad) k c) (.slice none 0 0)).run P s.w = .ok false s.w := fun d => by
      unfold Op.equalIn
      rw [Sem.run_bind, run_underlying hu]
      simp
    have heq' : (Op.equalIn Op.maxDepth T (.slice (some ad) k c) (.slice none 0 0)).run P s.w = .ok false s.w := heq 9999
    simp [Op.equal, heq', Sem.run_bind, go_sem]
  cases hr with
  | own h ha hN hz hn hc =>
    rcases ha with h0 | h0
    · omega
    · subst h0; exact dg_val hok (key _ _ _ rfl) (.val _)
  | ownnil h => omega
set_option maxRecDepth 4000 in
set_option maxHeartbeats 1000000 in
theorem cloneC_s (l : List C4) (h0 : 0 < l.length) (h : l.length ≤ 5000) : DFun Try.prog 22 [.own 0 4 0 l.length] [.arr 38 4 (l).length ((l).flatMap c4)] (.arr 1) [.arr 38 4 (l).length ((l).flatMap c4), .arr 38 4 (l).length ((l).flatMap c4)] := by
  refine dcalls_go (N := 8) 1 (by kernel_rfl) Try.func22 rfl rfl rfl (by simp only [fr0, Nat.zero_add, Nat.reduceAdd]; exact rfl) rfl fun s0 hs0 => ?_
  refine zaf ?_
  refine zad ?_
  refine zab rfl rfl rfl (zac (.inr rfl) (ev1 rfl)) ?_
  refine zae ?_
  refine zaf ?_
  refine zaf ?_
  refine zad ?_
  refine zab rfl rfl rfl (zac (.inl rfl) (ev1 rfl)) ?_
  refine zab rfl rfl rfl (op_nilo (by omega) rfl sl22 (ev1 rfl)) ?_
  refine zae ?_
  refine dwp_if_f rfl (rfl) ?_
  refine dwp_skip ?_
  refine zaf ?_
  refine zai 2 (by simp only [holes, List.cons_append, List.nil_append]; exact rfl) ?_
  refine zad ?_
  refine zak rfl rfl rfl (op_bsa (ps := []) 1 rfl sl22 zr38 rfl vn rfl (by decide) (by decide) rfl) (by simp only [upd, za, zaa]; exact rfl) ?_
  refine zab rfl rfl rfl (zac (.inl rfl) (ev1 rfl)) ?_
  refine zak rfl rfl rfl (op_app (j := 2) rfl sl22 zr38 rfl (ev1 rfl) (ev1 rfl) (src_own rfl rfl) rfl rfl (fun _ => by simp only [Nat.zero_mul, List.drop_zero]; rw [List.take_of_length_le (by rw [flat_len c4_len]; exact Nat.le_refl _)]; exact flat_oc (fun _ => rfl) l) (fun _ => ⟨by omega, by omega⟩)) (by simp only [upd, za, zaa]; exact rfl) ?_
  refine zab rfl rfl rfl (zac (.inr rfl) (ev1 rfl)) ?_
  refine zae ?_
  refine dwp_ret ?_
  refine kend [0, 2] (rs1 rfl (rv_t rfl)) rfl rfl ?_ ⟨?_, ?_, trivial⟩
  rfl
  exact rfl
  exact arr_eq (by simp) (by simp only [List.nil_append, Nat.zero_mul, List.drop_zero]; rw [List.take_of_length_le (by rw [flat_len c4_len]; exact Nat.le_refl _)]; rfl)
set_option maxRecDepth 4000 in
set_option maxHeartbeats 1000000 in
theorem sown_o (w h : Int) (l : List C4) : DFun Try.prog 9 [.agg [.val (.int .i64 w), .val (.int .i64 h), .slf 4 l.length (l.flatMap c4)]] [] (.agg [.val (.int .i64 w), .val (.int .i64 h), .arr 0]) [.arr 38 4 ((l.take 66)).length (((l.take 66)).flatMap c4)] := by
  refine dcalls_go (N := 13) 0 (by kernel_rfl) Try.func9 rfl rfl rfl (by simp only [fr0, Nat.zero_add, Nat.reduceAdd]; exact rfl) rfl fun s0 hs0 => ?_
  refine zaf ?_
  refine zai 2 (by simp only [holes, List.cons_append, List.nil_append]; exact rfl) ?_
  refine zad ?_
  refine zak rfl rfl rfl (op_boxam 0 rfl (ev1 rfl) rfl) (by simp only [upd, za, zaa]; exact rfl) ?_
  refine zak rfl rfl rfl (zal 1 rfl zr24 rfl) (by simp only [upd, za, zaa]; exact rfl) ?_
  refine zae ?_
  refine zaf ?_
  refine zai 1 (by simp only [holes, List.cons_append, List.nil_append]; exact rfl) ?_
  refine zad ?_
  refine zab rfl rfl rfl (op_fa rfl fo24_2 (ev1 rfl)) ?_
  refine zab rfl rfl rfl (op_ldm rfl tb22 (ev1 rfl) rfl rfl) ?_
  refine zab rfl rfl rfl (op_fa rfl fo24_2 (ev1 rfl)) ?_
  refine zab rfl rfl rfl (op_ldm rfl tb22 (ev1 rfl) rfl rfl) ?_
  refine zab rfl rfl rfl (op_len rfl sl22 (ev1 rfl)) ?_
  refine zab rfl rfl rfl (op_min rfl (ev1 rfl) (ev1 rfl)) ?_
  refine zab rfl rfl rfl (op_sltk (j := min l.length 66) rfl sl22 (ev1 rfl) (bd_some (ev1 rfl)) (fun _ => by omega) (fun _ => by omega) (fun _ => rfl)) ?_
  refine zak rfl rfl rfl (zaj [] [] [2] rfl (ev1 rfl) (ec (ev1 rfl) en) rfl rfl (cloneC _ (by rw [List.length_take]; omega)) rfl rfl rfl rfl rfl rfl) (by simp only [upd, za, zaa]; exact rfl) ?_
  refine zab rfl rfl rfl (op_fa rfl fo24_2 (ev1 rfl)) ?_
  refine walk_s rfl rfl (op_stm rfl tb22 (ev1 rfl) (ev1 rfl) (fun s v h => by cases h <;> exact ⟨rfl, rfl⟩) rfl (by first | decide | exact Nat.le_of_ble_eq_true rfl | simp)) (by simp only [upd, za, zaa]; exact rfl) ?_
  refine zae ?_
  refine zaf ?_
  refine zad ?_
  refine zab rfl rfl rfl (op_ldmw rfl tb24 (ev1 rfl) rfl rfl) ?_
  refine walk_s rfl rfl (op_stam rfl tb24 (ev1 rfl) (ev1 rfl) rfl rfl rfl rfl) (by simp only [upd, za, zaa]; exact rfl) ?_
  refine zae ?_
  refine dwp_ret ?_
  refine kend [2] (rs1 rfl (rv_mw tb24 rfl rfl rfl)) rfl rfl ?_ ⟨?_, trivial⟩
  rfl
  rw [tkmin]; rfl
set_option maxRecDepth 4000 in
set_option maxHeartbeats 1000000 in
theorem sown_s (w h : Int) (l : List C4) (h0 : 0 < l.length) (h6 : l.length ≤ 66) : DFun Try.prog 9 [.agg [.val (.int .i64 w), .val (.int .i64 h), .arr 0]] [.arr 38 4 (l).length ((l).flatMap c4)] (.agg [.val (.int .i64 w), .val (.int .i64 h), .arr 1]) [.arr 38 4 (l).length ((l).flatMap c4), .arr 38 4 (l).length ((l).flatMap c4)] := by
  refine dcalls_go (N := 13) 1 (by kernel_rfl) Try.func9 rfl rfl rfl (by simp only [fr0, Nat.zero_add, Nat.reduceAdd]; exact rfl) rfl fun s0 hs0 => ?_
  refine zaf ?_
  refine zai 2 (by simp only [holes, List.cons_append, List.nil_append]; exact rfl) ?_
  refine zad ?_
  refine zak rfl rfl rfl (op_boxam 1 rfl (ev1 rfl) rfl) (by simp only [upd, za, zaa]; exact rfl) ?_
  refine zak rfl rfl rfl (zal 2 rfl zr24 rfl) (by simp only [upd, za, zaa]; exact rfl) ?_
  refine zae ?_
  refine zaf ?_
  refine zai 1 (by simp only [holes, List.cons_append, List.nil_append]; exact rfl) ?_
  refine zad ?_
  refine zab rfl rfl rfl (op_fa rfl fo24_2 (ev1 rfl)) ?_
  refine zab rfl rfl rfl (op_ldm rfl tb22 (ev1 rfl) rfl rfl) ?_
  refine zab rfl rfl rfl (op_fa rfl fo24_2 (ev1 rfl)) ?_
  refine zab rfl rfl rfl (op_ldm rfl tb22 (ev1 rfl) rfl rfl) ?_
  refine zab rfl rfl rfl (op_lena rfl sl22 (ev1 rfl) rfl) ?_
  refine zab rfl rfl rfl (op_min rfl (ev1 rfl) (ev1 rfl)) ?_
  refine zab rfl rfl rfl ((op_sla rfl sl22 (ev1 rfl) rfl bd_none (bd_some (ev1 rfl)) (fun _ => by omega)).cast (d' := .own 0 4 0 l.length) (by congr 1; omega)) ?_
  refine zak rfl rfl rfl (zaj [0] [] [3] rfl (ev1 rfl) (ec (ev1 rfl) en) rfl rfl (cloneC_s l h0 (by omega)) rfl rfl rfl rfl rfl rfl) (by simp only [upd, za, zaa]; exact rfl) ?_
  refine zab rfl rfl rfl (op_fa rfl fo24_2 (ev1 rfl)) ?_
  refine walk_s rfl rfl (op_stm rfl tb22 (ev1 rfl) (ev1 rfl) (fun s v h => by cases h <;> exact ⟨rfl, rfl⟩) rfl (by first | decide | exact Nat.le_of_ble_eq_true rfl | simp)) (by simp only [upd, za, zaa]; exact rfl) ?_
  refine zae ?_
  refine zaf ?_
  refine zad ?_
  refine zab rfl rfl rfl (op_ldmw rfl tb24 (ev1 rfl) rfl rfl) ?_
  refine walk_s rfl rfl (op_stam rfl tb24 (ev1 rfl) (ev1 rfl) rfl rfl rfl rfl) (by simp only [upd, za, zaa]; exact rfl) ?_
  refine zae ?_
  refine dwp_ret ?_
  refine kend [0, 3] (rs1 rfl (rv_mw tb24 rfl rfl rfl)) rfl rfl ?_ ⟨rfl, rfl, trivial⟩
  rfl
set_option maxRecDepth 4000 in
set_option maxHeartbeats 1000000 in
theorem scuts_d (w h : Int) (ts : List TL) (hg : tsRng ts) (w2 h2 : Int) (l : List C4) (hlr : ∀ c ∈ l, c.rng) (p : P2) (hp : p.rng) : DFun Try.prog 7 [shD w h ts, .agg [.val (.int .i64 w2), .val (.int .i64 h2), .slf 4 l.length (l.flatMap c4)], .val (.agg (p2 p).toArray)] [] (.val (.bool true)) [] := by
  refine dcalls_go (N := 138) 0 (by kernel_rfl) Try.func7 rfl rfl rfl (by simp only [fr0, Nat.zero_add, Nat.reduceAdd]; exact rfl) rfl fun s0 hs0 => ?_
  refine zaf ?_
  refine zai 3 (by simp only [holes, List.cons_append, List.nil_append]; exact rfl) ?_
  refine zad ?_
  refine zak rfl rfl rfl (op_boxam 0 rfl (ev1 rfl) rfl) (by simp only [upd, za, zaa]; exact rfl) ?_
  refine zak rfl rfl rfl (op_boxam 1 rfl (ev1 rfl) rfl) (by simp only [upd, za, zaa]; exact rfl) ?_
  refine zak rfl rfl rfl (op_boxa 2 rfl (ev1 rfl) rfl) (by simp only [upd, za, zaa]; exact rfl) ?_
  refine zab rfl rfl rfl (zac (.inr rfl) (ev1 rfl)) ?_
  refine zae ?_
  refine zaf ?_
  refine zaf ?_
  refine zad ?_
  refine zab rfl rfl rfl (zaj [] [] [] rfl (ev1 rfl) en rfl rfl (swakes_d) rfl rfl rfl rfl rfl rfl) ?_
  refine zab rfl rfl rfl (op_not rfl (ev1 rfl)) ?_
  refine zae ?_
  refine dwp_if_f rfl (rfl) ?_
  refine dwp_skip ?_
  refine zaf ?_
  obtain ⟨L, hL⟩ : ∃ L, L = l.take 66 := ⟨_, rfl⟩
  have hLl : L.length ≤ 66 := by rw [hL, List.length_take]; omega
  have hLr : ∀ c ∈ L, c.rng := fun c hc => hlr c (List.mem_of_mem_take (hL ▸ hc))
  refine zai 2 (by simp only [holes, List.cons_append, List.nil_append]; exact rfl) ?_
  refine zad ?_
  refine zab rfl rfl rfl (op_ldmw rfl tb24 (ev1 rfl) rfl rfl) ?_
  refine zak rfl rfl rfl (zaj [] [] [3] rfl (ev1 rfl) (ec (ev1 rfl) en) rfl rfl ((by rw [hL]; exact sown_o w2 h2 l : DFun Try.prog 9 [.agg [.val (.int .i64 w2), .val (.int .i64 h2), .slf 4 l.length (l.flatMap c4)]] [] (.agg [.val (.int .i64 w2), .val (.int .i64 h2), .arr 0]) [.arr 38 4 (L).length ((L).flatMap c4)])) rfl rfl rfl rfl rfl rfl) (by simp only [upd, za, zaa]; exact rfl) ?_
  refine zak rfl rfl rfl (zal 4 rfl zr24 rfl) (by simp only [upd, za, zaa]; exact rfl) ?_
  refine walk_s rfl rfl (op_stam rfl tb24 (ev1 rfl) (ev1 rfl) rfl rfl rfl rfl) (by simp only [upd, za, zaa]; exact rfl) ?_
  refine zae ?_
  refine zaf ?_
  by_cases hright : rightB w h ts = true
  · have hc := rightB_ok hright
    refine zad ?_
    refine zab rfl rfl rfl (op_ldmw rfl tb55 (ev1 rfl) rfl rfl) ?_
    refine zab rfl rfl rfl (zaj [] [] [] rfl (ev1 rfl) (ec (ev1 rfl) en) rfl rfl (of_d w h ts hc) rfl rfl rfl rfl rfl rfl) ?_
    refine zab rfl rfl rfl (zac (.inl rfl) (ev1 rfl)) ?_
    refine zab rfl rfl rfl (op_ext rfl (ev1 rfl) rfl) ?_
    refine zab rfl rfl rfl (op_ext rfl (ev1 rfl) rfl) ?_
    refine zab rfl rfl rfl (zac (.inr rfl) (ev1 rfl)) ?_
    refine zab rfl rfl rfl (zac (.inr rfl) (ev1 rfl)) ?_
    refine zae ?_
    refine zaf ?_
    refine zaf ?_
    by_cases hst : rightS w2 h2 L = true
    · refine zad ?_
      refine zab rfl rfl rfl (zac (.inl rfl) (ev1 rfl)) ?_
      refine zab rfl rfl rfl (op_neq rfl (ev1 rfl) (ev1 rfl)) ?_
      refine zab rfl rfl rfl (zac (.inl rfl) (ev1 rfl)) ?_
      refine zah (gd_f rfl rfl rfl) rfl rfl rfl (op_ldmw rfl tb24 (ev1 rfl) rfl rfl) ?_
      refine zah (gd_f rfl rfl rfl) rfl rfl rfl (zaj [] [3] [] rfl (ev1 rfl) (ec (ev2 rfl) en) rfl rfl (scheck_d w2 h2 L) rfl rfl rfl rfl rfl rfl) ?_
      refine zah (gd_f rfl rfl rfl) rfl rfl rfl (op_neq rfl (ev2 rfl) (ev1 rfl)) ?_
      refine zab rfl rfl rfl (op_or rfl (ev1 rfl) (ev3 rfl id)) ?_
      refine zae ?_
      refine dwp_if_f rfl (by rw [hst]; rfl) ?_
      refine dwp_skip ?_
      refine zaf ?_
      obtain ⟨W, H, rfl, rfl, hs⟩ := rightS_ok hst
      obtain ⟨s, hse⟩ : ∃ s : StM, s = ⟨W, H, L⟩ := ⟨_, rfl⟩
      obtain ⟨rfl, rfl, rfl⟩ : W = s.W ∧ H = s.H ∧ L = s.l := by rw [hse]; exact ⟨rfl, rfl, rfl⟩
      have hle := hs.le
      have hln := hs.len
      have hsF : StOk s.W s.H (s.l.map (wA 255)) := ⟨hs.w, hs.h, by rw [List.length_map]; exact hln⟩
      have hsZ : StOk s.W s.H (s.l.map (wA 0)) := ⟨hs.w, hs.h, by rw [List.length_map]; exact hln⟩
      have hlF : ∀ c ∈ (s.l.map (wA 255)), c.rng := fun c hc => by
        obtain ⟨d, hd, rfl⟩ := List.mem_map.1 hc
        obtain ⟨r1, r2, r3, _⟩ := hLr d hd
        exact ⟨r1, r2, r3, (by show (0 : Int) ≤ 255; decide), (by show (255 : Int) ≤ 255; decide)⟩
      have hlZ : ∀ c ∈ (s.l.map (wA 0)), c.rng := fun c hc => by
        obtain ⟨d, hd, rfl⟩ := List.mem_map.1 hc
        obtain ⟨r1, r2, r3, _⟩ := hLr d hd
        exact ⟨r1, r2, r3, (by show (0 : Int) ≤ 0; decide), (by show (0 : Int) ≤ 255; decide)⟩
      have haF : ∀ c ∈ (s.l.map (wA 255)), c.a = 255 := fun c hc => by
        obtain ⟨d, hd, rfl⟩ := List.mem_map.1 hc
        rfl
      have haZ : ∀ c ∈ (s.l.map (wA 0)), c.a = 0 := fun c hc => by
        obtain ⟨d, hd, rfl⟩ := List.mem_map.1 hc
        rfl
      have hp1 : ∀ q ∈ [p], q.rng := fun q hq => by
        rw [List.mem_singleton] at hq
        subst hq
        exact hp
      refine zai 2 (by simp only [holes, List.cons_append, List.nil_append]; exact rfl) ?_
      refine zad ?_
      refine zab rfl rfl rfl (op_ldmw rfl tb24 (ev1 rfl) rfl rfl) ?_
      refine zak rfl rfl rfl (zaj [3] [] [5] rfl (ev1 rfl) (ec (ev1 rfl) en) rfl rfl (sown_s (s.W : Int) (s.H : Int) s.l (by omega) hLl) rfl rfl rfl rfl rfl rfl) (by simp only [upd, za, zaa]; exact rfl) ?_
      refine zak rfl rfl rfl (zal 6 rfl zr24 rfl) (by simp only [upd, za, zaa]; exact rfl) ?_
      refine walk_s rfl rfl (op_stam rfl tb24 (ev1 rfl) (ev1 rfl) rfl rfl rfl rfl) (by simp only [upd, za, zaa]; exact rfl) ?_
      refine zae ?_
      refine zaf ?_
      refine zaf ?_
      refine zad ?_
      refine zab rfl rfl rfl (op_fa rfl fo24_2 (ev1 rfl)) ?_
      refine zab rfl rfl rfl (op_ldm rfl tb22 (ev1 rfl) rfl rfl) ?_
      refine zab rfl rfl rfl (op_lena rfl sl22 (ev1 rfl) rfl) ?_
      refine zab rfl rfl rfl (zac (.inl rfl) (ev1 rfl)) ?_
      refine zae ?_
      refine dwp_block ?_
      refine dwp_loopS ⟨hs0, rfl⟩ (α := Nat) (fun k => [(37, .val (.int .i64 (k : Int)))]) [(5, _), (7, _), (8, _), (10, _), (36, _)] (fun k => [(3, .arr 38 4 (alA 255 s.l k).length ((alA 255 s.l k).flatMap c4)), (5, .arr 38 4 (alA 0 s.l k).length ((alA 0 s.l k).flatMap c4))]) [_, _, _, .hole, _, .hole, _] (fun k => k ≤ s.l.length) (fun k => s.l.length - k) 0 [0, 1, 2, 3, 4, 5, 6] (Nat.zero_le _) rfl ⟨rfl, rfl, rfl, rfl, rfl, trivial⟩ ⟨rfl, trivial⟩ ⟨rfl, rfl, rfl, rfl, rfl, rfl, rfl, trivial⟩ ?_
      intro k hx
      simp only [upd, za, zaa, List.cons_append, List.nil_append]
      have hk := hx
      have hl1 := alA_len 255 s.l k
      have hl2 := alA_len 0 s.l k
      refine zaf ?_
      refine zad ?_
      refine zab rfl rfl rfl (op_lss rfl (ev1 rfl) (ev1 rfl)) ?_
      refine zae ?_
      refine zaf ?_
      refine dwp_cond rfl (fun c3 => ?_) (fun c3 => ?_)
      · try simp only [yg, ya, beq_iff_eq, bne_iff_ne, yb, yc, yf, ye, yh, yi, yd, ne_eq, yj, Int.not_lt, Int.not_le] at c3
        refine dwp_skip ?_
        refine zaf ?_
        refine dwp_block ?_
        refine zaf ?_
        refine zad ?_
        refine zab rfl rfl rfl (zac (.inl rfl) (ev1 rfl)) ?_
        refine zab rfl rfl rfl (zac (.inr rfl) (ev1 rfl)) ?_
        refine zae ?_
        refine dwp_draw [([], []), ([4], []), ([], []), ([], []), ([6], []), ([], []), ([3], []), ([], []), ([3], [3]), ([5], []), ([], []), ([5], [5])] mixed (by kernel_rfl) ?_
        refine zag rfl rfl (op_fa rfl fo24_2 (ev1 rfl)) ?_
        refine zag rfl rfl (op_ldm rfl tb22 (ev1 rfl) rfl rfl) ?_
        refine zag rfl rfl (zac (.inl rfl) (ev1 rfl)) ?_
        refine zag rfl rfl (op_fa rfl fo24_2 (ev1 rfl)) ?_
        refine zag rfl rfl (op_ldm rfl tb22 (ev1 rfl) rfl rfl) ?_
        refine zag rfl rfl (zac (.inl rfl) (ev1 rfl)) ?_
        refine zag rfl rfl (op_ixar (j := k) rfl sl22 (ev1 rfl) (ev1 rfl) rfl (fun _ => by first | rfl | omega) (fun _ => by omega)) ?_
        refine zag rfl rfl (op_faa rfl fo38_3 (ev1 rfl)) ?_
        refine lex_s rfl rfl (op_sta rfl tb5 (ev1 rfl) (ev1 rfl) rfl rfl rfl (by rfl) (by rw [flat_len c4_len, alA_len]; simp [Value.cells]; omega) (setL_ca (q := k) (by omega))) rfl (by simp only [upd, za, zaa]; exact rfl) ?_
        refine zag rfl rfl (op_ixar (j := k) rfl sl22 (ev1 rfl) (ev1 rfl) rfl (fun _ => by first | rfl | omega) (fun _ => by omega)) ?_
        refine zag rfl rfl (op_faa rfl fo38_3 (ev1 rfl)) ?_
        refine lex_s rfl rfl (op_sta rfl tb5 (ev1 rfl) (ev1 rfl) rfl rfl rfl (by rfl) (by rw [flat_len c4_len, alA_len]; simp [Value.cells]; omega) (setL_ca (q := k) (by omega))) rfl (by simp only [upd, za, zaa]; exact rfl) ?_
        refine lex_nil ?_
        refine zad ?_
        refine zab rfl rfl rfl (op_add' rfl (ev1 rfl) (ev1 rfl) (fun _ => IntWalk.i64_in _ (by omega))) ?_
        refine zab rfl rfl rfl (zac (.inl rfl) (ev1 rfl)) ?_
        refine zae ?_
        refine ⟨k + 1, [0, 1, 2, 3, 4, 5, 6], by omega, by simp only []; omega, rfl, ⟨rfl, rfl, rfl, rfl, rfl, rfl, trivial⟩, ⟨rfl, rfl, rfl, arr_eq (by rw [alA_len, alA_len]) rfl, rfl, arr_eq (by rw [alA_len, alA_len]) rfl, rfl, trivial⟩⟩
      · try simp only [yg, ya, beq_iff_eq, bne_iff_ne, yb, yc, yf, ye, yh, yi, yd, ne_eq, yj, Int.not_lt, Int.not_le] at c3
        refine dwp_exit ?_
        refine zaf ?_
        refine dwp_giveAm 4 2 rfl rfl rfl (by simp only [List.cons_append, List.nil_append, za, zaa]; exact rfl) ?_
        refine dwp_giveAm 6 2 rfl rfl rfl (by simp only [List.cons_append, List.nil_append, za, zaa]; exact rfl) ?_
        obtain rfl : k = s.l.length := by omega
        rw [alA_end, alA_end]
        obtain ⟨D, hD⟩ : ∃ D, D = layC w h ts s.W s.H (s.l.map (wA 255)) p := ⟨_, rfl⟩
        obtain ⟨E, hE⟩ : ∃ E, E = layC w h ts s.W s.H (s.l.map (wA 0)) p := ⟨_, rfl⟩
        have hcD : CvOk w h D := by rw [hD]; exact hc.lay _ _ _ _
        have hEt : E = ts := by rw [hE]; exact lay_none hc hg hp hsZ hlZ haZ
        have hcE : CvOk w h E := by rw [hEt]; exact hc
        refine zad ?_
        refine zab rfl rfl rfl (zac (.inl rfl) (ev1 rfl)) ?_
        refine zab rfl rfl rfl (op_ldmw rfl tb24 (ev1 rfl) rfl rfl) ?_
        refine zab rfl rfl rfl (op_ldw rfl tb36 (ev1 rfl) rfl rfl) ?_
        refine zab rfl rfl rfl (op_bs (ps := [(0, .tmp 54)]) rfl sl25 zr36 rfl (vc (ev1 rfl) vn) rfl (by decide) (by decide)) ?_
        refine zab rfl rfl rfl (zaj [] [] [] rfl (ev1 rfl) (ec (ev1 rfl) (ec (ev1 rfl) (ec (ev1 rfl) en))) rfl rfl ((by rw [hD]; exact lay_d w h _ ts (dpR_ok _) hc hg s.W s.H (s.l.map (wA 255)) hsF hlF [p] hp1 (by simp) : DFun Try.prog 29 [cvD w h (dpR ts), .agg [.val (.int .i64 (s.W : Int)), .val (.int .i64 (s.H : Int)), .slf 4 (s.l.map (wA 255)).length ((s.l.map (wA 255)).flatMap c4)], .slf 2 [p].length ([p].flatMap p2)] [] (.tup [cvD w h (dpR D), .val (.int .i64 0)]) [])) rfl rfl rfl rfl rfl rfl) ?_
        refine zab rfl rfl rfl (zac (.inl rfl) (ev1 rfl)) ?_
        refine zab rfl rfl rfl (op_ext rfl (ev1 rfl) rfl) ?_
        refine zab rfl rfl rfl (op_ext rfl (ev1 rfl) rfl) ?_
        refine zab rfl rfl rfl (zac (.inr rfl) (ev1 rfl)) ?_
        refine zab rfl rfl rfl (zac (.inr rfl) (ev1 rfl)) ?_
        refine zae ?_
        refine zaf ?_
        refine zad ?_
        refine zab rfl rfl rfl (zac (.inl rfl) (ev1 rfl)) ?_
        refine zab rfl rfl rfl (op_ldmw rfl tb24 (ev1 rfl) rfl rfl) ?_
        refine zab rfl rfl rfl (op_ldw rfl tb36 (ev1 rfl) rfl rfl) ?_
        refine zab rfl rfl rfl (op_bs (ps := [(0, .tmp 62)]) rfl sl25 zr36 rfl (vc (ev1 rfl) vn) rfl (by decide) (by decide)) ?_
        refine zab rfl rfl rfl (zaj [] [] [] rfl (ev1 rfl) (ec (ev1 rfl) (ec (ev1 rfl) (ec (ev1 rfl) en))) rfl rfl ((by rw [hE]; exact lay_d w h _ ts (dpR_ok _) hc hg s.W s.H (s.l.map (wA 0)) hsZ hlZ [p] hp1 (by simp) : DFun Try.prog 29 [cvD w h (dpR ts), .agg [.val (.int .i64 (s.W : Int)), .val (.int .i64 (s.H : Int)), .slf 4 (s.l.map (wA 0)).length ((s.l.map (wA 0)).flatMap c4)], .slf 2 [p].length ([p].flatMap p2)] [] (.tup [cvD w h (dpR E), .val (.int .i64 0)]) [])) rfl rfl rfl rfl rfl rfl) ?_
        refine zab rfl rfl rfl (zac (.inl rfl) (ev1 rfl)) ?_
        refine zab rfl rfl rfl (op_ext rfl (ev1 rfl) rfl) ?_
        refine zab rfl rfl rfl (op_ext rfl (ev1 rfl) rfl) ?_
        refine zab rfl rfl rfl (zac (.inr rfl) (ev1 rfl)) ?_
        refine zab rfl rfl rfl (zac (.inr rfl) (ev1 rfl)) ?_
        refine zae ?_
        refine zaf ?_
        refine zaf ?_
        have hw0 := wear_none haZ
        have hwF : wearN (s.l.map (wA 255)) = s.W * s.H := by rw [wear_all fun c hc => by rw [haF c hc]; decide, hsF.len]
        have hmm := mulc s.W s.H
        have hd1 := dif_lay hc (p := p) s.W s.H (s.l.map (wA 255))
        have hd2 := ovL_len w h ts p.x p.y s.W (s.l.map (wA 255)) (s.W * s.H)
        rw [← hD] at hd1
        refine dwp_draw [([], []), ([], []), ([], []), ([], []), ([], []), ([], []), ([], []), ([], []), ([], []), ([], []), ([], []), ([], []), ([], []), ([6], []), ([], []), ([], []), ([], []), ([], []), ([4], []), ([], []), ([], []), ([4], []), ([], []), ([4], []), ([], []), ([], []), ([], [])] mixed (by kernel_rfl) ?_
        refine zag rfl rfl (zac (.inl rfl) (ev1 rfl)) ?_
        refine zag rfl rfl (op_neq rfl (ev1 rfl) (ev1 rfl)) ?_
        refine zag rfl rfl (zac (.inl rfl) (ev1 rfl)) ?_
        refine lex_gr (gd_f rfl rfl rfl) rfl rfl (zac (.inl rfl) (ev1 rfl)) ?_
        refine lex_gr (gd_f rfl rfl rfl) rfl rfl (op_neq rfl (ev2 rfl) (ev1 rfl)) ?_
        refine zag rfl rfl (op_or rfl (ev1 rfl) (ev3 rfl id)) ?_
        refine zag rfl rfl (zac (.inl rfl) (ev1 rfl)) ?_
        refine lex_gr (gd_f rfl rfl rfl) rfl rfl (zac (.inl rfl) (ev1 rfl)) ?_
        refine lex_gr (gd_f rfl rfl rfl) rfl rfl (zac (.inl rfl) (ev1 rfl)) ?_
        refine lex_gr (gd_f rfl rfl rfl) rfl rfl (zaj [] [] [] rfl (ev1 rfl) (ec (ev2 rfl) (ec (ev2 rfl) en)) rfl rfl (same_cv w h _ _ E ts (dpR_ok _) (dpR_ok _) hcE hc) rfl rfl rfl rfl rfl rfl) ?_
        refine lex_gr (gd_f rfl rfl rfl) rfl rfl (op_not rfl (ev2 rfl)) ?_
        refine zag rfl rfl (op_or rfl (ev1 rfl) (ev3 rfl id)) ?_
        refine zag rfl rfl (zac (.inl rfl) (ev1 rfl)) ?_
        refine lex_gr (gd_f rfl rfl rfl) rfl rfl (op_ldmw rfl tb24 (ev1 rfl) rfl rfl) ?_
        refine lex_gr (gd_f rfl rfl rfl) rfl rfl (zaj [] [] [] rfl (ev1 rfl) (ec (ev2 rfl) en) rfl rfl (wears_ok s.W s.H (s.l.map (wA 0)) hsZ) rfl rfl rfl rfl rfl rfl) ?_
        refine lex_gr (gd_f rfl rfl rfl) rfl rfl (op_neq rfl (ev2 rfl) (ev1 rfl)) ?_
        refine zag rfl rfl (op_or rfl (ev1 rfl) (ev3 rfl id)) ?_
        refine zag rfl rfl (zac (.inl rfl) (ev1 rfl)) ?_
        refine lex_gr (gd_f rfl rfl rfl) rfl rfl (op_ldmw rfl tb24 (ev1 rfl) rfl rfl) ?_
        refine lex_gr (gd_f rfl rfl rfl) rfl rfl (zaj [] [] [] rfl (ev1 rfl) (ec (ev2 rfl) en) rfl rfl (wears_ok s.W s.H (s.l.map (wA 255)) hsF) rfl rfl rfl rfl rfl rfl) ?_
        refine lex_gr (gd_f rfl rfl rfl) rfl rfl (op_fa rfl fo24_0 (ev1 rfl)) ?_
        refine lex_gr (gd_f rfl rfl rfl) rfl rfl (op_ldm rfl tb3 (ev2 rfl) rfl rfl) ?_
        refine lex_gr (gd_f rfl rfl rfl) rfl rfl (op_fa rfl fo24_1 (ev1 rfl)) ?_
        refine lex_gr (gd_f rfl rfl rfl) rfl rfl (op_ldm rfl tb3 (ev2 rfl) rfl rfl) ?_
        refine lex_gr (gd_f rfl rfl rfl) rfl rfl (op_mul' rfl (ev2 rfl) (ev2 rfl) (fun hp => IntWalk.i64_in _ (by first | omega | (simp at hp; omega)))) ?_
        refine lex_gr (gd_f rfl rfl rfl) rfl rfl (op_neq rfl (ev2 rfl) (ev2 rfl)) ?_
        refine zag rfl rfl (op_or rfl (ev1 rfl) (ev3 rfl id)) ?_
        refine lex_nil ?_
        refine dwp_if_f rfl (by rw [hw0, hwF, hEt]; simp) ?_
        refine dwp_skip ?_
        refine zaf ?_
        by_cases hcut : cutB w h p.x p.y (s.W : Int) (s.H : Int) = true
        · obtain ⟨W1, H1, e1, e2, hk1⟩ := cutB_ok hcut
          obtain rfl : W1 = s.W := by omega
          obtain rfl : H1 = s.H := by omega
          have hcl : cutL w D p.x p.y s.W s.H = (s.l.map (wA 255)) := by rw [hD]; exact lay_cut hc hg hp hsF hlF haF hk1
          refine zai 1 (by simp only [holes, List.cons_append, List.nil_append]; exact rfl) ?_
          refine zad ?_
          refine zab rfl rfl rfl (zac (.inl rfl) (ev1 rfl)) ?_
          refine zab rfl rfl rfl (op_fa rfl fo36_0 (ev1 rfl)) ?_
          refine zab rfl rfl rfl (op_ldo rfl tb3 (ev1 rfl) rfl rfl) ?_
          refine zab rfl rfl rfl (op_fa rfl fo36_1 (ev1 rfl)) ?_
          refine zab rfl rfl rfl (op_ldo rfl tb3 (ev1 rfl) rfl rfl) ?_
          refine zab rfl rfl rfl (op_fa rfl fo24_0 (ev1 rfl)) ?_
          refine zab rfl rfl rfl (op_ldm rfl tb3 (ev1 rfl) rfl rfl) ?_
          refine zab rfl rfl rfl (op_fa rfl fo24_1 (ev1 rfl)) ?_
          refine zab rfl rfl rfl (op_ldm rfl tb3 (ev1 rfl) rfl rfl) ?_
          refine zab rfl rfl rfl (zaj [] [] [] rfl (ev1 rfl) (ec (ev1 rfl) (ec (ev1 rfl) (ec (ev1 rfl) (ec (ev1 rfl) (ec (ev1 rfl) en))))) rfl rfl (cut_d w h _ D (dpR_ok _) hcD p.x p.y s.W s.H hk1) rfl rfl rfl rfl rfl rfl) ?_
          refine zab rfl rfl rfl (zac (.inl rfl) (ev1 rfl)) ?_
          refine zab rfl rfl rfl (op_ext rfl (ev1 rfl) rfl) ?_
          refine zab rfl rfl rfl (op_ext rfl (ev1 rfl) rfl) ?_
          refine zak rfl rfl rfl (zal 7 rfl zr24 rfl) (by simp only [upd, za, zaa]; exact rfl) ?_
          refine walk_s rfl rfl (op_stam rfl tb24 (ev1 rfl) (ev1 rfl) rfl rfl rfl rfl) (by simp only [upd, za, zaa]; exact rfl) ?_
          refine zab rfl rfl rfl (zac (.inr rfl) (ev1 rfl)) ?_
          refine zae ?_
          refine zaf ?_
          refine zaf ?_
          refine zad ?_
          refine zab rfl rfl rfl (zac (.inl rfl) (ev1 rfl)) ?_
          refine zab rfl rfl rfl (op_eql rfl (ev1 rfl) (ev1 rfl)) ?_
          refine zae ?_
          refine dwp_if_t rfl (rfl) ?_
          refine zaf ?_
          refine dwp_draw [([7], []), ([4], []), ([], []), ([], []), ([], []), ([], []), ([], []), ([], []), ([], []), ([4], []), ([], []), ([4], []), ([], []), ([], []), ([], []), ([], [])] mixed (by kernel_rfl) ?_
          refine zag rfl rfl (op_ldmw rfl tb24 (ev1 rfl) rfl rfl) ?_
          refine zag rfl rfl (op_ldmw rfl tb24 (ev1 rfl) rfl rfl) ?_
          refine zag rfl rfl (zaj [] [] [] rfl (ev1 rfl) (ec (ev1 rfl) (ec (ev1 rfl) en)) rfl rfl (ssame_d _ _ _ _ _ _) rfl rfl rfl rfl rfl rfl) ?_
          refine zag rfl rfl (zac (.inl rfl) (ev1 rfl)) ?_
          refine lex_gr (gd_t rfl rfl rfl) rfl rfl (zac (.inl rfl) (ev1 rfl)) ?_
          refine lex_gr (gd_t rfl rfl rfl) rfl rfl (zac (.inl rfl) (ev1 rfl)) ?_
          refine lex_gr (gd_t rfl rfl rfl) rfl rfl (zaj [] [] [] rfl (ev1 rfl) (ec (ev2 rfl) (ec (ev2 rfl) en)) rfl rfl (differ_d w h _ _ ts D (dpR_ok _) (dpR_ok _) hc hcD) rfl rfl rfl rfl rfl rfl) ?_
          refine lex_gr (gd_t rfl rfl rfl) rfl rfl (op_len rfl sl25 (ev2 rfl)) ?_
          refine lex_gr (gd_t rfl rfl rfl) rfl rfl (op_fa rfl fo24_0 (ev1 rfl)) ?_
          refine lex_gr (gd_t rfl rfl rfl) rfl rfl (op_ldm rfl tb3 (ev2 rfl) rfl rfl) ?_
          refine lex_gr (gd_t rfl rfl rfl) rfl rfl (op_fa rfl fo24_1 (ev1 rfl)) ?_
          refine lex_gr (gd_t rfl rfl rfl) rfl rfl (op_ldm rfl tb3 (ev2 rfl) rfl rfl) ?_
          refine lex_gr (gd_t rfl rfl rfl) rfl rfl (op_mul' rfl (ev2 rfl) (ev2 rfl) (fun hp => IntWalk.i64_in _ (by first | omega | (simp at hp; omega)))) ?_
          refine lex_gr (gd_t rfl rfl rfl) rfl rfl (op_leq rfl (ev2 rfl) (ev2 rfl)) ?_
          refine zag rfl rfl (op_and rfl (ev1 rfl) (ev3 rfl id)) ?_
          refine zag rfl rfl (zac (.inr rfl) (ev1 rfl)) ?_
          refine lex_nil ?_
          refine dwp_ret ?_
          refine kend0 (rs1 rfl (rv_t rfl)) rfl ?_
          first | rfl | (rw [hcl]; simp; omega) | (simp; omega)
        · have hless := ov_less (ts := ts) hc.may hp hsF (by simpa using hcut)
          refine zai 1 (by simp only [holes, List.cons_append, List.nil_append]; exact rfl) ?_
          refine zad ?_
          refine zab rfl rfl rfl (zac (.inl rfl) (ev1 rfl)) ?_
          refine zab rfl rfl rfl (op_fa rfl fo36_0 (ev1 rfl)) ?_
          refine zab rfl rfl rfl (op_ldo rfl tb3 (ev1 rfl) rfl rfl) ?_
          refine zab rfl rfl rfl (op_fa rfl fo36_1 (ev1 rfl)) ?_
          refine zab rfl rfl rfl (op_ldo rfl tb3 (ev1 rfl) rfl rfl) ?_
          refine zab rfl rfl rfl (op_fa rfl fo24_0 (ev1 rfl)) ?_
          refine zab rfl rfl rfl (op_ldm rfl tb3 (ev1 rfl) rfl rfl) ?_
          refine zab rfl rfl rfl (op_fa rfl fo24_1 (ev1 rfl)) ?_
          refine zab rfl rfl rfl (op_ldm rfl tb3 (ev1 rfl) rfl rfl) ?_
          refine zab rfl rfl rfl (zaj [] [] [] rfl (ev1 rfl) (ec (ev1 rfl) (ec (ev1 rfl) (ec (ev1 rfl) (ec (ev1 rfl) (ec (ev1 rfl) en))))) rfl rfl ((cut_no w h _ D (dpR_ok _) hcD p.x p.y (s.W : Int) (s.H : Int) (by simpa using hcut)).wk (wk_zst 2)) rfl rfl rfl rfl rfl rfl) ?_
          refine zab rfl rfl rfl (zac (.inl rfl) (ev1 rfl)) ?_
          refine zab rfl rfl rfl (op_ext rfl (ev1 rfl) rfl) ?_
          refine zab rfl rfl rfl (op_ext rfl (ev1 rfl) rfl) ?_
          refine zak rfl rfl rfl (zal 7 rfl zr24 rfl) (by simp only [upd, za, zaa]; exact rfl) ?_
          refine walk_s rfl rfl (op_stam rfl tb24 (ev1 rfl) (ev1 rfl) rfl rfl rfl rfl) (by simp only [upd, za, zaa]; exact rfl) ?_
          refine zab rfl rfl rfl (zac (.inr rfl) (ev1 rfl)) ?_
          refine zae ?_
          refine zaf ?_
          refine zaf ?_
          refine zad ?_
          refine zab rfl rfl rfl (zac (.inl rfl) (ev1 rfl)) ?_
          refine zab rfl rfl rfl (op_eql rfl (ev1 rfl) (ev1 rfl)) ?_
          refine zae ?_
          refine dwp_if_f rfl (rfl) ?_
          refine dwp_skip ?_
          refine zaf ?_
          refine dwp_draw [([], []), ([], []), ([], []), ([], []), ([], []), ([], []), ([], []), ([], []), ([4], []), ([], []), ([4], []), ([], []), ([], []), ([], []), ([], [])] mixed (by kernel_rfl) ?_
          refine zag rfl rfl (zac (.inl rfl) (ev1 rfl)) ?_
          refine zag rfl rfl (op_eql rfl (ev1 rfl) (ev1 rfl)) ?_
          refine zag rfl rfl (zac (.inl rfl) (ev1 rfl)) ?_
          refine lex_gr (gd_t rfl rfl rfl) rfl rfl (zac (.inl rfl) (ev1 rfl)) ?_
          refine lex_gr (gd_t rfl rfl rfl) rfl rfl (zac (.inl rfl) (ev1 rfl)) ?_
          refine lex_gr (gd_t rfl rfl rfl) rfl rfl (zaj [] [] [] rfl (ev1 rfl) (ec (ev2 rfl) (ec (ev2 rfl) en)) rfl rfl (differ_d w h _ _ ts D (dpR_ok _) (dpR_ok _) hc hcD) rfl rfl rfl rfl rfl rfl) ?_
          refine lex_gr (gd_t rfl rfl rfl) rfl rfl (op_len rfl sl25 (ev2 rfl)) ?_
          refine lex_gr (gd_t rfl rfl rfl) rfl rfl (op_fa rfl fo24_0 (ev1 rfl)) ?_
          refine lex_gr (gd_t rfl rfl rfl) rfl rfl (op_ldm rfl tb3 (ev2 rfl) rfl rfl) ?_
          refine lex_gr (gd_t rfl rfl rfl) rfl rfl (op_fa rfl fo24_1 (ev1 rfl)) ?_
          refine lex_gr (gd_t rfl rfl rfl) rfl rfl (op_ldm rfl tb3 (ev2 rfl) rfl rfl) ?_
          refine lex_gr (gd_t rfl rfl rfl) rfl rfl (op_mul' rfl (ev2 rfl) (ev2 rfl) (fun hp => IntWalk.i64_in _ (by first | omega | (simp at hp; omega)))) ?_
          refine lex_gr (gd_t rfl rfl rfl) rfl rfl (op_lss rfl (ev2 rfl) (ev2 rfl)) ?_
          refine zag rfl rfl (op_and rfl (ev1 rfl) (ev3 rfl id)) ?_
          refine zag rfl rfl (zac (.inr rfl) (ev1 rfl)) ?_
          refine lex_nil ?_
          refine dwp_ret ?_
          refine kend0 (rs1 rfl (rv_t rfl)) rfl ?_
          first | rfl | (rw [hcl]; simp; omega) | (simp; omega)
    · refine zad ?_
      refine zab rfl rfl rfl (zac (.inl rfl) (ev1 rfl)) ?_
      refine zab rfl rfl rfl (op_neq rfl (ev1 rfl) (ev1 rfl)) ?_
      refine zab rfl rfl rfl (zac (.inl rfl) (ev1 rfl)) ?_
      refine zah (gd_f rfl rfl rfl) rfl rfl rfl (op_ldmw rfl tb24 (ev1 rfl) rfl rfl) ?_
      refine zah (gd_f rfl rfl rfl) rfl rfl rfl (zaj [] [3] [] rfl (ev1 rfl) (ec (ev2 rfl) en) rfl rfl (scheck_d w2 h2 L) rfl rfl rfl rfl rfl rfl) ?_
      refine zah (gd_f rfl rfl rfl) rfl rfl rfl (op_neq rfl (ev2 rfl) (ev1 rfl)) ?_
      refine zab rfl rfl rfl (op_or rfl (ev1 rfl) (ev3 rfl id)) ?_
      refine zae ?_
      refine dwp_if_t rfl (by rw [show rightS w2 h2 L = false by simpa using hst]; rfl) ?_
      refine zaf ?_
      refine zad ?_
      refine zab rfl rfl rfl (zac (.inr rfl) (ev1 rfl)) ?_
      refine zae ?_
      refine dwp_ret ?_
      refine kend0 (rs1 rfl (rv_t rfl)) rfl ?_
      first | rfl | (rw [hcl]; simp; omega) | (simp; omega)
  · refine zad ?_
    refine zab rfl rfl rfl (op_ldmw rfl tb55 (ev1 rfl) rfl rfl) ?_
    refine zab rfl rfl rfl (zaj [] [] [] rfl (ev1 rfl) (ec (ev1 rfl) en) rfl rfl (of_0 w h ts (by simpa using hright)) rfl rfl rfl rfl rfl rfl) ?_
    refine zab rfl rfl rfl (zac (.inl rfl) (ev1 rfl)) ?_
    refine zab rfl rfl rfl (op_ext rfl (ev1 rfl) rfl) ?_
    refine zab rfl rfl rfl (op_ext rfl (ev1 rfl) rfl) ?_
    refine zab rfl rfl rfl (zac (.inr rfl) (ev1 rfl)) ?_
    refine zab rfl rfl rfl (zac (.inr rfl) (ev1 rfl)) ?_
    refine zae ?_
    refine zaf ?_
    refine zaf ?_
    refine zad ?_
    refine zab rfl rfl rfl (zac (.inl rfl) (ev1 rfl)) ?_
    refine zab rfl rfl rfl (op_neq rfl (ev1 rfl) (ev1 rfl)) ?_
    refine zab rfl rfl rfl (zac (.inl rfl) (ev1 rfl)) ?_
    refine zah (gd_f rfl rfl rfl) rfl rfl rfl (op_ldmw rfl tb24 (ev1 rfl) rfl rfl) ?_
    refine zah (gd_f rfl rfl rfl) rfl rfl rfl (zaj [] [3] [] rfl (ev1 rfl) (ec (ev2 rfl) en) rfl rfl (scheck_d w2 h2 L) rfl rfl rfl rfl rfl rfl) ?_
    refine zah (gd_f rfl rfl rfl) rfl rfl rfl (op_neq rfl (ev2 rfl) (ev1 rfl)) ?_
    refine zab rfl rfl rfl (op_or rfl (ev1 rfl) (ev3 rfl id)) ?_
    refine zae ?_
    refine dwp_if_t rfl (rfl) ?_
    refine zaf ?_
    refine zad ?_
    refine zab rfl rfl rfl (zac (.inr rfl) (ev1 rfl)) ?_
    refine zae ?_
    refine dwp_ret ?_
    refine kend0 (rs1 rfl (rv_t rfl)) rfl ?_
    first | rfl | (rw [hcl]; simp; omega) | (simp; omega)
end Go.Proofs.Ytadjbiccndaclaa
